import Derived.Test.YtgiiapenmjollaaSlbk
namespace Go.Proofs.Ytgiiapenmjollaa
set_option linter.all false
set_option maxHeartbeats 40000000
open Go.RowKit
section
open Go.Maps (Keyed has)
set_option maxRecDepth 100000 in
theorem handle_op17 (X:Nat→Prop) (wx w0:World) (g:Mg) (h:Hp) (qs:List Nat) (a:Mc) (c:Cal) (ia ib ic ii:Int) (args:List Int) (Q:Option Addr) (nl q:Nat) (w:World) (H:RX 1 X wx w0 g w h qs a c) (hs:h.stops=false) (hl:c.stk.length≤1000) (F:Fix w0 g h) (hob:h.objs.length≤100) (hst:∀v∈c.stk,v.kind=3→-1≤v.n∧v.n<h.objs.length) :
  Calls Try.prog 121 #[.pointer (some ⟨a.q,0,none⟩),.agg #[.int .i64 17,.int .i64 ia,.int .i64 ib,.int .i64 ic,.int .i64 ii,.slice Q nl q]] w fun e w'=>DidQ X wx w0 g qs a c (doesP h c ⟨17,ia,ib,ic,ii,args⟩) e w':=by
 have ho:=hs_over hs
 have HH:=hid H
 have HS:=hid hs
 have HB:Hid (Bl w (w.alloc (.cells #[.int .i64 17,.int .i64 ia,.int .i64 ib,.int .i64 ic,.int .i64 ii,.slice Q nl q] 51))):=(Bl.refl w).alloc _
 have HL:=hid (blk_new w #[.int .i64 17,.int .i64 ia,.int .i64 ib,.int .i64 ic,.int .i64 ii,.slice Q nl q] 51)
 have z0:=hid ((H.y.bl HB.out).hb)
 have z1:=hid (ins_of HL.out).1
 have bad:(c.stk=[]∨∃l v,c.stk=l++[v]∧v.kind≠3)→Calls Try.prog 121 #[.pointer (some ⟨a.q,0,none⟩),.agg #[.int .i64 17,.int .i64 ia,.int .i64 ib,.int .i64 ic,.int .i64 ii,.slice Q nl q]] w fun e w'=>DidQ X wx w0 g qs a c ⟨h.fin 6,c,0⟩ e w':=fun hn=>by
  have HN:=hid hn
  clear H hs hn F hst
  go_enter Try.func121,Try.ntmps121
  go_wp2
  refine wp_region_held_drew (S:=fun w'=>w'.cell? ⟨a.q,0,none⟩=some (.pointer (some ⟨g.hb,0,none⟩))∧w'.cell? ⟨w.heap.size,1,none⟩=some (.int .i64 ia)) (by kernel_rfl) ?_ (fun hHeld0=>?_)
  ·exact ⟨z0.out,z1.out⟩
  refine tk (i:=0) (d:=some 73) rfl rfl (by kernel_rfl) (fun _ _ _ h=>h) (by rfl) (by intro _ h;(try dsimp only at h);go_split_ands;go_simp<;>with_reducible rfl) hHeld0 ?_
  try simp only [aS,aN,aT,a0,a1]
  refine tk (i:=1) (d:=some 74) rfl rfl (by kernel_rfl) (fun _ _ _ h=>h) (by rfl) (by intro _ h;(try dsimp only at h);go_split_ands;go_simp<;>with_reducible rfl) hHeld0 ?_
  try simp only [aS,aN,aT,a0,a1]
  refine tk (i:=2) (d:=some 75) rfl rfl (by kernel_rfl) (fun _ _ _ h=>h) (by rfl) (by intro _ h;(try dsimp only at h);go_split_ands;go_simp<;>with_reducible rfl) hHeld0 ?_
  try simp only [aS,aN,aT,a0,a1]
  refine tk (i:=3) (d:=some 76) rfl rfl (by kernel_rfl) (fun _ _ _ h=>h) (by rfl) (by intro _ h;(try dsimp only at h);go_split_ands;go_simp<;>with_reducible rfl) hHeld0 ?_
  try simp only [aS,aN,aT,a0,a1]
  refine tk (i:=4) (d:=some 77) rfl rfl (by kernel_rfl) (fun _ _ _ h=>h) (by rfl) (by intro _ h;(try dsimp only at h);go_split_ands;go_simp<;>with_reducible rfl) hHeld0 ?_
  try simp only [aS,aN,aT,a0,a1]
  refine tk (i:=5) (d:=some 78) rfl rfl (by kernel_rfl) (fun _ _ _ h=>h) (by rfl) (by intro _ h;(try dsimp only at h);go_split_ands;go_simp<;>with_reducible rfl) hHeld0 ?_
  try simp only [aS,aN,aT,a0,a1]
  refine tk (i:=7) (d:=some 80) rfl rfl (by kernel_rfl) (fun _ _ _ h=>h) (by rfl) (by intro _ h;(try dsimp only at h);go_split_ands;go_simp<;>with_reducible rfl) hHeld0 ?_
  try simp only [aS,aN,aT,a0,a1]
  refine tk (i:=8) (d:=some 81) rfl rfl (by kernel_rfl) (fun _ _ _ h=>h) (by rfl) (by intro _ h;(try dsimp only at h);go_split_ands;go_simp<;>with_reducible rfl) hHeld0 ?_
  try simp only [aS,aN,aT,a0,a1]
  refine rd1 (i:=6) (by kernel_rfl) rfl fun K hK=>?_
  go_simp
  go_at_call 89
  refine (HH.out.y.useN HB.out.drew (fun X wx w H=>takeKind_no 1 X wx w0 g h qs a c 3 w H HN.out)).mono ?_
  rintro e w1 ⟨rfl,H1⟩
  exact ⟨rfl,did_fin (s:=0) (hs_over HS.out) rfl H1.less⟩
 have hd:doesP h c ⟨17,ia,ib,ic,ii,args⟩=givesP h c ⟨17,ia,ib,ic,ii,args⟩:=rfl
 have em:manyOf 17=1:=by decide
 rw [hd]
 unfold givesP
 dsimp only
 rw [em]
 rcases stk_one (c:=c) with h0|⟨l,v,h0⟩
 ·rw [must_no (has_nil h0),gives_over (fin6 ho 6).1,if_pos (fin_stops hs 6)]
  exact (bad (Or.inl h0)).mono fun e w' q=>did_chg (d:=⟨h.fin 6,c,0⟩) rfl (fin_stops hs 6) q
 obtain ⟨h1,h2,h4⟩:=has_one h0
 rw [must_yes h1,h2,h4]
 generalize nth va0 (c.top 1) 1=y
 by_cases hk:v.kind=3
 ·have hv3:=hst v (by rw [h0];simp) hk
  have hi:isRef v=true:=decide_eq_true hk
  have hm:h.mustB (isRef v)=true:=by unfold Hp.mustB;rw [hi,ho];rfl
  have hof:h.of v ⟨3,ia⟩=(decide (v.n<0)||belI h.file.classes (h.obj v.n).cls ia):=by unfold Hp.of;simp [hk]
  have eg:givesH h v y ⟨17,ia,ib,ic,ii,args⟩=if h.of v ⟨3,ia⟩=true then h else h.raise 3:=by
   unfold givesH
   rw [if_neg (by rw [ho];decide)]
   simp [Hp.cast,hm]
  have ev:givesV h v y ⟨17,ia,ib,ic,ii,args⟩=v:=by unfold givesV;rw [if_neg (by rw [ho];decide)];simp
  rw [eg,ev]
  have HT:Hid (∀X wx w,RX 1 X wx w0 g w h qs a c→Calls Try.prog 89 #[.pointer (some ⟨a.q,0,none⟩),.int .i64 3] w fun e w'=>e=.returned (mvV (im v))∧RX 1 X wx w0 g w' h qs a { c with stk:=l }):=fun X wx w H=>takeKind_yes 1 X wx w0 g h qs a c l v 3 w H h0 hk
  have HM:Hid (Fix w0 g h∧h.objs.length≤100∧v.kind=3∧-1≤v.n∧v.n<h.objs.length):=⟨F,hob,hk,hv3.1,hv3.2⟩
  cases hz:h.of v ⟨3,ia⟩ with
  | true =>
   have ef:(if true=true then h else h.raise 3)=h:=rfl
   rw [ef,if_neg (by rw [hs];decide)]
   have HCS:Hid (∀w,HRd w g h→Calls Try.prog 140 #[.pointer (some ⟨g.hb,0,none⟩),mvV (im v),.int .i64 ia] w fun e w'=>e=.returned (mvV (im v))∧Bl w w'):=fun w R=>by
    rw [hz] at hof
    by_cases hn:v.n=-1
    ·exact cast_nil g.hb v ia w hk hn
    ·have hn0:¬v.n<0:=by omega
     rw [decide_eq_false hn0,Bool.false_or] at hof
     exact cast_yes g h v ia w R hk (by omega) hv3.2 hof.symm
   obtain ⟨E,hE⟩:∃E,(if (sizP (({ c with stk:=l }).stk++[v]):Int)≤({ c with stk:=l }).m.stack then Ending.returned (.tuple #[]) else stopE 6 0 0)=E:=⟨_,rfl⟩
   have HP:Hid (∀X wx w,RX 1 X wx w0 g w h qs a ({ c with stk:=l })→Calls Try.prog 95 #[.pointer (some ⟨a.q,0,none⟩),mvV (im v)] w fun e w2=>e=E∧RX 1 X wx w0 g w2 h qs a (({ c with stk:=l }).put v)):=fun X wx w H=>hE▸mput_any 1 X wx w0 g h qs a ({ c with stk:=l }) v w H (by rw [hk];decide) (by have e:c.stk.length=l.length+1:=(by rw [h0];simp);show l.length≤1000;omega)
   have HE:Hid (∀w',RX 1 X wx w0 g w' h qs a (({ c with stk:=l }).put v)→DidQ X wx w0 g qs a c ⟨(h).putH ({ c with stk:=l }) v,({ c with stk:=l }).put v,c.pc+1⟩ E w'):=fun w' H=>did_put hs rfl ⟨rfl,rfl⟩ hE.symm H.less
   have hE2:E=.returned (.tuple #[])∨E=stopE 6 0 0:=by rw [←hE];split;exact Or.inl rfl;exact Or.inr rfl
   clear hE
   generalize im v=V at HT HP HCS
   clear H hs hd bad em h0 h1 h2 h4 eg ev ef hz hof hi hm F hst hv3 hk
   rcases hE2 with rfl|rfl
   ·go_enter Try.func121,Try.ntmps121
    go_wp2
    refine wp_region_held_drew (S:=fun w'=>w'.cell? ⟨a.q,0,none⟩=some (.pointer (some ⟨g.hb,0,none⟩))∧w'.cell? ⟨w.heap.size,1,none⟩=some (.int .i64 ia)) (by kernel_rfl) ?_ (fun hHeld0=>?_)
    ·exact ⟨z0.out,z1.out⟩
    refine tk (i:=0) (d:=some 73) rfl rfl (by kernel_rfl) (fun _ _ _ h=>h) (by rfl) (by intro _ h;(try dsimp only at h);go_split_ands;go_simp<;>with_reducible rfl) hHeld0 ?_
    try simp only [aS,aN,aT,a0,a1]
    refine tk (i:=1) (d:=some 74) rfl rfl (by kernel_rfl) (fun _ _ _ h=>h) (by rfl) (by intro _ h;(try dsimp only at h);go_split_ands;go_simp<;>with_reducible rfl) hHeld0 ?_
    try simp only [aS,aN,aT,a0,a1]
    refine tk (i:=2) (d:=some 75) rfl rfl (by kernel_rfl) (fun _ _ _ h=>h) (by rfl) (by intro _ h;(try dsimp only at h);go_split_ands;go_simp<;>with_reducible rfl) hHeld0 ?_
    try simp only [aS,aN,aT,a0,a1]
    refine tk (i:=3) (d:=some 76) rfl rfl (by kernel_rfl) (fun _ _ _ h=>h) (by rfl) (by intro _ h;(try dsimp only at h);go_split_ands;go_simp<;>with_reducible rfl) hHeld0 ?_
    try simp only [aS,aN,aT,a0,a1]
    refine tk (i:=4) (d:=some 77) rfl rfl (by kernel_rfl) (fun _ _ _ h=>h) (by rfl) (by intro _ h;(try dsimp only at h);go_split_ands;go_simp<;>with_reducible rfl) hHeld0 ?_
    try simp only [aS,aN,aT,a0,a1]
    refine tk (i:=5) (d:=some 78) rfl rfl (by kernel_rfl) (fun _ _ _ h=>h) (by rfl) (by intro _ h;(try dsimp only at h);go_split_ands;go_simp<;>with_reducible rfl) hHeld0 ?_
    try simp only [aS,aN,aT,a0,a1]
    refine tk (i:=7) (d:=some 80) rfl rfl (by kernel_rfl) (fun _ _ _ h=>h) (by rfl) (by intro _ h;(try dsimp only at h);go_split_ands;go_simp<;>with_reducible rfl) hHeld0 ?_
    try simp only [aS,aN,aT,a0,a1]
    refine tk (i:=8) (d:=some 81) rfl rfl (by kernel_rfl) (fun _ _ _ h=>h) (by rfl) (by intro _ h;(try dsimp only at h);go_split_ands;go_simp<;>with_reducible rfl) hHeld0 ?_
    try simp only [aS,aN,aT,a0,a1]
    refine rd1 (i:=6) (by kernel_rfl) rfl fun K hK=>?_
    go_simp
    go_at_call 89
    refine (HH.out.y.useY HB.out.drew HT.out).mono ?_
    rintro e w1 ⟨rfl,H1,K1⟩
    have bxK1:=K1.at (Xp.new (Nat.le_refl _) (lt_w1 w _)) HL.out
    have K1a:=hid H1.hb
    have K1b:=hid (ins_of bxK1).1
    replace bxK1:=hid bxK1
    replace H1:=hid H1
    go_wp2_with fail
    refine hK.out _ _ (⟨K1a.out,K1b.out⟩) (fun hHeld1=>?_)
    try simp only [aS,aN,aT,a0,a1]
    refine rd1 (i:=9) (by kernel_rfl) rfl fun K hK=>?_
    go_simp
    go_at_call 140
    refine (HCS.out _ (H1.out.x.rd HM.out.1 HM.out.2.1)).mono ?_
    rintro e w2 ⟨rfl,b2⟩
    have e0:=hid (b2.cell hHeld1.1)
    have e1:=hid (b2.cell hHeld1.2)
    have bx2:=hid (bl_blk b2 bxK1.out)
    replace b2:=hid b2
    go_wp2_with fail
    refine hK.out _ _ (⟨e0.out,e1.out⟩) (fun hHeld2=>?_)
    try simp only [aS,aN,aT,a0,a1]
    refine rd1 (i:=10) (by kernel_rfl) rfl fun K hK=>?_
    go_simp
    go_at_call 95
    refine (H1.out.useY (b2.out) HP.out).mono ?_
    rintro e w3 ⟨rfl,HX,KX⟩
    have bxX:=KX.at (Xp.old (Xp.new (Nat.le_refl _) (lt_w1 w _))) bx2.out
    have Xa:=hid HX.hb
    have Xb:=hid (ins_of bxX).1
    replace HX:=hid HX
    go_wp2_with fail
    refine hK.out _ _ (⟨Xa.out,Xb.out⟩) (fun hHeld3=>?_)
    try simp only [aS,aN,aT,a0,a1]
    refine wpAnyH_done (by kernel_rfl) ?_ _
    go_wp2
    go_end0
    exact HE.out _ HX.out.x
   ·go_enter Try.func121,Try.ntmps121
    go_wp2
    refine wp_region_held_drew (S:=fun w'=>w'.cell? ⟨a.q,0,none⟩=some (.pointer (some ⟨g.hb,0,none⟩))∧w'.cell? ⟨w.heap.size,1,none⟩=some (.int .i64 ia)) (by kernel_rfl) ?_ (fun hHeld0=>?_)
    ·exact ⟨z0.out,z1.out⟩
    refine tk (i:=0) (d:=some 73) rfl rfl (by kernel_rfl) (fun _ _ _ h=>h) (by rfl) (by intro _ h;(try dsimp only at h);go_split_ands;go_simp<;>with_reducible rfl) hHeld0 ?_
    try simp only [aS,aN,aT,a0,a1]
    refine tk (i:=1) (d:=some 74) rfl rfl (by kernel_rfl) (fun _ _ _ h=>h) (by rfl) (by intro _ h;(try dsimp only at h);go_split_ands;go_simp<;>with_reducible rfl) hHeld0 ?_
    try simp only [aS,aN,aT,a0,a1]
    refine tk (i:=2) (d:=some 75) rfl rfl (by kernel_rfl) (fun _ _ _ h=>h) (by rfl) (by intro _ h;(try dsimp only at h);go_split_ands;go_simp<;>with_reducible rfl) hHeld0 ?_
    try simp only [aS,aN,aT,a0,a1]
    refine tk (i:=3) (d:=some 76) rfl rfl (by kernel_rfl) (fun _ _ _ h=>h) (by rfl) (by intro _ h;(try dsimp only at h);go_split_ands;go_simp<;>with_reducible rfl) hHeld0 ?_
    try simp only [aS,aN,aT,a0,a1]
    refine tk (i:=4) (d:=some 77) rfl rfl (by kernel_rfl) (fun _ _ _ h=>h) (by rfl) (by intro _ h;(try dsimp only at h);go_split_ands;go_simp<;>with_reducible rfl) hHeld0 ?_
    try simp only [aS,aN,aT,a0,a1]
    refine tk (i:=5) (d:=some 78) rfl rfl (by kernel_rfl) (fun _ _ _ h=>h) (by rfl) (by intro _ h;(try dsimp only at h);go_split_ands;go_simp<;>with_reducible rfl) hHeld0 ?_
    try simp only [aS,aN,aT,a0,a1]
    refine tk (i:=7) (d:=some 80) rfl rfl (by kernel_rfl) (fun _ _ _ h=>h) (by rfl) (by intro _ h;(try dsimp only at h);go_split_ands;go_simp<;>with_reducible rfl) hHeld0 ?_
    try simp only [aS,aN,aT,a0,a1]
    refine tk (i:=8) (d:=some 81) rfl rfl (by kernel_rfl) (fun _ _ _ h=>h) (by rfl) (by intro _ h;(try dsimp only at h);go_split_ands;go_simp<;>with_reducible rfl) hHeld0 ?_
    try simp only [aS,aN,aT,a0,a1]
    refine rd1 (i:=6) (by kernel_rfl) rfl fun K hK=>?_
    go_simp
    go_at_call 89
    refine (HH.out.y.useY HB.out.drew HT.out).mono ?_
    rintro e w1 ⟨rfl,H1,K1⟩
    have bxK1:=K1.at (Xp.new (Nat.le_refl _) (lt_w1 w _)) HL.out
    have K1a:=hid H1.hb
    have K1b:=hid (ins_of bxK1).1
    replace bxK1:=hid bxK1
    replace H1:=hid H1
    go_wp2_with fail
    refine hK.out _ _ (⟨K1a.out,K1b.out⟩) (fun hHeld1=>?_)
    try simp only [aS,aN,aT,a0,a1]
    refine rd1 (i:=9) (by kernel_rfl) rfl fun K hK=>?_
    go_simp
    go_at_call 140
    refine (HCS.out _ (H1.out.x.rd HM.out.1 HM.out.2.1)).mono ?_
    rintro e w2 ⟨rfl,b2⟩
    have e0:=hid (b2.cell hHeld1.1)
    have e1:=hid (b2.cell hHeld1.2)
    have bx2:=hid (bl_blk b2 bxK1.out)
    replace b2:=hid b2
    go_wp2_with fail
    refine hK.out _ _ (⟨e0.out,e1.out⟩) (fun hHeld2=>?_)
    try simp only [aS,aN,aT,a0,a1]
    refine rd1 (i:=10) (by kernel_rfl) rfl fun K hK=>?_
    go_simp
    go_at_call 95
    refine (H1.out.useY (b2.out) HP.out).mono ?_
    rintro e wx' ⟨rfl,HX,KX⟩
    exact ⟨rfl,HE.out _ HX.x⟩
  | false =>
   have ef:(if false=true then h else h.raise 3)=h.raise 3:=rfl
   rw [ef,if_pos (raise_stops hs 3)]
   obtain ⟨E,hE⟩:∃E,raiseE h=E:=⟨_,rfl⟩
   have HX0:Hid (∃ch,E=.panicked ch):=by
    rw [←hE];unfold raiseE;split<;>exact ⟨_,rfl⟩
   have HCS:Hid (∀X wx w,RX 1 X wx w0 g w h qs a { c with stk:=l }→Calls Try.prog 140 #[.pointer (some ⟨g.hb,0,none⟩),mvV (im v),.int .i64 ia] w fun e w'=>e=E∧RX 1 X wx w0 g w' (h.raise 3) qs a { c with stk:=l }):=fun X wx w H=>by
    rw [hz] at hof
    have hof':=hof.symm
    rw [Bool.or_eq_false_iff] at hof'
    have hn0:¬v.n<0:=of_decide_eq_false hof'.1
    exact hE▸cast_no 1 X wx w0 g h qs a { c with stk:=l } v ia w H F hob ho hk (by omega) hv3.2 hof'.2
   have HD:Hid (∀w',RS 0 X wx w0 g w' (h.raise 3) qs a c→DidQ X wx w0 g qs a c ⟨h.raise 3,{ c with stk:=l },c.pc+1⟩ E w'):=fun w' H=>hE▸did_raise hs rfl H
   generalize im v=V at HT HCS
   clear H hs hd bad em h0 h1 h2 h4 eg ev ef hz hof hi hm F hst hv3 hk hE
   obtain ⟨ch,rfl⟩:=HX0.out
   go_enter Try.func121,Try.ntmps121
   go_wp2
   refine wp_region_held_drew (S:=fun w'=>w'.cell? ⟨a.q,0,none⟩=some (.pointer (some ⟨g.hb,0,none⟩))∧w'.cell? ⟨w.heap.size,1,none⟩=some (.int .i64 ia)) (by kernel_rfl) ?_ (fun hHeld0=>?_)
   ·exact ⟨z0.out,z1.out⟩
   refine tk (i:=0) (d:=some 73) rfl rfl (by kernel_rfl) (fun _ _ _ h=>h) (by rfl) (by intro _ h;(try dsimp only at h);go_split_ands;go_simp<;>with_reducible rfl) hHeld0 ?_
   try simp only [aS,aN,aT,a0,a1]
   refine tk (i:=1) (d:=some 74) rfl rfl (by kernel_rfl) (fun _ _ _ h=>h) (by rfl) (by intro _ h;(try dsimp only at h);go_split_ands;go_simp<;>with_reducible rfl) hHeld0 ?_
   try simp only [aS,aN,aT,a0,a1]
   refine tk (i:=2) (d:=some 75) rfl rfl (by kernel_rfl) (fun _ _ _ h=>h) (by rfl) (by intro _ h;(try dsimp only at h);go_split_ands;go_simp<;>with_reducible rfl) hHeld0 ?_
   try simp only [aS,aN,aT,a0,a1]
   refine tk (i:=3) (d:=some 76) rfl rfl (by kernel_rfl) (fun _ _ _ h=>h) (by rfl) (by intro _ h;(try dsimp only at h);go_split_ands;go_simp<;>with_reducible rfl) hHeld0 ?_
   try simp only [aS,aN,aT,a0,a1]
   refine tk (i:=4) (d:=some 77) rfl rfl (by kernel_rfl) (fun _ _ _ h=>h) (by rfl) (by intro _ h;(try dsimp only at h);go_split_ands;go_simp<;>with_reducible rfl) hHeld0 ?_
   try simp only [aS,aN,aT,a0,a1]
   refine tk (i:=5) (d:=some 78) rfl rfl (by kernel_rfl) (fun _ _ _ h=>h) (by rfl) (by intro _ h;(try dsimp only at h);go_split_ands;go_simp<;>with_reducible rfl) hHeld0 ?_
   try simp only [aS,aN,aT,a0,a1]
   refine tk (i:=7) (d:=some 80) rfl rfl (by kernel_rfl) (fun _ _ _ h=>h) (by rfl) (by intro _ h;(try dsimp only at h);go_split_ands;go_simp<;>with_reducible rfl) hHeld0 ?_
   try simp only [aS,aN,aT,a0,a1]
   refine tk (i:=8) (d:=some 81) rfl rfl (by kernel_rfl) (fun _ _ _ h=>h) (by rfl) (by intro _ h;(try dsimp only at h);go_split_ands;go_simp<;>with_reducible rfl) hHeld0 ?_
   try simp only [aS,aN,aT,a0,a1]
   refine rd1 (i:=6) (by kernel_rfl) rfl fun K hK=>?_
   go_simp
   go_at_call 89
   refine (HH.out.y.useY HB.out.drew HT.out).mono ?_
   rintro e w1 ⟨rfl,H1,K1⟩
   have bxK1:=K1.at (Xp.new (Nat.le_refl _) (lt_w1 w _)) HL.out
   have K1a:=hid H1.hb
   have K1b:=hid (ins_of bxK1).1
   replace bxK1:=hid bxK1
   replace H1:=hid H1
   go_wp2_with fail
   refine hK.out _ _ (⟨K1a.out,K1b.out⟩) (fun hHeld1=>?_)
   try simp only [aS,aN,aT,a0,a1]
   refine rd1 (i:=9) (by kernel_rfl) rfl fun K hK=>?_
   go_simp
   go_at_call 140
   refine (H1.out.useY (Bl.refl _) HCS.out).mono ?_
   rintro e w2 ⟨rfl,H2,K2⟩
   exact ⟨rfl,HD.out _ (H2.x.less.rs.of rfl ⟨rfl,rfl⟩)⟩
 ·have eg:givesH h v y ⟨17,ia,ib,ic,ii,args⟩=h.fin 6:=by
   have hi:isRef v=false:=decide_eq_false hk
   have hm:h.mustB (isRef v)=false:=by unfold Hp.mustB;rw [hi];rfl
   unfold givesH
   rw [if_neg (by rw [ho];decide)]
   simp [Hp.cast,Hp.must,hm,hi]
   try (intro q;rw [hi] at hm;simp [hm] at q)
  rw [eg,if_pos (fin_stops hs 6)]
  exact (bad (Or.inr ⟨l,v,h0,hk⟩)).mono fun e w' q=>did_chg (d:=⟨h.fin 6,c,0⟩) rfl (fin_stops hs 6) q
end
def hkey (x:Hel):Int×Int:=(x.cls,x.fld)
theorem heldOf_key {cs:List Cl} {c d:Nat} {x:Hel} (h:x∈heldOf cs c d):x.cls=d∧∃k:Nat,k<(nth cl0 cs d).fields.length∧x.fld=k:=by
 unfold heldOf at h
 split at h
 ·rw [List.mem_map] at h
  obtain ⟨k,hk,rfl⟩:=h
  exact ⟨rfl,k,by simpa using hk,rfl⟩
 ·simp at h
theorem heldOf_nodup (cs:List Cl) (c d:Nat):((heldOf cs c d).map hkey).Nodup:=by
 unfold heldOf
 split
 ·rw [List.map_map]
  unfold List.Nodup
  rw [List.pairwise_map]
  refine List.Pairwise.imp ?_ (List.nodup_range (n:=(nth cl0 cs d).fields.length))
  intro a b hab e
  simp [hkey] at e
  exact hab (by omega)
 ·simp
theorem flat_nodup (cs:List Cl) (c:Nat):∀l:List Nat,l.Nodup→((l.flatMap (heldOf cs c)).map hkey).Nodup
 | [],_=>by simp
 | d::l,h=>by
  rw [List.nodup_cons] at h
  rw [List.flatMap_cons,List.map_append,List.nodup_append]
  refine ⟨heldOf_nodup cs c d,flat_nodup cs c l h.2,?_⟩
  intro a ha b hb e
  rw [List.mem_map] at ha hb
  obtain ⟨x,hx,rfl⟩:=ha
  obtain ⟨y,hy,rfl⟩:=hb
  rw [List.mem_flatMap] at hy
  obtain ⟨d',hd',hy⟩:=hy
  have h1:=(heldOf_key hx).1
  have h2:=(heldOf_key hy).1
  simp only [hkey,Prod.mk.injEq] at e
  have:d=d':=by omega
  subst this
  exact h.1 hd'
theorem newHeld_nodup (cs:List Cl) (c:Nat):((newHeld cs c).map hkey).Nodup:=flat_nodup cs c _ List.nodup_range
theorem newHeld_has {cs:List Cl} {c d k:Nat} (hd:d<cs.length) (hb:belN cs c d=true) (hk:k<(nth cl0 cs d).fields.length):((d:Int),(k:Int))∈(newHeld cs c).map hkey:=by
 rw [List.mem_map]
 refine ⟨⟨d,k,initV (nth ty0 (nth cl0 cs d).fields k)⟩,?_,rfl⟩
 unfold newHeld
 rw [List.mem_flatMap]
 refine ⟨d,by simpa using hd,?_⟩
 unfold heldOf
 rw [if_pos hb,List.mem_map]
 exact ⟨k,by simpa using hk,rfl⟩
theorem held_find {cs:List Cl} {l:List Hel} {cl:Int} {c k:Nat} (hl:l.map hkey=(newHeld cs cl.toNat).map hkey) (hb:belI cs cl (c:Int)=true) (hk:k<(nth cl0 cs c).fields.length) :
  ∃j:Nat,j<l.length∧heldAt l c k=j∧(nth hel0 l j).cls=c∧(nth hel0 l j).fld=k:=by
 unfold belI at hb
 rw [Bool.and_eq_true] at hb
 have h1:=of_decide_eq_true hb.1
 have hm:=newHeld_has (cs:=cs) (c:=cl.toNat) (d:=c) (k:=k) (by omega) (by simpa using hb.2) hk
 rw [←hl,List.mem_map] at hm
 obtain ⟨x,hx,hxk⟩:=hm
 simp only [hkey,Prod.mk.injEq] at hxk
 unfold heldAt
 cases hf:l.findIdx? (fun x=>decide (x.cls=(c:Int)∧x.fld=(k:Int))) with
 | none =>
  rw [List.findIdx?_eq_none_iff] at hf
  have:=hf x hx
  simp [hxk.1,hxk.2] at this
 | some i =>
  rw [List.findIdx?_eq_some_iff_getElem] at hf
  obtain ⟨hi,hp,-⟩:=hf
  have hp':=of_decide_eq_true hp
  refine ⟨i,hi,rfl,?_,?_⟩
  ·rw [nth_get hi];exact hp'.1
  ·rw [nth_get hi];exact hp'.2
theorem held_one {cs:List Cl} {l:List Hel} {cl:Int} (hl:l.map hkey=(newHeld cs cl.toNat).map hkey) {i j:Nat} (hi:i<l.length) (hj:j<l.length) (h:hkey (nth hel0 l i)=hkey (nth hel0 l j)):i=j:=by
 have hn:=newHeld_nodup cs cl.toNat
 rw [←hl] at hn
 rw [nth_get hi,nth_get hj] at h
 have hi':i<(l.map hkey).length:=by simpa using hi
 have hj':j<(l.map hkey).length:=by simpa using hj
 have e:(l.map hkey)[i]=(l.map hkey)[j]:=by simpa using h
 exact (List.getElem_inj hn).mp e
theorem set_keys {l:List Hel} {j:Nat} (hj:j<l.length) (v:Va):(l.set j { nth hel0 l j with v:=v }).map hkey=l.map hkey:=by
 apply List.ext_getElem
 ·simp
 ·intro i h1 h2
  simp only [List.getElem_map,List.getElem_set]
  split
  ·rename_i e
   subst e
   rw [nth_get hj]
   rfl
  ·rfl
theorem mem_nth {α:Type} {d:α} {l:List α} {x:α} (h:x∈l):∃i,i<l.length∧nth d l i=x:=by
 obtain ⟨i,hi,rfl⟩:=List.getElem_of_mem h
 exact ⟨i,hi,nth_get hi⟩
section
open Go.Maps (Keyed has)
theorem fld_cells {w:World} {A:Option Addr} {cs:List Cl} (h:ClsAt w A cs) {c f:Nat} (hc:c<cs.length) (hf:f<(nth cl0 cs c).fields.length) :
  ∃b off F fo uc,A=some ⟨b,off,none⟩∧w.cell? ⟨b,off+c*2+1,none⟩=some (.slice (some ⟨F,fo,none⟩) (nth cl0 cs c).fields.length uc)∧cs.length≤maxLen∧(nth cl0 cs c).fields.length≤maxLen
   ∧ w.cell? ⟨F,fo+f*2,none⟩=some (.int .i64 (nth ty0 (nth cl0 cs c).fields f).kind)∧w.cell? ⟨F,fo+f*2+1,none⟩=some (.int .i64 (nth ty0 (nth cl0 cs c).fields f).cls):=by
 rcases h.2 with h0|⟨b,off,rfl,hcell⟩
 ·omega
 obtain ⟨-,-,A',uc,hfl,hty⟩:=hcell c hc
 rcases hty.2 with h0|⟨F,fo,rfl,htc⟩
 ·omega
 exact ⟨b,off,F,fo,uc,rfl,hfl,h.1,hty.1,(htc f hf).1,(htc f hf).2.1⟩
theorem info_place:(Try.prog.info? 159).map (·.size)=some 3:=by kernel_rfl
abbrev plZ:Obj:=.cells #[.int .i64 0,.int .i64 0,.int .i64 0] 159
theorem set_three {w:World} {b:Nat} {k n m k' n' m':Value} {t:TypeId} (q:w.heap[b]?=some (.cells #[k,n,m] t (0,0))):(((w.setCell ⟨b,0,none⟩ k').setCell ⟨b,1,none⟩ n').setCell ⟨b,2,none⟩ m').heap[b]?=some (.cells #[k',n',m'] t (0,0)):=by
 rw [block_set (block_set (block_set q _) _) _];rfl
set_option maxRecDepth 100000 in
theorem placeOf_obj (hb:Nat) (v:Va) (c k:Int) (hk:v.kind=3) (hv:0≤v.n) (w:World) :
  Calls Try.prog 145 #[.pointer (some ⟨hb,0,none⟩),mvV (im v),.int .i64 c,.int .i64 k] w fun e w'=>e=.returned (placeV (v.n+1) c k)∧Bl w w':=by
 have HN:Hid (isN (im v)=false):=isN_no hk hv
 have e:im v=⟨3,v.n+1⟩:=im_ref hk
 rw [e] at HN ⊢
 obtain ⟨L0,L1⟩:=two_lie w #[.int .i64 3,.int .i64 (v.n+1)] #[.int .i64 0,.int .i64 0,.int .i64 0] 109 159
 have HL0:=hid L0
 have HL1:=hid L1
 have HB:Hid (Bl w ((w.alloc (mvO ⟨3,v.n+1⟩)).alloc plZ)):=((Bl.refl w).alloc _).alloc _
 clear hk hv e L0 L1
 go_enter Try.func145,Try.ntmps145
 go_wp2_with (go_at_call 90;refine (isNothing_any ⟨3,v.n+1⟩ _).mono ?_;rintro e w2 ⟨he,b2⟩;rw [HN.out] at he;subst he;have q0:=bl_blk b2 HL0.out;have c1:=c1_of q0;have q1:=bl_blk b2 HL1.out;have d0:w2.cell? ⟨w.heap.size+1,0,none⟩=some (.int .i64 0):=(cell_blk q1).trans rfl;have d1:w2.cell? ⟨w.heap.size+1,1,none⟩=some (.int .i64 0):=(cell_blk q1).trans rfl;have d2:w2.cell? ⟨w.heap.size+1,2,none⟩=some (.int .i64 0):=(cell_blk q1).trans rfl;have fz:=free_blk q1;replace b2:=hid b2;replace q1:=hid q1;clear q0)
 refine bodyPost_ret (results_cell_row rfl _ _ (w.heap.size+1) _ _ _ _ rfl (set_three q1.out) Try.underlying159 rfl info_place) rfl ?_
 exact ⟨rfl,Bl.setCell (Bl.setCell (Bl.setCell (HB.out.trans b2.out) (p:=⟨w.heap.size+1,0,none⟩) (Nat.le_succ _) _) (p:=⟨w.heap.size+1,1,none⟩) (Nat.le_succ _) _) (p:=⟨w.heap.size+1,2,none⟩) (Nat.le_succ _) _⟩
set_option maxRecDepth 100000 in
theorem placeOf_nil (s:Nat) (X:Nat→Prop) (wx w0:World) (g:Mg) (h:Hp) (qs:List Nat) (a:Mc) (c:Cal) (v:Va) (cc k:Int) (w:World) (H:RX s X wx w0 g w h qs a c) (hl:h.objs.length≤100) (ho:h.over=false) (hk:v.kind=3) (hv:v.n=-1) :
  Calls Try.prog 145 #[.pointer (some ⟨g.hb,0,none⟩),mvV (im v),.int .i64 cc,.int .i64 k] w fun e w'=>e=raiseE h∧RX s X wx w0 g w' (h.raise 1) qs a c:=by
 have HN:Hid (isN (im v)=true):=isN_yes hk hv
 have e:im v=⟨3,0⟩:=by rw [im_ref hk,hv];rfl
 rw [e] at HN ⊢
 have HB:Hid (Bl w ((w.alloc (mvO ⟨3,0⟩)).alloc plZ)):=((Bl.refl w).alloc _).alloc _
 have HH:=hid H
 have HL:=hid (And.intro hl ho)
 obtain ⟨E,hE⟩:∃E,raiseE h=E:=⟨_,rfl⟩
 have HE:=hid hE
 rw [hE]
 have HX:Hid (∃ch,E=.panicked ch):=by
  rw [←hE];unfold raiseE;split<;>exact ⟨_,rfl⟩
 clear hk hv e H hl ho hE
 obtain ⟨ch,rfl⟩:=HX.out
 go_enter Try.func145,Try.ntmps145
 go_wp2_with (first
  | (go_at_call 90;refine (isNothing_any ⟨3,0⟩ _).mono ?_;rintro e w2 ⟨he,b2⟩;rw [HN.out] at he;subst he;replace b2:=hid b2)
  | (go_at_call 142;refine (throwNew_any s X wx w0 g h qs a c 1 _ (HH.out.bl (HB.out.trans b2.out)) HL.out.1 HL.out.2).mono ?_;rintro e w3 ⟨he,H3⟩;rw [HE.out] at he;subst he;replace H3:=hid H3))
 exact ⟨rfl,rfl,H3.out⟩
theorem info_mvz:(Try.prog.info? 109).map (fun i=>(i.zero,i.size,i.bytes))=some (some (.agg #[.int .i64 0,.int .i64 0]),2,16):=by kernel_rfl
theorem mv_zero (w:World):(zeroValue 109).run Try.prog w=.ok (mvV ⟨0,0⟩) w:=by
 obtain ⟨i,hi,hz,-,-⟩:=info_parts info_mvz
 simp [zeroValue,hi,hz]
 rfl
theorem look_any {w:World} {mp n:Nat} {D:DataW Nat} (h:w.ownsMap Try.prog 159 mvElem mp n D) {o c k:Int} (ho:I64 o) (hc:I64 c) (hk:I64 k) (u:Va) (hu:has D (keyM o c k)=true→∀z,D.atKey (keyM o c k) z=mvD u) :
  (Instr.lookup 131 (.map (some mp)) (placeV o c k) true).run Try.prog w=.ok (.tuple #[mvV (if has D (keyM o c k)=true then u else ⟨0,0⟩),.bool (has D (keyM o c k))]) w:=by
 obtain ⟨v,ps,h1,h2⟩:=h.look_ok place_key Try.underlying131 (mv_zero w) (mvElem_mk ⟨0,0⟩) (keyM_of ho hc hk)
 rw [h1]
 cases hh:has D (keyM o c k) with
 | true =>
  rw [hu hh] at h2
  rw [if_pos rfl,mvElem_inv h2]
 | false =>
  rw [Maps.atKey_of_not_has hh] at h2
  rw [if_neg (by decide),mvElem_inv h2]
end
section
open Go.Maps (Keyed has)
theorem may_six {l:List Cl} (h:mayB l=true) {d:Nat} (hd:d<l.length):l.length≤12∧(nth cl0 l d).fields.length≤6∧∀t∈(nth cl0 l d).fields,tyB l.length t=true:=by
 unfold mayB at h
 rw [Bool.and_eq_true,List.all_eq_true] at h
 have h1:=of_decide_eq_true h.1
 have h2:=h.2 d (by simpa using hd)
 unfold clB at h2
 rw [Bool.and_eq_true,List.all_eq_true] at h2
 have h3:=of_decide_eq_true h2.1
 exact ⟨h1.2.1,h3.2,h2.2⟩
theorem fieldT_nat (cs:List Cl) (c k:Nat):fieldT cs (c:Int) (k:Int)=nth ty0 (nth cl0 cs c).fields k:=by unfold fieldT;rw [Int.toNat_natCast,Int.toNat_natCast]
theorem field_kind {l:List Cl} (h:mayB l=true) {c k:Nat} (hc:c<l.length) (hk:k<(nth cl0 l c).fields.length):1≤(fieldT l (c:Int) (k:Int)).kind∧(fieldT l (c:Int) (k:Int)).kind≤3:=by
 rw [fieldT_nat]
 exact ty_kind ((may_six h hc).2.2 _ (nth_mem hk))
theorem RX.find {s:Nat} {X:Nat→Prop} {wx w0 w:World} {g:Mg} {h:Hp} {qs:List Nat} {a:Mc} {c:Cal} (H:RX s X wx w0 g w h qs a c) {o cc k:Nat} (ho:o<h.objs.length) (hb:belI h.file.classes (nth ob0 h.objs o).cls (cc:Int)=true) (hk:k<(nth cl0 h.file.classes cc).fields.length) :
  ∃j:Nat,j<(nth ob0 h.objs o).held.length∧heldAt (nth ob0 h.objs o).held cc k=j∧(nth hel0 (nth ob0 h.objs o).held j).cls=cc∧(nth hel0 (nth ob0 h.objs o).held j).fld=k∧(nth hel0 (nth ob0 h.objs o).held j).v.kind=(fieldT h.file.classes (cc:Int) (k:Int)).kind:=by
 obtain ⟨vc,vo,vx,vs,l,H⟩:=H
 obtain ⟨n,D,F⟩:=H.rh.fld
 obtain ⟨j,h1,h2,h3,h4⟩:=held_find (F.ks o ho) hb hk
 refine ⟨j,h1,h2,h3,h4,?_⟩
 have:=F.kd o ho _ (nth_mem (d:=hel0) h1)
 rw [h3,h4] at this
 exact this
end
end Go.Proofs.Ytgiiapenmjollaa
