import Derived.Test.YtgiiapenmjollaaSlbo
import Derived.Test.YtgiiapenmjollaaSlbr
namespace Go.Proofs.Ytgiiapenmjollaa
set_option linter.all false
set_option maxHeartbeats 40000000
open Go.RowKit
section
open Go.Maps (Keyed has)
set_option maxRecDepth 100000 in
theorem handle_op18 (X:Nat→Prop) (wx w0:World) (g:Mg) (h:Hp) (qs:List Nat) (a:Mc) (c:Cal) (ia ib ic ii:Int) (args:List Int) (Q:Option Addr) (nl q:Nat) (w:World) (H:RX 1 X wx w0 g w h qs a c) (hs:h.stops=false) (hl:c.stk.length≤1000) (F:Fix w0 g h) (hob:h.objs.length≤100) (hst:∀v∈c.stk,v.kind=3→-1≤v.n∧v.n<h.objs.length) :
  Calls Try.prog 121 #[.pointer (some ⟨a.q,0,none⟩),.agg #[.int .i64 18,.int .i64 ia,.int .i64 ib,.int .i64 ic,.int .i64 ii,.slice Q nl q]] w fun e w'=>DidQ X wx w0 g qs a c (doesP h c ⟨18,ia,ib,ic,ii,args⟩) e w':=by
 have ho:=hs_over hs
 have HH:=hid H
 have HS:=hid hs
 have HB:Hid (Bl w (w.alloc (.cells #[.int .i64 18,.int .i64 ia,.int .i64 ib,.int .i64 ic,.int .i64 ii,.slice Q nl q] 51))):=(Bl.refl w).alloc _
 have HL:=hid (blk_new w #[.int .i64 18,.int .i64 ia,.int .i64 ib,.int .i64 ic,.int .i64 ii,.slice Q nl q] 51)
 have z0:=hid ((H.y.bl HB.out).hb)
 have z1:=hid (ins_of HL.out).1
 have bad:(c.stk=[]∨∃l v,c.stk=l++[v]∧v.kind≠3)→Calls Try.prog 121 #[.pointer (some ⟨a.q,0,none⟩),.agg #[.int .i64 18,.int .i64 ia,.int .i64 ib,.int .i64 ic,.int .i64 ii,.slice Q nl q]] w fun e w'=>DidQ X wx w0 g qs a c ⟨h.fin 6,c,0⟩ e w':=fun hn=>by
  have HN:=hid hn
  clear H hs hn F hst
  go_enter Try.func121,Try.ntmps121
  go_wp2
  refine wp_region_held_drew (S:=fun w'=>w'.cell? ⟨a.q,0,none⟩=some (.pointer (some ⟨g.hb,0,none⟩))∧w'.cell? ⟨w.heap.size,1,none⟩=some (.int .i64 ia)) (by kernel_rfl) ?_ (fun hHeld0=>?_)
  ·exact ⟨z0.out,z1.out⟩
  refine tk (i:=0) (d:=some 86) rfl rfl (by kernel_rfl) (fun _ _ _ h=>h) (by rfl) (by intro _ h;(try dsimp only at h);go_split_ands;go_simp<;>with_reducible rfl) hHeld0 ?_
  try simp only [aS,aN,aT,a0,a1]
  refine tk (i:=1) (d:=some 87) rfl rfl (by kernel_rfl) (fun _ _ _ h=>h) (by rfl) (by intro _ h;(try dsimp only at h);go_split_ands;go_simp<;>with_reducible rfl) hHeld0 ?_
  try simp only [aS,aN,aT,a0,a1]
  refine tk (i:=2) (d:=some 88) rfl rfl (by kernel_rfl) (fun _ _ _ h=>h) (by rfl) (by intro _ h;(try dsimp only at h);go_split_ands;go_simp<;>with_reducible rfl) hHeld0 ?_
  try simp only [aS,aN,aT,a0,a1]
  refine tk (i:=3) (d:=some 89) rfl rfl (by kernel_rfl) (fun _ _ _ h=>h) (by rfl) (by intro _ h;(try dsimp only at h);go_split_ands;go_simp<;>with_reducible rfl) hHeld0 ?_
  try simp only [aS,aN,aT,a0,a1]
  refine tk (i:=4) (d:=some 90) rfl rfl (by kernel_rfl) (fun _ _ _ h=>h) (by rfl) (by intro _ h;(try dsimp only at h);go_split_ands;go_simp<;>with_reducible rfl) hHeld0 ?_
  try simp only [aS,aN,aT,a0,a1]
  refine tk (i:=5) (d:=some 91) rfl rfl (by kernel_rfl) (fun _ _ _ h=>h) (by rfl) (by intro _ h;(try dsimp only at h);go_split_ands;go_simp<;>with_reducible rfl) hHeld0 ?_
  try simp only [aS,aN,aT,a0,a1]
  refine tk (i:=7) (d:=some 93) rfl rfl (by kernel_rfl) (fun _ _ _ h=>h) (by rfl) (by intro _ h;(try dsimp only at h);go_split_ands;go_simp<;>with_reducible rfl) hHeld0 ?_
  try simp only [aS,aN,aT,a0,a1]
  refine tk (i:=8) (d:=some 94) rfl rfl (by kernel_rfl) (fun _ _ _ h=>h) (by rfl) (by intro _ h;(try dsimp only at h);go_split_ands;go_simp<;>with_reducible rfl) hHeld0 ?_
  try simp only [aS,aN,aT,a0,a1]
  refine rd1 (i:=6) (by kernel_rfl) rfl fun K hK=>?_
  go_simp
  go_at_call 89
  refine (HH.out.y.useN HB.out.drew (fun X wx w H=>takeKind_no 1 X wx w0 g h qs a c 3 w H HN.out)).mono ?_
  rintro e w1 ⟨rfl,H1⟩
  exact ⟨rfl,did_fin (s:=0) (hs_over HS.out) rfl H1.less⟩
 have hd:doesP h c ⟨18,ia,ib,ic,ii,args⟩=givesP h c ⟨18,ia,ib,ic,ii,args⟩:=rfl
 have em:manyOf 18=1:=by decide
 rw [hd]
 unfold givesP
 dsimp only
 rw [em]
 rcases stk_one (c:=c) with h0|⟨l,v,h0⟩
 ·rw [must_no (has_nil h0),gives_over (fin6 ho 6).1,if_pos (fin_stops hs 6)]
  exact (bad (Or.inl h0)).mono fun e w' q=>did_chg (d:=⟨h.fin 6,c,0⟩) rfl (fin_stops hs 6) q
 obtain ⟨h1,h2,h4⟩:=has_one h0
 rw [must_yes h1,h2,h4]
 generalize nth va0 (c.top 1) 1=y
 by_cases hk:v.kind=3
 ·have hv3:=hst v (by rw [h0];simp) hk
  have hi:isRef v=true:=decide_eq_true hk
  have hm:h.mustB (isRef v)=true:=by unfold Hp.mustB;rw [hi,ho];rfl
  have eg:givesH h v y ⟨18,ia,ib,ic,ii,args⟩=h:=by
   unfold givesH
   rw [if_neg (by rw [ho];decide)]
   simp [Hp.must,hi]
  obtain ⟨Z,hZ⟩:∃Z,(decide (0≤v.n)&&belI h.file.classes (h.obj v.n).cls ia)=Z:=⟨_,rfl⟩
  have ev:givesV h v y ⟨18,ia,ib,ic,ii,args⟩=⟨1,if Z=true then 1 else 0⟩:=by
   unfold givesV
   rw [if_neg (by rw [ho];decide)]
   simp only [show ¬((18:Int)=1) by decide,show ¬((18:Int)=2) by decide,show ¬((18:Int)=3) by decide,show ¬((18:Int)=6) by decide,show ¬((18:Int)=7) by decide,show ¬((18:Int)=8) by decide,show ¬((18:Int)=9) by decide,show ¬((18:Int)=10) by decide,show ¬((18:Int)=14) by decide,show ¬((18:Int)=15) by decide,show ¬((18:Int)=17) by decide,if_false,if_true]
   unfold Hp.isV
   rw [hm,Bool.true_and,hZ]
  rw [eg,ev,if_neg (by rw [hs];decide)]
  have HT:Hid (∀X wx w,RX 1 X wx w0 g w h qs a c→Calls Try.prog 89 #[.pointer (some ⟨a.q,0,none⟩),.int .i64 3] w fun e w'=>e=.returned (mvV (im v))∧RX 1 X wx w0 g w' h qs a { c with stk:=l }):=fun X wx w H=>takeKind_yes 1 X wx w0 g h qs a c l v 3 w H h0 hk
  have HM:Hid (Fix w0 g h∧h.objs.length≤100):=⟨F,hob⟩
  have HCS:Hid (∀w,HRd w g h→Calls Try.prog 122 #[.pointer (some ⟨g.hb,0,none⟩),mvV (im v),.int .i64 ia] w fun e w'=>e=.returned (.bool Z)∧Bl w w'):=fun w R=>hZ▸mbelow_any g h v ia w R hk hv3.1 hv3.2
  obtain ⟨N,hN⟩:∃N:Int,(if Z=true then 1 else 0)=N:=⟨_,rfl⟩
  rw [hN]
  have HTR:Hid (∀w,Calls Try.prog 141 #[.bool Z] w fun e w'=>e=.returned (mvV ⟨1,N⟩)∧Bl w w'):=fun w=>hN▸truth_any Z w
  obtain ⟨E,hE⟩:∃E,(if (sizP (({ c with stk:=l }).stk++[(⟨1,N⟩:Va)]):Int)≤({ c with stk:=l }).m.stack then Ending.returned (.tuple #[]) else stopE 6 0 0)=E:=⟨_,rfl⟩
  have HP:Hid (∀X wx w,RX 1 X wx w0 g w h qs a ({ c with stk:=l })→Calls Try.prog 95 #[.pointer (some ⟨a.q,0,none⟩),mvV (im (⟨1,N⟩:Va))] w fun e w2=>e=E∧RX 1 X wx w0 g w2 h qs a (({ c with stk:=l }).put (⟨1,N⟩:Va))):=fun X wx w H=>hE▸mput_any 1 X wx w0 g h qs a ({ c with stk:=l }) (⟨1,N⟩:Va) w H (show (1:Int)≤1∧(1:Int)≤3 from by decide) (by have e:c.stk.length=l.length+1:=(by rw [h0];simp);show l.length≤1000;omega)
  have HE:Hid (∀w',RX 1 X wx w0 g w' h qs a (({ c with stk:=l }).put (⟨1,N⟩:Va))→DidQ X wx w0 g qs a c ⟨(h).putH ({ c with stk:=l }) (⟨1,N⟩:Va),({ c with stk:=l }).put (⟨1,N⟩:Va),c.pc+1⟩ E w'):=fun w' H=>did_put hs rfl ⟨rfl,rfl⟩ hE.symm H.less
  have hE2:E=.returned (.tuple #[])∨E=stopE 6 0 0:=by rw [←hE];split;exact Or.inl rfl;exact Or.inr rfl
  clear hE
  have HIM:Hid (im (⟨1,N⟩:Va)=⟨1,N⟩):=im_num (show (1:Int)≠3 by decide)
  rw [HIM.out] at HP
  generalize im v=V at HT HCS
  clear H hs hd bad em h0 h1 h2 h4 eg ev hi hm F hst hv3 hk hZ hN
  rcases hE2 with rfl|rfl
  ·go_enter Try.func121,Try.ntmps121
   go_wp2
   refine wp_region_held_drew (S:=fun w'=>w'.cell? ⟨a.q,0,none⟩=some (.pointer (some ⟨g.hb,0,none⟩))∧w'.cell? ⟨w.heap.size,1,none⟩=some (.int .i64 ia)) (by kernel_rfl) ?_ (fun hHeld0=>?_)
   ·exact ⟨z0.out,z1.out⟩
   refine tk (i:=0) (d:=some 86) rfl rfl (by kernel_rfl) (fun _ _ _ h=>h) (by rfl) (by intro _ h;(try dsimp only at h);go_split_ands;go_simp<;>with_reducible rfl) hHeld0 ?_
   try simp only [aS,aN,aT,a0,a1]
   refine tk (i:=1) (d:=some 87) rfl rfl (by kernel_rfl) (fun _ _ _ h=>h) (by rfl) (by intro _ h;(try dsimp only at h);go_split_ands;go_simp<;>with_reducible rfl) hHeld0 ?_
   try simp only [aS,aN,aT,a0,a1]
   refine tk (i:=2) (d:=some 88) rfl rfl (by kernel_rfl) (fun _ _ _ h=>h) (by rfl) (by intro _ h;(try dsimp only at h);go_split_ands;go_simp<;>with_reducible rfl) hHeld0 ?_
   try simp only [aS,aN,aT,a0,a1]
   refine tk (i:=3) (d:=some 89) rfl rfl (by kernel_rfl) (fun _ _ _ h=>h) (by rfl) (by intro _ h;(try dsimp only at h);go_split_ands;go_simp<;>with_reducible rfl) hHeld0 ?_
   try simp only [aS,aN,aT,a0,a1]
   refine tk (i:=4) (d:=some 90) rfl rfl (by kernel_rfl) (fun _ _ _ h=>h) (by rfl) (by intro _ h;(try dsimp only at h);go_split_ands;go_simp<;>with_reducible rfl) hHeld0 ?_
   try simp only [aS,aN,aT,a0,a1]
   refine tk (i:=5) (d:=some 91) rfl rfl (by kernel_rfl) (fun _ _ _ h=>h) (by rfl) (by intro _ h;(try dsimp only at h);go_split_ands;go_simp<;>with_reducible rfl) hHeld0 ?_
   try simp only [aS,aN,aT,a0,a1]
   refine tk (i:=7) (d:=some 93) rfl rfl (by kernel_rfl) (fun _ _ _ h=>h) (by rfl) (by intro _ h;(try dsimp only at h);go_split_ands;go_simp<;>with_reducible rfl) hHeld0 ?_
   try simp only [aS,aN,aT,a0,a1]
   refine tk (i:=8) (d:=some 94) rfl rfl (by kernel_rfl) (fun _ _ _ h=>h) (by rfl) (by intro _ h;(try dsimp only at h);go_split_ands;go_simp<;>with_reducible rfl) hHeld0 ?_
   try simp only [aS,aN,aT,a0,a1]
   refine rd1 (i:=6) (by kernel_rfl) rfl fun K hK=>?_
   go_simp
   go_at_call 89
   refine (HH.out.y.useY HB.out.drew HT.out).mono ?_
   rintro e w1 ⟨rfl,H1,K1⟩
   have bxK1:=K1.at (Xp.new (Nat.le_refl _) (lt_w1 w _)) HL.out
   have K1a:=hid H1.hb
   have K1b:=hid (ins_of bxK1).1
   replace bxK1:=hid bxK1
   replace H1:=hid H1
   go_wp2_with fail
   refine hK.out _ _ (⟨K1a.out,K1b.out⟩) (fun hHeld1=>?_)
   try simp only [aS,aN,aT,a0,a1]
   refine rd1 (i:=9) (by kernel_rfl) rfl fun K hK=>?_
   go_simp
   go_at_call 122
   refine (HCS.out _ (H1.out.x.rd HM.out.1 HM.out.2)).mono ?_
   rintro e w2 ⟨rfl,b2⟩
   have e0:=hid (b2.cell hHeld1.1)
   have e1:=hid (b2.cell hHeld1.2)
   have bx2:=hid (bl_blk b2 bxK1.out)
   replace b2:=hid b2
   go_wp2_with fail
   refine hK.out _ _ (⟨e0.out,e1.out⟩) (fun hHeld2=>?_)
   try simp only [aS,aN,aT,a0,a1]
   refine rd1 (i:=10) (by kernel_rfl) rfl fun K hK=>?_
   go_simp
   go_at_call 141
   refine (HTR.out _).mono ?_
   rintro e w3 ⟨rfl,b3⟩
   have f0:=hid (b3.cell hHeld2.1)
   have f1:=hid (b3.cell hHeld2.2)
   have bx3:=hid (bl_blk b3 bx2.out)
   replace b3:=hid b3
   go_wp2_with fail
   refine hK.out _ _ (⟨f0.out,f1.out⟩) (fun hHeld3=>?_)
   try simp only [aS,aN,aT,a0,a1]
   refine rd1 (i:=11) (by kernel_rfl) rfl fun K hK=>?_
   go_simp
   go_at_call 95
   refine (H1.out.useY (b2.out.trans b3.out) HP.out).mono ?_
   rintro e w4 ⟨rfl,HX,KX⟩
   have bxX:=KX.at (Xp.old (Xp.new (Nat.le_refl _) (lt_w1 w _))) bx3.out
   have Xa:=hid HX.hb
   have Xb:=hid (ins_of bxX).1
   replace HX:=hid HX
   go_wp2_with fail
   refine hK.out _ _ (⟨Xa.out,Xb.out⟩) (fun hHeld4=>?_)
   try simp only [aS,aN,aT,a0,a1]
   refine wpAnyH_done (by kernel_rfl) ?_ _
   go_wp2
   go_end0
   exact HE.out _ HX.out.x
  ·go_enter Try.func121,Try.ntmps121
   go_wp2
   refine wp_region_held_drew (S:=fun w'=>w'.cell? ⟨a.q,0,none⟩=some (.pointer (some ⟨g.hb,0,none⟩))∧w'.cell? ⟨w.heap.size,1,none⟩=some (.int .i64 ia)) (by kernel_rfl) ?_ (fun hHeld0=>?_)
   ·exact ⟨z0.out,z1.out⟩
   refine tk (i:=0) (d:=some 86) rfl rfl (by kernel_rfl) (fun _ _ _ h=>h) (by rfl) (by intro _ h;(try dsimp only at h);go_split_ands;go_simp<;>with_reducible rfl) hHeld0 ?_
   try simp only [aS,aN,aT,a0,a1]
   refine tk (i:=1) (d:=some 87) rfl rfl (by kernel_rfl) (fun _ _ _ h=>h) (by rfl) (by intro _ h;(try dsimp only at h);go_split_ands;go_simp<;>with_reducible rfl) hHeld0 ?_
   try simp only [aS,aN,aT,a0,a1]
   refine tk (i:=2) (d:=some 88) rfl rfl (by kernel_rfl) (fun _ _ _ h=>h) (by rfl) (by intro _ h;(try dsimp only at h);go_split_ands;go_simp<;>with_reducible rfl) hHeld0 ?_
   try simp only [aS,aN,aT,a0,a1]
   refine tk (i:=3) (d:=some 89) rfl rfl (by kernel_rfl) (fun _ _ _ h=>h) (by rfl) (by intro _ h;(try dsimp only at h);go_split_ands;go_simp<;>with_reducible rfl) hHeld0 ?_
   try simp only [aS,aN,aT,a0,a1]
   refine tk (i:=4) (d:=some 90) rfl rfl (by kernel_rfl) (fun _ _ _ h=>h) (by rfl) (by intro _ h;(try dsimp only at h);go_split_ands;go_simp<;>with_reducible rfl) hHeld0 ?_
   try simp only [aS,aN,aT,a0,a1]
   refine tk (i:=5) (d:=some 91) rfl rfl (by kernel_rfl) (fun _ _ _ h=>h) (by rfl) (by intro _ h;(try dsimp only at h);go_split_ands;go_simp<;>with_reducible rfl) hHeld0 ?_
   try simp only [aS,aN,aT,a0,a1]
   refine tk (i:=7) (d:=some 93) rfl rfl (by kernel_rfl) (fun _ _ _ h=>h) (by rfl) (by intro _ h;(try dsimp only at h);go_split_ands;go_simp<;>with_reducible rfl) hHeld0 ?_
   try simp only [aS,aN,aT,a0,a1]
   refine tk (i:=8) (d:=some 94) rfl rfl (by kernel_rfl) (fun _ _ _ h=>h) (by rfl) (by intro _ h;(try dsimp only at h);go_split_ands;go_simp<;>with_reducible rfl) hHeld0 ?_
   try simp only [aS,aN,aT,a0,a1]
   refine rd1 (i:=6) (by kernel_rfl) rfl fun K hK=>?_
   go_simp
   go_at_call 89
   refine (HH.out.y.useY HB.out.drew HT.out).mono ?_
   rintro e w1 ⟨rfl,H1,K1⟩
   have bxK1:=K1.at (Xp.new (Nat.le_refl _) (lt_w1 w _)) HL.out
   have K1a:=hid H1.hb
   have K1b:=hid (ins_of bxK1).1
   replace bxK1:=hid bxK1
   replace H1:=hid H1
   go_wp2_with fail
   refine hK.out _ _ (⟨K1a.out,K1b.out⟩) (fun hHeld1=>?_)
   try simp only [aS,aN,aT,a0,a1]
   refine rd1 (i:=9) (by kernel_rfl) rfl fun K hK=>?_
   go_simp
   go_at_call 122
   refine (HCS.out _ (H1.out.x.rd HM.out.1 HM.out.2)).mono ?_
   rintro e w2 ⟨rfl,b2⟩
   have e0:=hid (b2.cell hHeld1.1)
   have e1:=hid (b2.cell hHeld1.2)
   have bx2:=hid (bl_blk b2 bxK1.out)
   replace b2:=hid b2
   go_wp2_with fail
   refine hK.out _ _ (⟨e0.out,e1.out⟩) (fun hHeld2=>?_)
   try simp only [aS,aN,aT,a0,a1]
   refine rd1 (i:=10) (by kernel_rfl) rfl fun K hK=>?_
   go_simp
   go_at_call 141
   refine (HTR.out _).mono ?_
   rintro e w3 ⟨rfl,b3⟩
   have f0:=hid (b3.cell hHeld2.1)
   have f1:=hid (b3.cell hHeld2.2)
   have bx3:=hid (bl_blk b3 bx2.out)
   replace b3:=hid b3
   go_wp2_with fail
   refine hK.out _ _ (⟨f0.out,f1.out⟩) (fun hHeld3=>?_)
   try simp only [aS,aN,aT,a0,a1]
   refine rd1 (i:=11) (by kernel_rfl) rfl fun K hK=>?_
   go_simp
   go_at_call 95
   refine (H1.out.useY (b2.out.trans b3.out) HP.out).mono ?_
   rintro e wx' ⟨rfl,HX,KX⟩
   exact ⟨rfl,HE.out _ HX.x⟩
 ·have eg:givesH h v y ⟨18,ia,ib,ic,ii,args⟩=h.fin 6:=by
   have hi:isRef v=false:=decide_eq_false hk
   have hm:h.mustB (isRef v)=false:=by unfold Hp.mustB;rw [hi];rfl
   unfold givesH
   rw [if_neg (by rw [ho];decide)]
   simp [Hp.cast,Hp.must,hm,hi]
   try (intro q;rw [hi] at hm;simp [hm] at q)
  rw [eg,if_pos (fin_stops hs 6)]
  exact (bad (Or.inr ⟨l,v,h0,hk⟩)).mono fun e w' q=>did_chg (d:=⟨h.fin 6,c,0⟩) rfl (fin_stops hs 6) q
set_option maxRecDepth 100000 in
theorem handle_op21 (X:Nat→Prop) (wx w0:World) (g:Mg) (h:Hp) (qs:List Nat) (a:Mc) (c:Cal) (ia ib ic ii:Int) (args:List Int) (Q:Option Addr) (nl q:Nat) (w:World) (H:RX 1 X wx w0 g w h qs a c) (hs:h.stops=false) (hl:c.stk.length≤1000) (F:Fix w0 g h) (hob:h.objs.length≤100) (hst:∀v∈c.stk,v.kind=3→-1≤v.n∧v.n<h.objs.length) :
  Calls Try.prog 121 #[.pointer (some ⟨a.q,0,none⟩),.agg #[.int .i64 21,.int .i64 ia,.int .i64 ib,.int .i64 ic,.int .i64 ii,.slice Q nl q]] w fun e w'=>DidQ X wx w0 g qs a c (doesP h c ⟨21,ia,ib,ic,ii,args⟩) e w':=by
 have ho:=hs_over hs
 have HH:=hid H
 have HS:=hid hs
 have HB:Hid (Bl w (w.alloc (.cells #[.int .i64 21,.int .i64 ia,.int .i64 ib,.int .i64 ic,.int .i64 ii,.slice Q nl q] 51))):=(Bl.refl w).alloc _
 have HL:=hid (blk_new w #[.int .i64 21,.int .i64 ia,.int .i64 ib,.int .i64 ic,.int .i64 ii,.slice Q nl q] 51)
 have z0:=hid ((H.y.bl HB.out).hb)
 have z1:=hid (ins_of HL.out).1
 have bad:(c.stk=[]∨∃l v,c.stk=l++[v]∧v.kind≠3)→Calls Try.prog 121 #[.pointer (some ⟨a.q,0,none⟩),.agg #[.int .i64 21,.int .i64 ia,.int .i64 ib,.int .i64 ic,.int .i64 ii,.slice Q nl q]] w fun e w'=>DidQ X wx w0 g qs a c ⟨h.fin 6,c,0⟩ e w':=fun hn=>by
  have HN:=hid hn
  clear H hs hn F hst
  go_enter Try.func121,Try.ntmps121
  go_wp2
  refine wp_region_held_drew (S:=fun w'=>w'.cell? ⟨a.q,0,none⟩=some (.pointer (some ⟨g.hb,0,none⟩))∧w'.cell? ⟨w.heap.size,1,none⟩=some (.int .i64 ia)) (by kernel_rfl) ?_ (fun hHeld0=>?_)
  ·exact ⟨z0.out,z1.out⟩
  refine tk (i:=0) (d:=some 100) rfl rfl (by kernel_rfl) (fun _ _ _ h=>h) (by rfl) (by intro _ h;(try dsimp only at h);go_split_ands;go_simp<;>with_reducible rfl) hHeld0 ?_
  try simp only [aS,aN,aT,a0,a1]
  refine tk (i:=1) (d:=some 101) rfl rfl (by kernel_rfl) (fun _ _ _ h=>h) (by rfl) (by intro _ h;(try dsimp only at h);go_split_ands;go_simp<;>with_reducible rfl) hHeld0 ?_
  try simp only [aS,aN,aT,a0,a1]
  refine tk (i:=2) (d:=some 102) rfl rfl (by kernel_rfl) (fun _ _ _ h=>h) (by rfl) (by intro _ h;(try dsimp only at h);go_split_ands;go_simp<;>with_reducible rfl) hHeld0 ?_
  try simp only [aS,aN,aT,a0,a1]
  refine tk (i:=3) (d:=some 103) rfl rfl (by kernel_rfl) (fun _ _ _ h=>h) (by rfl) (by intro _ h;(try dsimp only at h);go_split_ands;go_simp<;>with_reducible rfl) hHeld0 ?_
  try simp only [aS,aN,aT,a0,a1]
  refine tk (i:=4) (d:=some 104) rfl rfl (by kernel_rfl) (fun _ _ _ h=>h) (by rfl) (by intro _ h;(try dsimp only at h);go_split_ands;go_simp<;>with_reducible rfl) hHeld0 ?_
  try simp only [aS,aN,aT,a0,a1]
  refine rd1 (i:=5) (by kernel_rfl) rfl fun K hK=>?_
  go_simp
  go_at_call 89
  refine (HH.out.y.useN HB.out.drew (fun X wx w H=>takeKind_no 1 X wx w0 g h qs a c 3 w H HN.out)).mono ?_
  rintro e w1 ⟨rfl,H1⟩
  exact ⟨rfl,did_fin (s:=0) (hs_over HS.out) rfl H1.less⟩
 have hd:doesP h c ⟨21,ia,ib,ic,ii,args⟩=thrP h c ⟨21,ia,ib,ic,ii,args⟩:=rfl
 rw [hd]
 unfold thrP
 dsimp only
 rcases stk_one (c:=c) with h0|⟨l,v,h0⟩
 ·rw [must_no (has_nil h0),if_pos (fin6 ho 6).1]
  exact (bad (Or.inl h0)).mono fun e w' q=>did_chg (d:=⟨h.fin 6,c,0⟩) rfl (fin_stops hs 6) q
 obtain ⟨h1,h2,h4⟩:=has_one h0
 rw [must_yes h1,h2,h4,if_neg (by rw [ho];decide)]
 unfold Hp.throw
 by_cases hk:v.kind=3
 ·have hv3:=hst v (by rw [h0];simp) hk
  have hi:isRef v=true:=decide_eq_true hk
  have hm:h.mustB (isRef v)=true:=by unfold Hp.mustB;rw [hi,ho];rfl
  rw [if_pos hm]
  have HT:Hid (∀X wx w,RX 1 X wx w0 g w h qs a c→Calls Try.prog 89 #[.pointer (some ⟨a.q,0,none⟩),.int .i64 3] w fun e w'=>e=.returned (mvV (im v))∧RX 1 X wx w0 g w' h qs a { c with stk:=l }):=fun X wx w H=>takeKind_yes 1 X wx w0 g h qs a c l v 3 w H h0 hk
  by_cases hn:v.n<0
  ·rw [if_pos hn]
   obtain ⟨E,hE⟩:∃E,raiseE h=E:=⟨_,rfl⟩
   have HX0:Hid (∃ch,E=.panicked ch):=by
    rw [←hE];unfold raiseE;split<;>exact ⟨_,rfl⟩
   have HCS:Hid (∀X wx w,RX 1 X wx w0 g w h qs a { c with stk:=l }→Calls Try.prog 124 #[.pointer (some ⟨g.hb,0,none⟩),mvV (im v)] w fun e w'=>e=E∧RX 1 X wx w0 g w' (h.raise 1) qs a { c with stk:=l }):=fun X wx w H=>hE▸mthrow_nil 1 X wx w0 g h qs a { c with stk:=l } v w H hob ho hk (by omega)
   have HD:Hid (∀w',RS 0 X wx w0 g w' (h.raise 1) qs a c→DidQ X wx w0 g qs a c ⟨h.raise 1,{ c with stk:=l },c.pc+1⟩ E w'):=fun w' H=>hE▸did_raise hs rfl H
   generalize im v=V at HT HCS
   clear H hs hd bad h0 h1 h2 h4 hi hm F hst hv3 hk hE hn
   obtain ⟨ch,rfl⟩:=HX0.out
   go_enter Try.func121,Try.ntmps121
   go_wp2
   refine wp_region_held_drew (S:=fun w'=>w'.cell? ⟨a.q,0,none⟩=some (.pointer (some ⟨g.hb,0,none⟩))∧w'.cell? ⟨w.heap.size,1,none⟩=some (.int .i64 ia)) (by kernel_rfl) ?_ (fun hHeld0=>?_)
   ·exact ⟨z0.out,z1.out⟩
   refine tk (i:=0) (d:=some 100) rfl rfl (by kernel_rfl) (fun _ _ _ h=>h) (by rfl) (by intro _ h;(try dsimp only at h);go_split_ands;go_simp<;>with_reducible rfl) hHeld0 ?_
   try simp only [aS,aN,aT,a0,a1]
   refine tk (i:=1) (d:=some 101) rfl rfl (by kernel_rfl) (fun _ _ _ h=>h) (by rfl) (by intro _ h;(try dsimp only at h);go_split_ands;go_simp<;>with_reducible rfl) hHeld0 ?_
   try simp only [aS,aN,aT,a0,a1]
   refine tk (i:=2) (d:=some 102) rfl rfl (by kernel_rfl) (fun _ _ _ h=>h) (by rfl) (by intro _ h;(try dsimp only at h);go_split_ands;go_simp<;>with_reducible rfl) hHeld0 ?_
   try simp only [aS,aN,aT,a0,a1]
   refine tk (i:=3) (d:=some 103) rfl rfl (by kernel_rfl) (fun _ _ _ h=>h) (by rfl) (by intro _ h;(try dsimp only at h);go_split_ands;go_simp<;>with_reducible rfl) hHeld0 ?_
   try simp only [aS,aN,aT,a0,a1]
   refine tk (i:=4) (d:=some 104) rfl rfl (by kernel_rfl) (fun _ _ _ h=>h) (by rfl) (by intro _ h;(try dsimp only at h);go_split_ands;go_simp<;>with_reducible rfl) hHeld0 ?_
   try simp only [aS,aN,aT,a0,a1]
   refine rd1 (i:=5) (by kernel_rfl) rfl fun K hK=>?_
   go_simp
   go_at_call 89
   refine (HH.out.y.useY HB.out.drew HT.out).mono ?_
   rintro e w1 ⟨rfl,H1,K1⟩
   have bxK1:=K1.at (Xp.new (Nat.le_refl _) (lt_w1 w _)) HL.out
   have K1a:=hid H1.hb
   have K1b:=hid (ins_of bxK1).1
   replace bxK1:=hid bxK1
   replace H1:=hid H1
   go_wp2_with fail
   refine hK.out _ _ (⟨K1a.out,K1b.out⟩) (fun hHeld1=>?_)
   try simp only [aS,aN,aT,a0,a1]
   refine rd1 (i:=6) (by kernel_rfl) rfl fun K hK=>?_
   go_simp
   go_at_call 124
   refine (H1.out.useY (Bl.refl _) HCS.out).mono ?_
   rintro e w2 ⟨rfl,H2,K2⟩
   exact ⟨rfl,HD.out _ (H2.x.less.rs.of rfl ⟨rfl,rfl⟩)⟩
  ·rw [if_neg hn]
   have HCS:Hid (∀w,Calls Try.prog 124 #[.pointer (some ⟨g.hb,0,none⟩),mvV (im v)] w fun e w'=>e=thrE v.n∧Bl w w'):=fun w=>mthrow_obj g.hb v hk (by omega) w
   have HD:Hid (∀w',RS 0 X wx w0 g w' h qs a c→DidQ X wx w0 g qs a c ⟨{ h with thrown:=v.n },{ c with stk:=l },c.pc+1⟩ (thrE v.n) w'):=fun w' H=>by
    have h0':0≤v.n:=by omega
    refine ⟨?_,fun _=>H.eqv ⟨rfl,rfl,rfl,rfl,rfl,rfl,rfl⟩,fun q=>?_⟩
    ·unfold DidE;dsimp only;rw [if_neg (by rw [ho];decide),if_pos h0']
    ·simp [Hp.stops] at q;omega
   generalize v.n=VN at HCS HD
   generalize im v=V at HT HCS
   clear H hs hd bad h0 h1 h2 h4 hi hm F hst hv3 hk
   go_enter Try.func121,Try.ntmps121
   go_wp2
   refine wp_region_held_drew (S:=fun w'=>w'.cell? ⟨a.q,0,none⟩=some (.pointer (some ⟨g.hb,0,none⟩))∧w'.cell? ⟨w.heap.size,1,none⟩=some (.int .i64 ia)) (by kernel_rfl) ?_ (fun hHeld0=>?_)
   ·exact ⟨z0.out,z1.out⟩
   refine tk (i:=0) (d:=some 100) rfl rfl (by kernel_rfl) (fun _ _ _ h=>h) (by rfl) (by intro _ h;(try dsimp only at h);go_split_ands;go_simp<;>with_reducible rfl) hHeld0 ?_
   try simp only [aS,aN,aT,a0,a1]
   refine tk (i:=1) (d:=some 101) rfl rfl (by kernel_rfl) (fun _ _ _ h=>h) (by rfl) (by intro _ h;(try dsimp only at h);go_split_ands;go_simp<;>with_reducible rfl) hHeld0 ?_
   try simp only [aS,aN,aT,a0,a1]
   refine tk (i:=2) (d:=some 102) rfl rfl (by kernel_rfl) (fun _ _ _ h=>h) (by rfl) (by intro _ h;(try dsimp only at h);go_split_ands;go_simp<;>with_reducible rfl) hHeld0 ?_
   try simp only [aS,aN,aT,a0,a1]
   refine tk (i:=3) (d:=some 103) rfl rfl (by kernel_rfl) (fun _ _ _ h=>h) (by rfl) (by intro _ h;(try dsimp only at h);go_split_ands;go_simp<;>with_reducible rfl) hHeld0 ?_
   try simp only [aS,aN,aT,a0,a1]
   refine tk (i:=4) (d:=some 104) rfl rfl (by kernel_rfl) (fun _ _ _ h=>h) (by rfl) (by intro _ h;(try dsimp only at h);go_split_ands;go_simp<;>with_reducible rfl) hHeld0 ?_
   try simp only [aS,aN,aT,a0,a1]
   refine rd1 (i:=5) (by kernel_rfl) rfl fun K hK=>?_
   go_simp
   go_at_call 89
   refine (HH.out.y.useY HB.out.drew HT.out).mono ?_
   rintro e w1 ⟨rfl,H1,K1⟩
   have bxK1:=K1.at (Xp.new (Nat.le_refl _) (lt_w1 w _)) HL.out
   have K1a:=hid H1.hb
   have K1b:=hid (ins_of bxK1).1
   replace bxK1:=hid bxK1
   replace H1:=hid H1
   go_wp2_with fail
   refine hK.out _ _ (⟨K1a.out,K1b.out⟩) (fun hHeld1=>?_)
   try simp only [aS,aN,aT,a0,a1]
   refine rd1 (i:=6) (by kernel_rfl) rfl fun K hK=>?_
   go_simp
   go_at_call 124
   refine (HCS.out _).mono ?_
   rintro e w2 ⟨rfl,b2⟩
   exact ⟨rfl,HD.out _ ((H1.out.bl b2).rs.less.of rfl ⟨rfl,rfl⟩)⟩
 ·have hi:isRef v=false:=decide_eq_false hk
  have hm:h.mustB (isRef v)=false:=by unfold Hp.mustB;rw [hi];rfl
  rw [if_neg (by rw [hm];decide),must_no hi]
  exact (bad (Or.inr ⟨l,v,h0,hk⟩)).mono fun e w' q=>did_chg (d:=⟨h.fin 6,c,0⟩) rfl (fin_stops hs 6) q
end
theorem slotOk {a b n:Int} (h:0≤a∧a<n∧(b=2→a+1<n)∧b≠0):0≤a∧a<n∧(b=2→a+1<n):=⟨h.1,h.2.1,h.2.2.1⟩
theorem sin24 {cs:List Cl} {nm ncode:Nat} {locs:Int} {i:In} (h:sinB cs nm ncode locs i=true) (e:i.op=24):i.a≠3:=by
 obtain ⟨op,a,b,c,n,args⟩:=i
 dsimp only at e
 subst e
 unfold sinB at h
 simp at h
 show a≠3
 omega
theorem works_all (X:Nat→Prop) (wx w0:World) (g:Mg) (h:Hp) (qs:List Nat) (a:Mc) (c:Cal) (i:In) (Q:Option Addr) (nl q:Nat) (w:World) (H:RX 1 X wx w0 g w h qs a c) (hs:h.stops=false) (gh:Gh 1 h) (gc:Gc h c) (F:Fix w0 g h) (hil:h.input.length≤1000000)
  (ok:InOk h.file.classes h.file.methods.length c.m.code.length c.locs.length i) (h24:i.op=24→i.a≠3) (n11:i.op≠11) (n12:i.op≠12) (n13:i.op≠13) (n19:i.op≠19) (n20:i.op≠20) :
  Calls Try.prog 94 #[.pointer (some ⟨a.q,0,none⟩),.agg #[.int .i64 i.op,.int .i64 i.a,.int .i64 i.b,.int .i64 i.c,.int .i64 i.n,.slice Q nl q]] w fun e w'=>DidQ X wx w0 g qs a c (doesP h c i) e w':=by
 have hl:c.stk.length≤1000:=by have:=gc.short;omega
 have hob:=gh.len
 have hst:∀v∈c.stk,v.kind=3→-1≤v.n∧v.n<h.objs.length:=fun v hv e=>(gc.stk v hv).ref e
 have hsp:h.sh.steps≤100000:=by have:=gh.steps;have:=gh.fuel;omega
 have hol:h.sh.out.length≤100000:=by have:=gh.out;have:=gh.steps;have:=gh.fuel;omega
 obtain ⟨op,ia,ib,ic,ii,args⟩:=i
 dsimp only at *
 have hop:=ok.op
 dsimp only at hop
 have:op=1∨op=2∨op=3∨op=4∨op=5∨op=6∨op=7∨op=8∨op=9∨op=10∨op=14∨op=15∨op=16∨op=17∨op=18∨op=21∨op=22∨op=23∨op=24∨op=25:=by omega
 rcases this with rfl|rfl|rfl|rfl|rfl|rfl|rfl|rfl|rfl|rfl|rfl|rfl|rfl|rfl|rfl|rfl|rfl|rfl|rfl|rfl
 ·exact work_op1 X wx w0 g h qs a c ia ib ic ii args Q nl q w H hs hl
 ·exact work_op2 X wx w0 g h qs a c ia ib ic ii args Q nl q w H hs hl
 ·exact work_op3 X wx w0 g h qs a c ia ib ic ii args Q nl q w H hs hl
 ·exact work_op4 X wx w0 g h qs a c ia ib ic ii args Q nl q w H hs hl (slotOk (ok.slot (Or.inl rfl))) (ok.kind (Or.inl rfl))
 ·exact work_op5 X wx w0 g h qs a c ia ib ic ii args Q nl q w H hs hl (slotOk (ok.slot (Or.inr rfl))) (ok.kind (Or.inr rfl))
 ·exact work_op6 X wx w0 g h qs a c ia ib ic ii args Q nl q w H hs hl hob
 ·exact work_op7 X wx w0 g h qs a c ia ib ic ii args Q nl q w H hs hl hob
 ·exact work_op8 X wx w0 g h qs a c ia ib ic ii args Q nl q w H hs hl
 ·exact work_op9 X wx w0 g h qs a c ia ib ic ii args Q nl q w H hs hl
 ·exact work_op10 X wx w0 g h qs a c ia ib ic ii args Q nl q w H hs hl hob
 ·exact work_hand14 X wx w0 g qs a c ia ib ic ii Q nl q _ w (fun w=>RX 1 X wx w0 g w h qs a c) H (fun w' hb=>H.bl hb) (fun w H=>handle_op14 X wx w0 g h qs a c ia ib ic ii args Q nl q w H hs hl hob)
 ·exact work_hand15 X wx w0 g qs a c ia ib ic ii Q nl q _ w (fun w=>RX 1 X wx w0 g w h qs a c) H (fun w' hb=>H.bl hb) (fun w H=>handle_op15 X wx w0 g h qs a c ia ib ic ii args Q nl q w H hs hl F hob hst (ok.fld (Or.inl rfl)))
 ·exact work_hand16 X wx w0 g qs a c ia ib ic ii Q nl q _ w (fun w=>RX 1 X wx w0 g w h qs a c) H (fun w' hb=>H.bl hb) (fun w H=>handle_op16 X wx w0 g h qs a c ia ib ic ii args Q nl q w H hs hl F hob hst (ok.fld (Or.inr rfl)) hsp)
 ·exact work_hand17 X wx w0 g qs a c ia ib ic ii Q nl q _ w (fun w=>RX 1 X wx w0 g w h qs a c) H (fun w' hb=>H.bl hb) (fun w H=>handle_op17 X wx w0 g h qs a c ia ib ic ii args Q nl q w H hs hl F hob hst)
 ·exact work_hand18 X wx w0 g qs a c ia ib ic ii Q nl q _ w (fun w=>RX 1 X wx w0 g w h qs a c) H (fun w' hb=>H.bl hb) (fun w H=>handle_op18 X wx w0 g h qs a c ia ib ic ii args Q nl q w H hs hl F hob hst)
 ·exact work_hand21 X wx w0 g qs a c ia ib ic ii Q nl q _ w (fun w=>RX 1 X wx w0 g w h qs a c) H (fun w' hb=>H.bl hb) (fun w H=>handle_op21 X wx w0 g h qs a c ia ib ic ii args Q nl q w H hs hl F hob hst)
 ·exact work_op22 X wx w0 g h qs a c ia ib ic ii args Q nl q w H hs hl
 ·exact work_op23 X wx w0 g h qs a c ia ib ic ii args Q nl q w H hs hl
 ·exact work_op24 X wx w0 g h qs a c ia ib ic ii args Q nl q w H hs hl (h24 rfl) hol
 ·exact work_op25 X wx w0 g h qs a c ia ib ic ii args Q nl q w H hs hl F.inp gh.used hil
end Go.Proofs.Ytgiiapenmjollaa
