import Derived.Test.YtimjmdfokicbkaaSlac
import Derived.Test.YtimjmdfokicbkaaSlaf
import Derived.Test.YtimjmdfokicbkaaSlai
import Derived.Test.YtimjmdfokicbkaaSlam
import Derived.Test.YtimjmdfokicbkaaSlat
namespace Go.Proofs.Ytimjmdfokicbkaa
set_option linter.unusedVariables false
set_option linter.unusedSimpArgs false
set_option maxHeartbeats 40000000
open Go.RowKit
section
open Go.Maps (Keyed has)
set_option maxRecDepth 100000 in
theorem handle_op14 (X:Nat→Prop) (wx w0:World) (g:Mg) (h:Hp) (qs:List Nat) (a:Mc) (c:Cal) (ia ib ic ii:Int) (args:List Int) (Q:Option Addr) (nl q:Nat) (w:World) (H:RX 1 X wx w0 g w h qs a c) (hs:h.stops=false) (hl:c.stk.length≤1000) (hob:h.objs.length≤100) :
  Calls Try.prog 120 #[.pointer (some ⟨a.q,0,none⟩),.agg #[.int .i64 14,.int .i64 ia,.int .i64 ib,.int .i64 ic,.int .i64 ii,.slice Q nl q]] w fun e w'=>DidQ X wx w0 g qs a c (doesP h c ⟨14,ia,ib,ic,ii,args⟩) e w':=by
 have ho:=hs_over hs
 have HH:=hid H
 have HS:=hid hs
 have HB:Hid (Bl w (w.alloc (.cells #[.int .i64 14,.int .i64 ia,.int .i64 ib,.int .i64 ic,.int .i64 ii,.slice Q nl q] 51))):=(Bl.refl w).alloc _
 have HL:=hid (blk_new w #[.int .i64 14,.int .i64 ia,.int .i64 ib,.int .i64 ic,.int .i64 ii,.slice Q nl q] 51)
 have z0:=hid ((H.y.bl HB.out).hb)
 have z1:=hid (ins_of HL.out).1
 have hd:doesP h c ⟨14,ia,ib,ic,ii,args⟩=givesP h c ⟨14,ia,ib,ic,ii,args⟩:=rfl
 have em:manyOf 14=0:=by decide
 have e2:c.cut 0=c:=by unfold Cal.cut;simp
 have e3:h.must (c.has 0)=h:=by unfold Hp.must Cal.has;simp
 have eg:∀x y,givesH h x y ⟨14,ia,ib,ic,ii,args⟩=h.new ia:=by intro x y;unfold givesH;rw [if_neg (by rw [ho];decide)];simp
 have ev:∀x y,givesV h x y ⟨14,ia,ib,ic,ii,args⟩=h.newV:=by intro x y;unfold givesV;rw [if_neg (by rw [ho];decide)];simp
 rw [hd]
 unfold givesP
 dsimp only
 rw [em,e3,eg,ev,e2]
 cases hf:h.full with
 | true =>
  have e1:h.new ia=h.fin 4:=by unfold Hp.new;rw [if_pos hf]
  rw [e1,if_pos (fin_stops hs 4)]
  have HF:=hid (And.intro hf hob)
  clear H hs hd em e1 e2 e3 eg ev hf
  go_enter Try.func120,Try.ntmps120
  go_wp2
  refine wp_region_held_drew (S:=fun w'=>w'.cell? ⟨a.q,0,none⟩=some (.pointer (some ⟨g.hb,0,none⟩))∧w'.cell? ⟨w.heap.size,1,none⟩=some (.int .i64 ia)) (by kernel_rfl) ?_ (fun hHeld0=>?_)
  ·exact ⟨z0.out,z1.out⟩
  refine tk (i:=0) (d:=some 9) rfl rfl (by kernel_rfl) (fun _ _ _ h=>h) (by rfl) (by intro _ h;(try dsimp only at h);go_split_ands;go_simp<;>with_reducible rfl) hHeld0 ?_
  try simp only [aS,aN,aT,a0,a1]
  refine tk (i:=1) (d:=some 10) rfl rfl (by kernel_rfl) (fun _ _ _ h=>h) (by rfl) (by intro _ h;(try dsimp only at h);go_split_ands;go_simp<;>with_reducible rfl) hHeld0 ?_
  try simp only [aS,aN,aT,a0,a1]
  refine tk (i:=2) (d:=some 11) rfl rfl (by kernel_rfl) (fun _ _ _ h=>h) (by rfl) (by intro _ h;(try dsimp only at h);go_split_ands;go_simp<;>with_reducible rfl) hHeld0 ?_
  try simp only [aS,aN,aT,a0,a1]
  refine tk (i:=3) (d:=some 12) rfl rfl (by kernel_rfl) (fun _ _ _ h=>h) (by rfl) (by intro _ h;(try dsimp only at h);go_split_ands;go_simp<;>with_reducible rfl) hHeld0 ?_
  try simp only [aS,aN,aT,a0,a1]
  refine tk (i:=4) (d:=some 13) rfl rfl (by kernel_rfl) (fun _ _ _ h=>h) (by rfl) (by intro _ h;(try dsimp only at h);go_split_ands;go_simp<;>with_reducible rfl) hHeld0 ?_
  try simp only [aS,aN,aT,a0,a1]
  refine tk (i:=5) (d:=some 14) rfl rfl (by kernel_rfl) (fun _ _ _ h=>h) (by rfl) (by intro _ h;(try dsimp only at h);go_split_ands;go_simp<;>with_reducible rfl) hHeld0 ?_
  try simp only [aS,aN,aT,a0,a1]
  refine tk (i:=6) (d:=some 15) rfl rfl (by kernel_rfl) (fun _ _ _ h=>h) (by rfl) (by intro _ h;(try dsimp only at h);go_split_ands;go_simp<;>with_reducible rfl) hHeld0 ?_
  try simp only [aS,aN,aT,a0,a1]
  refine rd1 (i:=7) (by kernel_rfl) rfl fun K hK=>?_
  go_simp
  go_at_call 135
  refine (HH.out.y.useY HB.out.drew (fun X wx w H=>mnew_no 1 X wx w0 g h qs a c ia w H HF.out.1 HF.out.2)).mono ?_
  rintro e w1 ⟨rfl,H1,K1⟩
  exact ⟨rfl,did_fin (s:=0) (hs_over HS.out) rfl H1.x.less.rs⟩
 | false =>
  have e1:h.new ia=h.mk' ia:=by unfold Hp.new Hp.mk';rw [if_neg (by rw [hf];decide)]
  have e5:h.newV=⟨3,(h.objs.length:Nat)⟩:=by unfold Hp.newV;rw [if_neg (by rw [hf];decide)]
  have hs2:(h.mk' ia).stops=false:=hs
  rw [e1,e5,if_neg (by rw [hs2];decide)]
  have HF:=hid hf
  have HR:Hid (∀X wx w,RX 1 X wx w0 g w h qs a c→Calls Try.prog 135 #[.pointer (some ⟨g.hb,0,none⟩),.int .i64 ia] w fun e w'=>e=.returned (mvV (im ⟨3,(h.objs.length:Nat)⟩))∧RX 1 X wx w0 g w' (h.mk' ia) qs a c):=fun X wx w H=>mnew_yes 1 X wx w0 g h qs a c ia w H hf
  obtain ⟨E,hE⟩:∃E,(if (sizP ((c).stk++[(⟨3,(h.objs.length:Nat)⟩:Va)]):Int)≤(c).m.stack then Ending.returned (.tuple #[]) else stopE 6 0 0)=E:=⟨_,rfl⟩
  have HP:Hid (∀X wx w,RX 1 X wx w0 g w (h.mk' ia) qs a (c)→Calls Try.prog 94 #[.pointer (some ⟨a.q,0,none⟩),mvV (im (⟨3,(h.objs.length:Nat)⟩:Va))] w fun e w2=>e=E∧RX 1 X wx w0 g w2 (h.mk' ia) qs a ((c).put (⟨3,(h.objs.length:Nat)⟩:Va))):=fun X wx w H=>hE▸mput_any 1 X wx w0 g (h.mk' ia) qs a (c) (⟨3,(h.objs.length:Nat)⟩:Va) w H (show (1:Int)≤3∧(3:Int)≤3 from by decide) (hl)
  have HE:Hid (∀w',RX 1 X wx w0 g w' (h.mk' ia) qs a ((c).put (⟨3,(h.objs.length:Nat)⟩:Va))→DidQ X wx w0 g qs a c ⟨((h.mk' ia)).putH (c) (⟨3,(h.objs.length:Nat)⟩:Va),(c).put (⟨3,(h.objs.length:Nat)⟩:Va),c.pc+1⟩ E w'):=fun w' H=>did_put hs2 rfl ⟨rfl,rfl⟩ hE.symm H.less
  have hE2:E=.returned (.tuple #[])∨E=stopE 6 0 0:=by rw [←hE];split;exact Or.inl rfl;exact Or.inr rfl
  clear hE
  generalize im (⟨3,(h.objs.length:Nat)⟩:Va)=V at HR HP
  clear H hs hd em e1 e2 e3 e5 eg ev hf hs2
  rcases hE2 with rfl|rfl
  ·go_enter Try.func120,Try.ntmps120
   go_wp2
   refine wp_region_held_drew (S:=fun w'=>w'.cell? ⟨a.q,0,none⟩=some (.pointer (some ⟨g.hb,0,none⟩))∧w'.cell? ⟨w.heap.size,1,none⟩=some (.int .i64 ia)) (by kernel_rfl) ?_ (fun hHeld0=>?_)
   ·exact ⟨z0.out,z1.out⟩
   refine tk (i:=0) (d:=some 9) rfl rfl (by kernel_rfl) (fun _ _ _ h=>h) (by rfl) (by intro _ h;(try dsimp only at h);go_split_ands;go_simp<;>with_reducible rfl) hHeld0 ?_
   try simp only [aS,aN,aT,a0,a1]
   refine tk (i:=1) (d:=some 10) rfl rfl (by kernel_rfl) (fun _ _ _ h=>h) (by rfl) (by intro _ h;(try dsimp only at h);go_split_ands;go_simp<;>with_reducible rfl) hHeld0 ?_
   try simp only [aS,aN,aT,a0,a1]
   refine tk (i:=2) (d:=some 11) rfl rfl (by kernel_rfl) (fun _ _ _ h=>h) (by rfl) (by intro _ h;(try dsimp only at h);go_split_ands;go_simp<;>with_reducible rfl) hHeld0 ?_
   try simp only [aS,aN,aT,a0,a1]
   refine tk (i:=3) (d:=some 12) rfl rfl (by kernel_rfl) (fun _ _ _ h=>h) (by rfl) (by intro _ h;(try dsimp only at h);go_split_ands;go_simp<;>with_reducible rfl) hHeld0 ?_
   try simp only [aS,aN,aT,a0,a1]
   refine tk (i:=4) (d:=some 13) rfl rfl (by kernel_rfl) (fun _ _ _ h=>h) (by rfl) (by intro _ h;(try dsimp only at h);go_split_ands;go_simp<;>with_reducible rfl) hHeld0 ?_
   try simp only [aS,aN,aT,a0,a1]
   refine tk (i:=5) (d:=some 14) rfl rfl (by kernel_rfl) (fun _ _ _ h=>h) (by rfl) (by intro _ h;(try dsimp only at h);go_split_ands;go_simp<;>with_reducible rfl) hHeld0 ?_
   try simp only [aS,aN,aT,a0,a1]
   refine tk (i:=6) (d:=some 15) rfl rfl (by kernel_rfl) (fun _ _ _ h=>h) (by rfl) (by intro _ h;(try dsimp only at h);go_split_ands;go_simp<;>with_reducible rfl) hHeld0 ?_
   try simp only [aS,aN,aT,a0,a1]
   refine rd1 (i:=7) (by kernel_rfl) rfl fun K hK=>?_
   go_simp
   go_at_call 135
   refine (HH.out.y.useY HB.out.drew HR.out).mono ?_
   rintro e w1 ⟨rfl,H1,K1⟩
   have bxK1:=K1.at (Xp.new (Nat.le_refl _) (lt_w1 w _)) HL.out
   have K1a:=hid H1.hb
   have K1b:=hid (ins_of bxK1).1
   replace bxK1:=hid bxK1
   replace H1:=hid H1
   go_wp2_with fail
   refine hK.out _ _ (⟨K1a.out,K1b.out⟩) (fun hHeld1=>?_)
   try simp only [aS,aN,aT,a0,a1]
   refine rd1 (i:=8) (by kernel_rfl) rfl fun K hK=>?_
   go_simp
   go_at_call 94
   refine (H1.out.useY (Bl.refl _) HP.out).mono ?_
   rintro e w2 ⟨rfl,HX,KX⟩
   have bxX:=KX.at (Xp.old (Xp.new (Nat.le_refl _) (lt_w1 w _))) bxK1.out
   have Xa:=hid HX.hb
   have Xb:=hid (ins_of bxX).1
   replace HX:=hid HX
   go_wp2_with fail
   refine hK.out _ _ (⟨Xa.out,Xb.out⟩) (fun hHeld2=>?_)
   try simp only [aS,aN,aT,a0,a1]
   refine wpAnyH_done (by kernel_rfl) ?_ _
   go_wp2
   go_end0
   exact HE.out _ HX.out.x
  ·go_enter Try.func120,Try.ntmps120
   go_wp2
   refine wp_region_held_drew (S:=fun w'=>w'.cell? ⟨a.q,0,none⟩=some (.pointer (some ⟨g.hb,0,none⟩))∧w'.cell? ⟨w.heap.size,1,none⟩=some (.int .i64 ia)) (by kernel_rfl) ?_ (fun hHeld0=>?_)
   ·exact ⟨z0.out,z1.out⟩
   refine tk (i:=0) (d:=some 9) rfl rfl (by kernel_rfl) (fun _ _ _ h=>h) (by rfl) (by intro _ h;(try dsimp only at h);go_split_ands;go_simp<;>with_reducible rfl) hHeld0 ?_
   try simp only [aS,aN,aT,a0,a1]
   refine tk (i:=1) (d:=some 10) rfl rfl (by kernel_rfl) (fun _ _ _ h=>h) (by rfl) (by intro _ h;(try dsimp only at h);go_split_ands;go_simp<;>with_reducible rfl) hHeld0 ?_
   try simp only [aS,aN,aT,a0,a1]
   refine tk (i:=2) (d:=some 11) rfl rfl (by kernel_rfl) (fun _ _ _ h=>h) (by rfl) (by intro _ h;(try dsimp only at h);go_split_ands;go_simp<;>with_reducible rfl) hHeld0 ?_
   try simp only [aS,aN,aT,a0,a1]
   refine tk (i:=3) (d:=some 12) rfl rfl (by kernel_rfl) (fun _ _ _ h=>h) (by rfl) (by intro _ h;(try dsimp only at h);go_split_ands;go_simp<;>with_reducible rfl) hHeld0 ?_
   try simp only [aS,aN,aT,a0,a1]
   refine tk (i:=4) (d:=some 13) rfl rfl (by kernel_rfl) (fun _ _ _ h=>h) (by rfl) (by intro _ h;(try dsimp only at h);go_split_ands;go_simp<;>with_reducible rfl) hHeld0 ?_
   try simp only [aS,aN,aT,a0,a1]
   refine tk (i:=5) (d:=some 14) rfl rfl (by kernel_rfl) (fun _ _ _ h=>h) (by rfl) (by intro _ h;(try dsimp only at h);go_split_ands;go_simp<;>with_reducible rfl) hHeld0 ?_
   try simp only [aS,aN,aT,a0,a1]
   refine tk (i:=6) (d:=some 15) rfl rfl (by kernel_rfl) (fun _ _ _ h=>h) (by rfl) (by intro _ h;(try dsimp only at h);go_split_ands;go_simp<;>with_reducible rfl) hHeld0 ?_
   try simp only [aS,aN,aT,a0,a1]
   refine rd1 (i:=7) (by kernel_rfl) rfl fun K hK=>?_
   go_simp
   go_at_call 135
   refine (HH.out.y.useY HB.out.drew HR.out).mono ?_
   rintro e w1 ⟨rfl,H1,K1⟩
   have bxK1:=K1.at (Xp.new (Nat.le_refl _) (lt_w1 w _)) HL.out
   have K1a:=hid H1.hb
   have K1b:=hid (ins_of bxK1).1
   replace bxK1:=hid bxK1
   replace H1:=hid H1
   go_wp2_with fail
   refine hK.out _ _ (⟨K1a.out,K1b.out⟩) (fun hHeld1=>?_)
   try simp only [aS,aN,aT,a0,a1]
   refine rd1 (i:=8) (by kernel_rfl) rfl fun K hK=>?_
   go_simp
   go_at_call 94
   refine (H1.out.useY (Bl.refl _) HP.out).mono ?_
   rintro e wx' ⟨rfl,HX,KX⟩
   exact ⟨rfl,HE.out _ HX.x⟩
end
section
open Go.Maps (Keyed has)
set_option maxRecDepth 100000 in
theorem handle_op17 (X:Nat→Prop) (wx w0:World) (g:Mg) (h:Hp) (qs:List Nat) (a:Mc) (c:Cal) (ia ib ic ii:Int) (args:List Int) (Q:Option Addr) (nl q:Nat) (w:World) (H:RX 1 X wx w0 g w h qs a c) (hs:h.stops=false) (hl:c.stk.length≤1000) (F:Fix w0 g h) (hob:h.objs.length≤100) (hst:∀v∈c.stk,v.kind=3→-1≤v.n∧v.n<h.objs.length) :
  Calls Try.prog 120 #[.pointer (some ⟨a.q,0,none⟩),.agg #[.int .i64 17,.int .i64 ia,.int .i64 ib,.int .i64 ic,.int .i64 ii,.slice Q nl q]] w fun e w'=>DidQ X wx w0 g qs a c (doesP h c ⟨17,ia,ib,ic,ii,args⟩) e w':=by
 have ho:=hs_over hs
 have HH:=hid H
 have HS:=hid hs
 have HB:Hid (Bl w (w.alloc (.cells #[.int .i64 17,.int .i64 ia,.int .i64 ib,.int .i64 ic,.int .i64 ii,.slice Q nl q] 51))):=(Bl.refl w).alloc _
 have HL:=hid (blk_new w #[.int .i64 17,.int .i64 ia,.int .i64 ib,.int .i64 ic,.int .i64 ii,.slice Q nl q] 51)
 have z0:=hid ((H.y.bl HB.out).hb)
 have z1:=hid (ins_of HL.out).1
 have bad:(c.stk=[]∨∃l v,c.stk=l++[v]∧v.kind≠3)→Calls Try.prog 120 #[.pointer (some ⟨a.q,0,none⟩),.agg #[.int .i64 17,.int .i64 ia,.int .i64 ib,.int .i64 ic,.int .i64 ii,.slice Q nl q]] w fun e w'=>DidQ X wx w0 g qs a c ⟨h.fin 6,c,0⟩ e w':=fun hn=>by
  have HN:=hid hn
  clear H hs hn F hst
  go_enter Try.func120,Try.ntmps120
  go_wp2
  refine wp_region_held_drew (S:=fun w'=>w'.cell? ⟨a.q,0,none⟩=some (.pointer (some ⟨g.hb,0,none⟩))∧w'.cell? ⟨w.heap.size,1,none⟩=some (.int .i64 ia)) (by kernel_rfl) ?_ (fun hHeld0=>?_)
  ·exact ⟨z0.out,z1.out⟩
  refine tk (i:=0) (d:=some 73) rfl rfl (by kernel_rfl) (fun _ _ _ h=>h) (by rfl) (by intro _ h;(try dsimp only at h);go_split_ands;go_simp<;>with_reducible rfl) hHeld0 ?_
  try simp only [aS,aN,aT,a0,a1]
  refine tk (i:=1) (d:=some 74) rfl rfl (by kernel_rfl) (fun _ _ _ h=>h) (by rfl) (by intro _ h;(try dsimp only at h);go_split_ands;go_simp<;>with_reducible rfl) hHeld0 ?_
  try simp only [aS,aN,aT,a0,a1]
  refine tk (i:=2) (d:=some 75) rfl rfl (by kernel_rfl) (fun _ _ _ h=>h) (by rfl) (by intro _ h;(try dsimp only at h);go_split_ands;go_simp<;>with_reducible rfl) hHeld0 ?_
  try simp only [aS,aN,aT,a0,a1]
  refine tk (i:=3) (d:=some 76) rfl rfl (by kernel_rfl) (fun _ _ _ h=>h) (by rfl) (by intro _ h;(try dsimp only at h);go_split_ands;go_simp<;>with_reducible rfl) hHeld0 ?_
  try simp only [aS,aN,aT,a0,a1]
  refine tk (i:=4) (d:=some 77) rfl rfl (by kernel_rfl) (fun _ _ _ h=>h) (by rfl) (by intro _ h;(try dsimp only at h);go_split_ands;go_simp<;>with_reducible rfl) hHeld0 ?_
  try simp only [aS,aN,aT,a0,a1]
  refine tk (i:=5) (d:=some 78) rfl rfl (by kernel_rfl) (fun _ _ _ h=>h) (by rfl) (by intro _ h;(try dsimp only at h);go_split_ands;go_simp<;>with_reducible rfl) hHeld0 ?_
  try simp only [aS,aN,aT,a0,a1]
  refine tk (i:=7) (d:=some 80) rfl rfl (by kernel_rfl) (fun _ _ _ h=>h) (by rfl) (by intro _ h;(try dsimp only at h);go_split_ands;go_simp<;>with_reducible rfl) hHeld0 ?_
  try simp only [aS,aN,aT,a0,a1]
  refine tk (i:=8) (d:=some 81) rfl rfl (by kernel_rfl) (fun _ _ _ h=>h) (by rfl) (by intro _ h;(try dsimp only at h);go_split_ands;go_simp<;>with_reducible rfl) hHeld0 ?_
  try simp only [aS,aN,aT,a0,a1]
  refine rd1 (i:=6) (by kernel_rfl) rfl fun K hK=>?_
  go_simp
  go_at_call 88
  refine (HH.out.y.useN HB.out.drew (fun X wx w H=>takeKind_no 1 X wx w0 g h qs a c 3 w H HN.out)).mono ?_
  rintro e w1 ⟨rfl,H1⟩
  exact ⟨rfl,did_fin (s:=0) (hs_over HS.out) rfl H1.less⟩
 have hd:doesP h c ⟨17,ia,ib,ic,ii,args⟩=givesP h c ⟨17,ia,ib,ic,ii,args⟩:=rfl
 have em:manyOf 17=1:=by decide
 rw [hd]
 unfold givesP
 dsimp only
 rw [em]
 rcases stk_one (c:=c) with h0|⟨l,v,h0⟩
 ·rw [must_no (has_nil h0),gives_over (fin6 ho 6).1,if_pos (fin_stops hs 6)]
  exact (bad (Or.inl h0)).mono fun e w' q=>did_chg (d:=⟨h.fin 6,c,0⟩) rfl (fin_stops hs 6) q
 obtain ⟨h1,h2,h4⟩:=has_one h0
 rw [must_yes h1,h2,h4]
 generalize nth va0 (c.top 1) 1=y
 by_cases hk:v.kind=3
 ·have hv3:=hst v (by rw [h0];simp) hk
  have hi:isRef v=true:=decide_eq_true hk
  have hm:h.mustB (isRef v)=true:=by unfold Hp.mustB;rw [hi,ho];rfl
  have hof:h.of v ⟨3,ia⟩=(decide (v.n<0)||belI h.file.classes (h.obj v.n).cls ia):=by unfold Hp.of;simp [hk]
  have eg:givesH h v y ⟨17,ia,ib,ic,ii,args⟩=if h.of v ⟨3,ia⟩=true then h else h.raise 3:=by
   unfold givesH
   rw [if_neg (by rw [ho];decide)]
   simp [Hp.cast,hm]
  have ev:givesV h v y ⟨17,ia,ib,ic,ii,args⟩=v:=by unfold givesV;rw [if_neg (by rw [ho];decide)];simp
  rw [eg,ev]
  have HT:Hid (∀X wx w,RX 1 X wx w0 g w h qs a c→Calls Try.prog 88 #[.pointer (some ⟨a.q,0,none⟩),.int .i64 3] w fun e w'=>e=.returned (mvV (im v))∧RX 1 X wx w0 g w' h qs a { c with stk:=l }):=fun X wx w H=>takeKind_yes 1 X wx w0 g h qs a c l v 3 w H h0 hk
  have HM:Hid (Fix w0 g h∧h.objs.length≤100∧v.kind=3∧-1≤v.n∧v.n<h.objs.length):=⟨F,hob,hk,hv3.1,hv3.2⟩
  cases hz:h.of v ⟨3,ia⟩ with
  | true =>
   have ef:(if true=true then h else h.raise 3)=h:=rfl
   rw [ef,if_neg (by rw [hs];decide)]
   have HCS:Hid (∀w,HRd w g h→Calls Try.prog 139 #[.pointer (some ⟨g.hb,0,none⟩),mvV (im v),.int .i64 ia] w fun e w'=>e=.returned (mvV (im v))∧Bl w w'):=fun w R=>by
    rw [hz] at hof
    by_cases hn:v.n=-1
    ·exact cast_nil g.hb v ia w hk hn
    ·have hn0:¬v.n<0:=by omega
     rw [decide_eq_false hn0,Bool.false_or] at hof
     exact cast_yes g h v ia w R hk (by omega) hv3.2 hof.symm
   obtain ⟨E,hE⟩:∃E,(if (sizP (({ c with stk:=l }).stk++[v]):Int)≤({ c with stk:=l }).m.stack then Ending.returned (.tuple #[]) else stopE 6 0 0)=E:=⟨_,rfl⟩
   have HP:Hid (∀X wx w,RX 1 X wx w0 g w h qs a ({ c with stk:=l })→Calls Try.prog 94 #[.pointer (some ⟨a.q,0,none⟩),mvV (im v)] w fun e w2=>e=E∧RX 1 X wx w0 g w2 h qs a (({ c with stk:=l }).put v)):=fun X wx w H=>hE▸mput_any 1 X wx w0 g h qs a ({ c with stk:=l }) v w H (by rw [hk];decide) (by have e:c.stk.length=l.length+1:=(by rw [h0];simp);show l.length≤1000;omega)
   have HE:Hid (∀w',RX 1 X wx w0 g w' h qs a (({ c with stk:=l }).put v)→DidQ X wx w0 g qs a c ⟨(h).putH ({ c with stk:=l }) v,({ c with stk:=l }).put v,c.pc+1⟩ E w'):=fun w' H=>did_put hs rfl ⟨rfl,rfl⟩ hE.symm H.less
   have hE2:E=.returned (.tuple #[])∨E=stopE 6 0 0:=by rw [←hE];split;exact Or.inl rfl;exact Or.inr rfl
   clear hE
   generalize im v=V at HT HP HCS
   clear H hs hd bad em h0 h1 h2 h4 eg ev ef hz hof hi hm F hst hv3 hk
   rcases hE2 with rfl|rfl
   ·go_enter Try.func120,Try.ntmps120
    go_wp2
    refine wp_region_held_drew (S:=fun w'=>w'.cell? ⟨a.q,0,none⟩=some (.pointer (some ⟨g.hb,0,none⟩))∧w'.cell? ⟨w.heap.size,1,none⟩=some (.int .i64 ia)) (by kernel_rfl) ?_ (fun hHeld0=>?_)
    ·exact ⟨z0.out,z1.out⟩
    refine tk (i:=0) (d:=some 73) rfl rfl (by kernel_rfl) (fun _ _ _ h=>h) (by rfl) (by intro _ h;(try dsimp only at h);go_split_ands;go_simp<;>with_reducible rfl) hHeld0 ?_
    try simp only [aS,aN,aT,a0,a1]
    refine tk (i:=1) (d:=some 74) rfl rfl (by kernel_rfl) (fun _ _ _ h=>h) (by rfl) (by intro _ h;(try dsimp only at h);go_split_ands;go_simp<;>with_reducible rfl) hHeld0 ?_
    try simp only [aS,aN,aT,a0,a1]
    refine tk (i:=2) (d:=some 75) rfl rfl (by kernel_rfl) (fun _ _ _ h=>h) (by rfl) (by intro _ h;(try dsimp only at h);go_split_ands;go_simp<;>with_reducible rfl) hHeld0 ?_
    try simp only [aS,aN,aT,a0,a1]
    refine tk (i:=3) (d:=some 76) rfl rfl (by kernel_rfl) (fun _ _ _ h=>h) (by rfl) (by intro _ h;(try dsimp only at h);go_split_ands;go_simp<;>with_reducible rfl) hHeld0 ?_
    try simp only [aS,aN,aT,a0,a1]
    refine tk (i:=4) (d:=some 77) rfl rfl (by kernel_rfl) (fun _ _ _ h=>h) (by rfl) (by intro _ h;(try dsimp only at h);go_split_ands;go_simp<;>with_reducible rfl) hHeld0 ?_
    try simp only [aS,aN,aT,a0,a1]
    refine tk (i:=5) (d:=some 78) rfl rfl (by kernel_rfl) (fun _ _ _ h=>h) (by rfl) (by intro _ h;(try dsimp only at h);go_split_ands;go_simp<;>with_reducible rfl) hHeld0 ?_
    try simp only [aS,aN,aT,a0,a1]
    refine tk (i:=7) (d:=some 80) rfl rfl (by kernel_rfl) (fun _ _ _ h=>h) (by rfl) (by intro _ h;(try dsimp only at h);go_split_ands;go_simp<;>with_reducible rfl) hHeld0 ?_
    try simp only [aS,aN,aT,a0,a1]
    refine tk (i:=8) (d:=some 81) rfl rfl (by kernel_rfl) (fun _ _ _ h=>h) (by rfl) (by intro _ h;(try dsimp only at h);go_split_ands;go_simp<;>with_reducible rfl) hHeld0 ?_
    try simp only [aS,aN,aT,a0,a1]
    refine rd1 (i:=6) (by kernel_rfl) rfl fun K hK=>?_
    go_simp
    go_at_call 88
    refine (HH.out.y.useY HB.out.drew HT.out).mono ?_
    rintro e w1 ⟨rfl,H1,K1⟩
    have bxK1:=K1.at (Xp.new (Nat.le_refl _) (lt_w1 w _)) HL.out
    have K1a:=hid H1.hb
    have K1b:=hid (ins_of bxK1).1
    replace bxK1:=hid bxK1
    replace H1:=hid H1
    go_wp2_with fail
    refine hK.out _ _ (⟨K1a.out,K1b.out⟩) (fun hHeld1=>?_)
    try simp only [aS,aN,aT,a0,a1]
    refine rd1 (i:=9) (by kernel_rfl) rfl fun K hK=>?_
    go_simp
    go_at_call 139
    refine (HCS.out _ (H1.out.x.rd HM.out.1 HM.out.2.1)).mono ?_
    rintro e w2 ⟨rfl,b2⟩
    have e0:=hid (b2.cell hHeld1.1)
    have e1:=hid (b2.cell hHeld1.2)
    have bx2:=hid (bl_blk b2 bxK1.out)
    replace b2:=hid b2
    go_wp2_with fail
    refine hK.out _ _ (⟨e0.out,e1.out⟩) (fun hHeld2=>?_)
    try simp only [aS,aN,aT,a0,a1]
    refine rd1 (i:=10) (by kernel_rfl) rfl fun K hK=>?_
    go_simp
    go_at_call 94
    refine (H1.out.useY (b2.out) HP.out).mono ?_
    rintro e w3 ⟨rfl,HX,KX⟩
    have bxX:=KX.at (Xp.old (Xp.new (Nat.le_refl _) (lt_w1 w _))) bx2.out
    have Xa:=hid HX.hb
    have Xb:=hid (ins_of bxX).1
    replace HX:=hid HX
    go_wp2_with fail
    refine hK.out _ _ (⟨Xa.out,Xb.out⟩) (fun hHeld3=>?_)
    try simp only [aS,aN,aT,a0,a1]
    refine wpAnyH_done (by kernel_rfl) ?_ _
    go_wp2
    go_end0
    exact HE.out _ HX.out.x
   ·go_enter Try.func120,Try.ntmps120
    go_wp2
    refine wp_region_held_drew (S:=fun w'=>w'.cell? ⟨a.q,0,none⟩=some (.pointer (some ⟨g.hb,0,none⟩))∧w'.cell? ⟨w.heap.size,1,none⟩=some (.int .i64 ia)) (by kernel_rfl) ?_ (fun hHeld0=>?_)
    ·exact ⟨z0.out,z1.out⟩
    refine tk (i:=0) (d:=some 73) rfl rfl (by kernel_rfl) (fun _ _ _ h=>h) (by rfl) (by intro _ h;(try dsimp only at h);go_split_ands;go_simp<;>with_reducible rfl) hHeld0 ?_
    try simp only [aS,aN,aT,a0,a1]
    refine tk (i:=1) (d:=some 74) rfl rfl (by kernel_rfl) (fun _ _ _ h=>h) (by rfl) (by intro _ h;(try dsimp only at h);go_split_ands;go_simp<;>with_reducible rfl) hHeld0 ?_
    try simp only [aS,aN,aT,a0,a1]
    refine tk (i:=2) (d:=some 75) rfl rfl (by kernel_rfl) (fun _ _ _ h=>h) (by rfl) (by intro _ h;(try dsimp only at h);go_split_ands;go_simp<;>with_reducible rfl) hHeld0 ?_
    try simp only [aS,aN,aT,a0,a1]
    refine tk (i:=3) (d:=some 76) rfl rfl (by kernel_rfl) (fun _ _ _ h=>h) (by rfl) (by intro _ h;(try dsimp only at h);go_split_ands;go_simp<;>with_reducible rfl) hHeld0 ?_
    try simp only [aS,aN,aT,a0,a1]
    refine tk (i:=4) (d:=some 77) rfl rfl (by kernel_rfl) (fun _ _ _ h=>h) (by rfl) (by intro _ h;(try dsimp only at h);go_split_ands;go_simp<;>with_reducible rfl) hHeld0 ?_
    try simp only [aS,aN,aT,a0,a1]
    refine tk (i:=5) (d:=some 78) rfl rfl (by kernel_rfl) (fun _ _ _ h=>h) (by rfl) (by intro _ h;(try dsimp only at h);go_split_ands;go_simp<;>with_reducible rfl) hHeld0 ?_
    try simp only [aS,aN,aT,a0,a1]
    refine tk (i:=7) (d:=some 80) rfl rfl (by kernel_rfl) (fun _ _ _ h=>h) (by rfl) (by intro _ h;(try dsimp only at h);go_split_ands;go_simp<;>with_reducible rfl) hHeld0 ?_
    try simp only [aS,aN,aT,a0,a1]
    refine tk (i:=8) (d:=some 81) rfl rfl (by kernel_rfl) (fun _ _ _ h=>h) (by rfl) (by intro _ h;(try dsimp only at h);go_split_ands;go_simp<;>with_reducible rfl) hHeld0 ?_
    try simp only [aS,aN,aT,a0,a1]
    refine rd1 (i:=6) (by kernel_rfl) rfl fun K hK=>?_
    go_simp
    go_at_call 88
    refine (HH.out.y.useY HB.out.drew HT.out).mono ?_
    rintro e w1 ⟨rfl,H1,K1⟩
    have bxK1:=K1.at (Xp.new (Nat.le_refl _) (lt_w1 w _)) HL.out
    have K1a:=hid H1.hb
    have K1b:=hid (ins_of bxK1).1
    replace bxK1:=hid bxK1
    replace H1:=hid H1
    go_wp2_with fail
    refine hK.out _ _ (⟨K1a.out,K1b.out⟩) (fun hHeld1=>?_)
    try simp only [aS,aN,aT,a0,a1]
    refine rd1 (i:=9) (by kernel_rfl) rfl fun K hK=>?_
    go_simp
    go_at_call 139
    refine (HCS.out _ (H1.out.x.rd HM.out.1 HM.out.2.1)).mono ?_
    rintro e w2 ⟨rfl,b2⟩
    have e0:=hid (b2.cell hHeld1.1)
    have e1:=hid (b2.cell hHeld1.2)
    have bx2:=hid (bl_blk b2 bxK1.out)
    replace b2:=hid b2
    go_wp2_with fail
    refine hK.out _ _ (⟨e0.out,e1.out⟩) (fun hHeld2=>?_)
    try simp only [aS,aN,aT,a0,a1]
    refine rd1 (i:=10) (by kernel_rfl) rfl fun K hK=>?_
    go_simp
    go_at_call 94
    refine (H1.out.useY (b2.out) HP.out).mono ?_
    rintro e wx' ⟨rfl,HX,KX⟩
    exact ⟨rfl,HE.out _ HX.x⟩
  | false =>
   have ef:(if false=true then h else h.raise 3)=h.raise 3:=rfl
   rw [ef,if_pos (raise_stops hs 3)]
   obtain ⟨E,hE⟩:∃E,raiseE h=E:=⟨_,rfl⟩
   have HX0:Hid (∃ch,E=.panicked ch):=by
    rw [←hE];unfold raiseE;split<;>exact ⟨_,rfl⟩
   have HCS:Hid (∀X wx w,RX 1 X wx w0 g w h qs a { c with stk:=l }→Calls Try.prog 139 #[.pointer (some ⟨g.hb,0,none⟩),mvV (im v),.int .i64 ia] w fun e w'=>e=E∧RX 1 X wx w0 g w' (h.raise 3) qs a { c with stk:=l }):=fun X wx w H=>by
    rw [hz] at hof
    have hof':=hof.symm
    rw [Bool.or_eq_false_iff] at hof'
    have hn0:¬v.n<0:=of_decide_eq_false hof'.1
    exact hE▸cast_no 1 X wx w0 g h qs a { c with stk:=l } v ia w H F hob ho hk (by omega) hv3.2 hof'.2
   have HD:Hid (∀w',RS 0 X wx w0 g w' (h.raise 3) qs a c→DidQ X wx w0 g qs a c ⟨h.raise 3,{ c with stk:=l },c.pc+1⟩ E w'):=fun w' H=>hE▸did_raise hs rfl H
   generalize im v=V at HT HCS
   clear H hs hd bad em h0 h1 h2 h4 eg ev ef hz hof hi hm F hst hv3 hk hE
   obtain ⟨ch,rfl⟩:=HX0.out
   go_enter Try.func120,Try.ntmps120
   go_wp2
   refine wp_region_held_drew (S:=fun w'=>w'.cell? ⟨a.q,0,none⟩=some (.pointer (some ⟨g.hb,0,none⟩))∧w'.cell? ⟨w.heap.size,1,none⟩=some (.int .i64 ia)) (by kernel_rfl) ?_ (fun hHeld0=>?_)
   ·exact ⟨z0.out,z1.out⟩
   refine tk (i:=0) (d:=some 73) rfl rfl (by kernel_rfl) (fun _ _ _ h=>h) (by rfl) (by intro _ h;(try dsimp only at h);go_split_ands;go_simp<;>with_reducible rfl) hHeld0 ?_
   try simp only [aS,aN,aT,a0,a1]
   refine tk (i:=1) (d:=some 74) rfl rfl (by kernel_rfl) (fun _ _ _ h=>h) (by rfl) (by intro _ h;(try dsimp only at h);go_split_ands;go_simp<;>with_reducible rfl) hHeld0 ?_
   try simp only [aS,aN,aT,a0,a1]
   refine tk (i:=2) (d:=some 75) rfl rfl (by kernel_rfl) (fun _ _ _ h=>h) (by rfl) (by intro _ h;(try dsimp only at h);go_split_ands;go_simp<;>with_reducible rfl) hHeld0 ?_
   try simp only [aS,aN,aT,a0,a1]
   refine tk (i:=3) (d:=some 76) rfl rfl (by kernel_rfl) (fun _ _ _ h=>h) (by rfl) (by intro _ h;(try dsimp only at h);go_split_ands;go_simp<;>with_reducible rfl) hHeld0 ?_
   try simp only [aS,aN,aT,a0,a1]
   refine tk (i:=4) (d:=some 77) rfl rfl (by kernel_rfl) (fun _ _ _ h=>h) (by rfl) (by intro _ h;(try dsimp only at h);go_split_ands;go_simp<;>with_reducible rfl) hHeld0 ?_
   try simp only [aS,aN,aT,a0,a1]
   refine tk (i:=5) (d:=some 78) rfl rfl (by kernel_rfl) (fun _ _ _ h=>h) (by rfl) (by intro _ h;(try dsimp only at h);go_split_ands;go_simp<;>with_reducible rfl) hHeld0 ?_
   try simp only [aS,aN,aT,a0,a1]
   refine tk (i:=7) (d:=some 80) rfl rfl (by kernel_rfl) (fun _ _ _ h=>h) (by rfl) (by intro _ h;(try dsimp only at h);go_split_ands;go_simp<;>with_reducible rfl) hHeld0 ?_
   try simp only [aS,aN,aT,a0,a1]
   refine tk (i:=8) (d:=some 81) rfl rfl (by kernel_rfl) (fun _ _ _ h=>h) (by rfl) (by intro _ h;(try dsimp only at h);go_split_ands;go_simp<;>with_reducible rfl) hHeld0 ?_
   try simp only [aS,aN,aT,a0,a1]
   refine rd1 (i:=6) (by kernel_rfl) rfl fun K hK=>?_
   go_simp
   go_at_call 88
   refine (HH.out.y.useY HB.out.drew HT.out).mono ?_
   rintro e w1 ⟨rfl,H1,K1⟩
   have bxK1:=K1.at (Xp.new (Nat.le_refl _) (lt_w1 w _)) HL.out
   have K1a:=hid H1.hb
   have K1b:=hid (ins_of bxK1).1
   replace bxK1:=hid bxK1
   replace H1:=hid H1
   go_wp2_with fail
   refine hK.out _ _ (⟨K1a.out,K1b.out⟩) (fun hHeld1=>?_)
   try simp only [aS,aN,aT,a0,a1]
   refine rd1 (i:=9) (by kernel_rfl) rfl fun K hK=>?_
   go_simp
   go_at_call 139
   refine (H1.out.useY (Bl.refl _) HCS.out).mono ?_
   rintro e w2 ⟨rfl,H2,K2⟩
   exact ⟨rfl,HD.out _ (H2.x.less.rs.of rfl ⟨rfl,rfl⟩)⟩
 ·have eg:givesH h v y ⟨17,ia,ib,ic,ii,args⟩=h.fin 6:=by
   have hi:isRef v=false:=decide_eq_false hk
   have hm:h.mustB (isRef v)=false:=by unfold Hp.mustB;rw [hi];rfl
   unfold givesH
   rw [if_neg (by rw [ho];decide)]
   simp [Hp.cast,Hp.must,hm,hi]
   try (intro q;rw [hi] at hm;simp [hm] at q)
  rw [eg,if_pos (fin_stops hs 6)]
  exact (bad (Or.inr ⟨l,v,h0,hk⟩)).mono fun e w' q=>did_chg (d:=⟨h.fin 6,c,0⟩) rfl (fin_stops hs 6) q
end
def hkey (x:Hel):Int×Int:=(x.cls,x.fld)
theorem heldOf_key {cs:List Cl} {c d:Nat} {x:Hel} (h:x∈heldOf cs c d):x.cls=d∧∃k:Nat,k<(nth cl0 cs d).fields.length∧x.fld=k:=by
 unfold heldOf at h
 split at h
 ·rw [List.mem_map] at h
  obtain ⟨k,hk,rfl⟩:=h
  exact ⟨rfl,k,by simpa using hk,rfl⟩
 ·simp at h
theorem heldOf_nodup (cs:List Cl) (c d:Nat):((heldOf cs c d).map hkey).Nodup:=by
 unfold heldOf
 split
 ·rw [List.map_map]
  unfold List.Nodup
  rw [List.pairwise_map]
  refine List.Pairwise.imp ?_ (List.nodup_range (n:=(nth cl0 cs d).fields.length))
  intro a b hab e
  simp [hkey] at e
  exact hab (by omega)
 ·simp
theorem flat_nodup (cs:List Cl) (c:Nat):∀l:List Nat,l.Nodup→((l.flatMap (heldOf cs c)).map hkey).Nodup
 | [],_=>by simp
 | d::l,h=>by
  rw [List.nodup_cons] at h
  rw [List.flatMap_cons,List.map_append,List.nodup_append]
  refine ⟨heldOf_nodup cs c d,flat_nodup cs c l h.2,?_⟩
  intro a ha b hb e
  rw [List.mem_map] at ha hb
  obtain ⟨x,hx,rfl⟩:=ha
  obtain ⟨y,hy,rfl⟩:=hb
  rw [List.mem_flatMap] at hy
  obtain ⟨d',hd',hy⟩:=hy
  have h1:=(heldOf_key hx).1
  have h2:=(heldOf_key hy).1
  simp only [hkey,Prod.mk.injEq] at e
  have:d=d':=by omega
  subst this
  exact h.1 hd'
theorem newHeld_nodup (cs:List Cl) (c:Nat):((newHeld cs c).map hkey).Nodup:=flat_nodup cs c _ List.nodup_range
theorem newHeld_has {cs:List Cl} {c d k:Nat} (hd:d<cs.length) (hb:belN cs c d=true) (hk:k<(nth cl0 cs d).fields.length):((d:Int),(k:Int))∈(newHeld cs c).map hkey:=by
 rw [List.mem_map]
 refine ⟨⟨d,k,initV (nth ty0 (nth cl0 cs d).fields k)⟩,?_,rfl⟩
 unfold newHeld
 rw [List.mem_flatMap]
 refine ⟨d,by simpa using hd,?_⟩
 unfold heldOf
 rw [if_pos hb,List.mem_map]
 exact ⟨k,by simpa using hk,rfl⟩
theorem held_find {cs:List Cl} {l:List Hel} {cl:Int} {c k:Nat} (hl:l.map hkey=(newHeld cs cl.toNat).map hkey) (hb:belI cs cl (c:Int)=true) (hk:k<(nth cl0 cs c).fields.length) :
  ∃j:Nat,j<l.length∧heldAt l c k=j∧(nth hel0 l j).cls=c∧(nth hel0 l j).fld=k:=by
 unfold belI at hb
 rw [Bool.and_eq_true] at hb
 have h1:=of_decide_eq_true hb.1
 have hm:=newHeld_has (cs:=cs) (c:=cl.toNat) (d:=c) (k:=k) (by omega) (by simpa using hb.2) hk
 rw [←hl,List.mem_map] at hm
 obtain ⟨x,hx,hxk⟩:=hm
 simp only [hkey,Prod.mk.injEq] at hxk
 unfold heldAt
 cases hf:l.findIdx? (fun x=>decide (x.cls=(c:Int)∧x.fld=(k:Int))) with
 | none =>
  rw [List.findIdx?_eq_none_iff] at hf
  have:=hf x hx
  simp [hxk.1,hxk.2] at this
 | some i =>
  rw [List.findIdx?_eq_some_iff_getElem] at hf
  obtain ⟨hi,hp,-⟩:=hf
  have hp':=of_decide_eq_true hp
  refine ⟨i,hi,rfl,?_,?_⟩
  ·rw [nth_get hi];exact hp'.1
  ·rw [nth_get hi];exact hp'.2
theorem held_one {cs:List Cl} {l:List Hel} {cl:Int} (hl:l.map hkey=(newHeld cs cl.toNat).map hkey) {i j:Nat} (hi:i<l.length) (hj:j<l.length) (h:hkey (nth hel0 l i)=hkey (nth hel0 l j)):i=j:=by
 have hn:=newHeld_nodup cs cl.toNat
 rw [←hl] at hn
 rw [nth_get hi,nth_get hj] at h
 have hi':i<(l.map hkey).length:=by simpa using hi
 have hj':j<(l.map hkey).length:=by simpa using hj
 have e:(l.map hkey)[i]=(l.map hkey)[j]:=by simpa using h
 exact (List.getElem_inj hn).mp e
theorem set_keys {l:List Hel} {j:Nat} (hj:j<l.length) (v:Va):(l.set j { nth hel0 l j with v:=v }).map hkey=l.map hkey:=by
 apply List.ext_getElem
 ·simp
 ·intro i h1 h2
  simp only [List.getElem_map,List.getElem_set]
  split
  ·rename_i e
   subst e
   rw [nth_get hj]
   rfl
  ·rfl
theorem mem_nth {α:Type} {d:α} {l:List α} {x:α} (h:x∈l):∃i,i<l.length∧nth d l i=x:=by
 obtain ⟨i,hi,rfl⟩:=List.getElem_of_mem h
 exact ⟨i,hi,nth_get hi⟩
end Go.Proofs.Ytimjmdfokicbkaa
