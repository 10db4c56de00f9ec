import Derived.Test.YtgiiapenmjollaaSlbd
import Derived.Test.YtgiiapenmjollaaSlbe
import Derived.BigQuiet
namespace Go.Proofs.Ytgiiapenmjollaa
set_option linter.all false
set_option maxHeartbeats 40000000
open Go.RowKit
section
open Go.Maps (Keyed has)
theorem qsL_cons (k:Kl) (L:List Kl):qsL (k::L)=qsL L++[k.a.q]:=by simp [qsL]
theorem call_field (a b c:Value) (w:World):(Instr.field 93 (.agg #[a,b,c]) 1).run Try.prog w=.ok b w:=by
 simp [Instr.field,go_sem,Try.underlying93,run_underlying Try.underlying93,asAgg]
theorem RR.hxB {s:Nat} {Z:Nat→Prop} {wx w0 w w':World} {g:Mg} {h:Hp} {k:Kl} {L:List Kl} (H:RR s Z wx w0 g w h (k::L)) (hb:Bl w w'):HX s (fun b=>andZ (k::L) Z b∨(w.heap.size≤b∧b<w'.heap.size)) w' w0 g w' h (qsL L++[k.a.q]):=by
 obtain ⟨vc,vo,vx,R,hl,z1,z2,K⟩:=H
 rw [qsL_cons] at R
 have R':=R.kept (grown_bl hb none) (fun b e=>by cases e)
 have KZ:=hl.kz K
 refine ⟨vc,vo,vx,R',?_,Nat.le_refl _,fun b hx=>⟨?_,rfl⟩⟩
 ·rintro b ((hx|hx)|hx)
  ·obtain ⟨y,-,hk,hy⟩:=hl.blks hx
   exact hy.farK R hk
  ·exact z1 b hx
  ·exact R.farNew hx.1
 ·rcases hx with hx|hx
  ·exact Nat.lt_of_lt_of_le (KZ.blk b hx).1 hb.size
  ·exact hx.2
theorem RR.drops {s:Nat} {Z:Nat→Prop} {wx w0 w w' w1:World} {g:Mg} {h:Hp} {k:Kl} {L:List Kl} (H:RR s Z wx w0 g w h (k::L)) (hb:Bl w w') (H':HX s (fun b=>andZ (k::L) Z b∨(w.heap.size≤b∧b<w'.heap.size)) w' w0 g w1 h (qsL L)):RR s Z wx w0 g w1 h L∧(∀b,w.heap.size≤b→b<w'.heap.size→w1.heap[b]?=w'.heap[b]?)∧∀b,k.own b→w1.heap[b]?=w.heap[b]?:=by
 obtain ⟨vc,vo,vx,R,hl,z1,z2,K⟩:=H
 obtain ⟨vc',vo',vx',R',f,K'⟩:=H'
 have KZ:=hl.kz K
 have hk:∀b,andZ (k::L) Z b→w1.heap[b]?=w.heap[b]?:=fun b hx=>((K'.blk b (Or.inl hx)).2).trans (hb.block b (KZ.blk b hx).1)
 exact ⟨⟨vc',vo',vx',R',hl.2.2.same (fun b ⟨y,hy,z⟩=>hk b (Or.inl ⟨y,List.mem_cons_of_mem _ hy,z⟩)),fun b z=>f b (Or.inl (Or.inr z)),fun b z y hy=>z2 b z y (List.mem_cons_of_mem _ hy),Nat.le_trans K.size (Nat.le_trans hb.size K'.size),fun b z=>⟨(K.blk b z).1,(hk b (Or.inr z)).trans (K.blk b z).2⟩⟩,fun b h1 h2=>(K'.blk b (Or.inr ⟨h1,h2⟩)).2,fun b z=>hk b (Or.inl ⟨k,List.mem_cons_self,z⟩)⟩
theorem RX.sub {s:Nat} {X X':Nat→Prop} {wx w0 w:World} {g:Mg} {h:Hp} {qs:List Nat} {a:Mc} {c:Cal} (H:RX s X wx w0 g w h qs a c) (hx:∀b,X' b→X b):RX s X' wx w0 g w h qs a c:=by
 obtain ⟨vc,vo,vx,vs,l,H⟩:=H
 exact ⟨vc,vo,vx,vs,l,H.rh,H.ca,fun b z=>H.farr b (hx b z),fun b z=>H.farc b (hx b z),H.kept.size,fun b z=>H.kept.blk b (hx b z)⟩
theorem RR.topB {s:Nat} {Z:Nat→Prop} {wx w0 w:World} {g:Mg} {h:Hp} {k:Kl} {L:List Kl} (H:RR s Z wx w0 g w h (k::L)) {Y:Nat→Prop} (hZ:∀b,Y b→∃cs t,w.heap[b]?=some (.cells cs t (0,0))∧(t=102∨t=109)) (hfar:∀b,Y b→FarC k.a k.vs b):RX s (fun b=>andZ L Z b∨Y b) w w0 g w h (qsL (k::L)) k.a k.c:=by
 obtain ⟨vc,vo,vx,R,⟨hc,hf,hl⟩,z1,z2,K⟩:=H
 obtain ⟨n,D,F⟩:=R.fld
 have KZ:=hl.kz K
 refine ⟨vc,vo,vx,k.vs,k.l,R,hc,?_,?_,Nat.le_refl _,fun b hx=>⟨?_,rfl⟩⟩
 ·rintro b ((hx|hx)|hx)
  ·obtain ⟨y,-,hk,hy⟩:=hl.blks hx
   exact hy.farK R hk
  ·exact z1 b hx
  ·obtain ⟨cs,t,hB,ht⟩:=hZ b hx
   refine ⟨blk_ne hB R.run ?_,blk_ne hB R.hp ?_,map_ne hB F.own,own_far R.calls hB ?_,own_far R.obs hB ?_,own_far R.out hB ?_⟩<;>rcases ht with rfl|rfl<;>decide
 ·rintro b ((hx|hx)|hx)
  ·exact hf b hx
  ·exact z2 b hx k List.mem_cons_self
  ·exact hfar b hx
 ·rcases hx with hx|hx
  ·exact (KZ.blk b hx).1
  ·obtain ⟨cs,t,hB,ht⟩:=hZ b hx
   exact lt_some hB
theorem RR.topD {s:Nat} {Z:Nat→Prop} {wx w0 w w1:World} {g:Mg} {h h1:Hp} {k k2:Kl} {L:List Kl} (H:RR s Z wx w0 g w h (k::k2::L)) (H1:RR s Z wx w0 g w1 h1 (k2::L)) {cs:Array Value} (hB:w1.heap[w.heap.size]?=some (.cells cs 109 (0,0))) (hk:∀b,k.own b→w1.heap[b]?=w.heap[b]?):RX s (fun b=>andZ L Z b∨(b=w.heap.size∨k.own b)) w1 w0 g w1 h1 (qsL (k2::L)) k2.a k2.c:=by
 obtain ⟨vc,vo,vx,R,⟨hc,hf,hl⟩,z1,z2,K⟩:=H
 refine H1.topB ?_ ?_
 ·rintro b (rfl|hb)
  ·exact ⟨_,_,hB,Or.inr rfl⟩
  ·obtain ⟨-,cs,t,e,ht⟩:=hc.blks hb
   exact ⟨cs,t,(hk b hb).trans e,ht⟩
 ·have hlt:∀b,k2.own b→b<w.heap.size:=fun b hb=>hl.lt ⟨k2,List.mem_cons_self,hb⟩
  have hn:∀b,k2.own b→¬k.own b:=fun b hb hz=>by
   have:=hf b ⟨k2,List.mem_cons_self,hb⟩
   rcases hz with z|z|z
   ·exact this.q z
   ·exact this.l z
   ·exact this.s z
  rintro b (rfl|hb)
  ·exact ⟨fun e=>Nat.lt_irrefl _ (hlt _ (Or.inl e)),fun e=>Nat.lt_irrefl _ (hlt _ (Or.inr (Or.inl e))),fun e=>Nat.lt_irrefl _ (hlt _ (Or.inr (Or.inr e)))⟩
  ·exact ⟨fun e=>hn b (Or.inl e) hb,fun e=>hn b (Or.inr (Or.inl e)) hb,fun e=>hn b (Or.inr (Or.inr e)) hb⟩
theorem RX.keptB {s:Nat} {X:Nat→Prop} {wx w0 w:World} {g:Mg} {h:Hp} {qs:List Nat} {a:Mc} {c:Cal} (H:RX s X wx w0 g w h qs a c) {b:Nat} (hb:X b):w.heap[b]?=wx.heap[b]?:=by
 obtain ⟨vc,vo,vx,vs,l,H⟩:=H
 exact (H.kept.blk b hb).2
theorem RR.c3 {s:Nat} {Z:Nat→Prop} {wx w0 w:World} {g:Mg} {h:Hp} {k:Kl} {L:List Kl} (H:RR s Z wx w0 g w h (k::L)):∃gb cap,w.cell? ⟨g.r,3,none⟩=some (.slice (some ⟨gb,0,none⟩) (L.length+1) cap):=by
 obtain ⟨vc,vo,vx,R,-⟩:=H
 have hk:=R.calls
 rw [qsL_cons] at hk
 have e1:(qsL L++[k.a.q]).length=(qsL L).length+1:=by simp
 have e2:(qsL L).length=L.length:=by simp [qsL]
 rw [e1] at hk
 obtain ⟨gb,cap,e,-⟩:=own_lastC hk
 refine ⟨gb,cap,?_⟩
 rw [cell_blk R.run,←e2,←e]
 rfl
set_option maxRecDepth 100000 in
theorem return_back (s:Nat) (Z:Nat→Prop) (wx w0:World) (g:Mg) (h:Hp) (k k2:Kl) (L:List Kl) (v:Va) (w:World) (H:RR s Z wx w0 g w h (k::k2::L)) (hlen:L.length≤100) (c2:Cal) (E:Ending) (hE:E=.returned (.tuple #[])∨E=stopE 6 0 0)
  (hbk:∀X wx w,RX s X wx w0 g w h (qsL (k2::L)) k2.a k2.c→Calls Try.prog 67 #[.pointer (some ⟨k2.a.q,0,none⟩),mvV (im v)] w fun e w'=>e=E∧RX s X wx w0 g w' h (qsL (k2::L)) k2.a c2) :
  Calls Try.prog 92 #[.pointer (some ⟨g.r,0,none⟩),mvV (im v)] w fun e w'=>e=E∧(∃vs l,RR s Z wx w0 g w' h (⟨k2.a,c2,vs,l⟩::L))∧∀b,k.own b→w'.heap[b]?=w.heap[b]?:=by
 have HH:=hid H
 have HB:Hid (Bl w (w.alloc (.cells #[.int .i64 (im v).kind,.int .i64 (im v).n] 109))):=(Bl.refl w).alloc _
 have HQ:=hid (blk_new w #[.int .i64 (im v).kind,.int .i64 (im v).n] 109)
 have HK:=hid hbk
 have hcf:=fun a b c w=>call_field a b c w
 have hr:g.r<w.heap.size:=by obtain ⟨vc,vo,vx,R,-⟩:=H;exact lt_some R.run
 have hz0:((L.length:Int)+1==0)=false:=by simp;omega
 clear H hbk
 rcases hE with rfl|rfl
 ·go_enter Try.func92,Try.ntmps92
  go_wp2_with (go_at_call 115;refine (drop_any s _ _ w0 g h (qsL (k2::L)) k.a.q _ (HH.out.hxB HB.out)).mono ?_;rintro e w1 ⟨rfl,H1⟩;have HD:=hid (HH.out.drops HB.out H1);clear H1;have hq1:=hid ((HD.out.2.1 w.heap.size (Nat.le_refl _) (lt_w1 w _)).trans HQ.out);have n0:=hid (c0_of hq1.out);have n1:=hid (c1_of hq1.out);have HR:=hid HD.out.1;have HRX:=hid HR.out.hx;have HKO:=hid HD.out.2.2;have HTB:=hid (HH.out.topD HR.out hq1.out HKO.out);clear HD;obtain ⟨gb,cap,hrc⟩:=HR.out.c3)
  refine wp_region_held_drew (S:=fun w'=>w'.cell? ⟨w.heap.size,0,none⟩=some (.int .i64 (im v).kind)∧w'.cell? ⟨w.heap.size,1,none⟩=some (.int .i64 (im v).n)) (by kernel_rfl) ?_ (fun hHeld0=>?_)
  ·exact ⟨n0.out,n1.out⟩
  refine tk (i:=0) (d:=some 15) rfl rfl (by kernel_rfl) (fun _ _ _ h=>h) (by rfl) (by intro _ h;(try dsimp only at h);go_split_ands;go_simp<;>with_reducible rfl) hHeld0 ?_
  try simp only [aS,aN,aT,a0,a1]
  refine tk (i:=3) (d:=some 18) rfl rfl (by kernel_rfl) (fun _ _ _ h=>h) (by rfl) (by intro _ h;(try dsimp only at h);go_split_ands;go_simp<;>with_reducible rfl) hHeld0 ?_
  try simp only [aS,aN,aT,a0,a1]
  refine rd1 (i:=1) (by kernel_rfl) rfl fun K hK=>?_
  go_simp
  go_at_call 116
  refine (top_any s (andZ (k2::L) Z) w1 w0 g h (qsL L) k2.a.q _ (by rw [←qsL_cons];exact HRX.out.bl (Bl.refl _).drew)).mono ?_
  rintro e w2 ⟨rfl,b2⟩
  have d0:=hid (b2.cell (w':=w2) n0.out)
  have d1:=hid (b2.cell (w':=w2) n1.out)
  replace b2:=hid b2
  unfold funs
  go_wp2_with fail
  refine hK.out _ _ (⟨d0.out,d1.out⟩) (fun hHeld1=>?_)
  try simp only [aS,aN,aT,a0,a1]
  refine tk (i:=2) (d:=some 17) rfl rfl (by kernel_rfl) (fun _ _ _ h=>h) (by rfl) (by intro _ h;(try dsimp only at h);go_split_ands;go_simp<;>with_reducible rfl) hHeld1 ?_
  try simp only [aS,aN,aT,a0,a1]
  refine rd1 (i:=4) (by kernel_rfl) rfl fun K hK=>?_
  go_simp
  go_at_call 67
  refine (HTB.out.y.useY ((Bl.refl w1).drew.trans b2.out) HK.out).mono ?_
  rintro e w3 ⟨rfl,H3,K3⟩
  have HR3:=hid (HR.out.of (H3.x.sub (fun b z=>Or.inl z)))
  have hq3:=(H3.x.keptB (Or.inr (Or.inl rfl))).trans hq1.out
  have HK3:=hid (fun b (z:k.own b)=>(H3.x.keptB (Or.inr (Or.inr z))).trans (HKO.out b z))
  have j0:=hid (c0_of hq3)
  have j1:=hid (c1_of hq3)
  clear H3 K3 hq3
  go_wp2_with fail
  refine hK.out _ _ (⟨j0.out,j1.out⟩) (fun hHeld2=>?_)
  try simp only [aS,aN,aT,a0,a1]
  refine wpAnyH_done (by kernel_rfl) ?_ _
  go_wp2
  go_end0
  exact ⟨rfl,HR3.out,HK3.out⟩
 ·go_enter Try.func92,Try.ntmps92
  go_wp2_with (go_at_call 115;refine (drop_any s _ _ w0 g h (qsL (k2::L)) k.a.q _ (HH.out.hxB HB.out)).mono ?_;rintro e w1 ⟨rfl,H1⟩;have HD:=hid (HH.out.drops HB.out H1);clear H1;have hq1:=hid ((HD.out.2.1 w.heap.size (Nat.le_refl _) (lt_w1 w _)).trans HQ.out);have n0:=hid (c0_of hq1.out);have n1:=hid (c1_of hq1.out);have HR:=hid HD.out.1;have HRX:=hid HR.out.hx;have HKO:=hid HD.out.2.2;have HTB:=hid (HH.out.topD HR.out hq1.out HKO.out);clear HD;obtain ⟨gb,cap,hrc⟩:=HR.out.c3)
  refine wp_region_held_drew (S:=fun w'=>w'.cell? ⟨w.heap.size,0,none⟩=some (.int .i64 (im v).kind)∧w'.cell? ⟨w.heap.size,1,none⟩=some (.int .i64 (im v).n)) (by kernel_rfl) ?_ (fun hHeld0=>?_)
  ·exact ⟨n0.out,n1.out⟩
  refine tk (i:=0) (d:=some 15) rfl rfl (by kernel_rfl) (fun _ _ _ h=>h) (by rfl) (by intro _ h;(try dsimp only at h);go_split_ands;go_simp<;>with_reducible rfl) hHeld0 ?_
  try simp only [aS,aN,aT,a0,a1]
  refine tk (i:=3) (d:=some 18) rfl rfl (by kernel_rfl) (fun _ _ _ h=>h) (by rfl) (by intro _ h;(try dsimp only at h);go_split_ands;go_simp<;>with_reducible rfl) hHeld0 ?_
  try simp only [aS,aN,aT,a0,a1]
  refine rd1 (i:=1) (by kernel_rfl) rfl fun K hK=>?_
  go_simp
  go_at_call 116
  refine (top_any s (andZ (k2::L) Z) w1 w0 g h (qsL L) k2.a.q _ (by rw [←qsL_cons];exact HRX.out.bl (Bl.refl _).drew)).mono ?_
  rintro e w2 ⟨rfl,b2⟩
  have d0:=hid (b2.cell (w':=w2) n0.out)
  have d1:=hid (b2.cell (w':=w2) n1.out)
  replace b2:=hid b2
  unfold funs
  go_wp2_with fail
  refine hK.out _ _ (⟨d0.out,d1.out⟩) (fun hHeld1=>?_)
  try simp only [aS,aN,aT,a0,a1]
  refine tk (i:=2) (d:=some 17) rfl rfl (by kernel_rfl) (fun _ _ _ h=>h) (by rfl) (by intro _ h;(try dsimp only at h);go_split_ands;go_simp<;>with_reducible rfl) hHeld1 ?_
  try simp only [aS,aN,aT,a0,a1]
  refine rd1 (i:=4) (by kernel_rfl) rfl fun K hK=>?_
  go_simp
  go_at_call 67
  refine (HTB.out.y.useY ((Bl.refl w1).drew.trans b2.out) HK.out).mono ?_
  rintro e w3 ⟨rfl,H3,K3⟩
  exact ⟨rfl,rfl,HR.out.of (H3.x.sub (fun b z=>Or.inl z)),fun b (z:k.own b)=>(H3.x.keptB (Or.inr (Or.inr z))).trans (HKO.out b z)⟩
end
theorem own_noneC {w:World} {base:Nat} {e:TypeId} {vs:Value} {xs:List Value} (h:w.ownsRow base e 3 vs 0 xs):∃A cap,vs=.slice A 0 cap:=by
 rcases h.2 with ⟨rfl,h0⟩|⟨gb,cap,cur,rfl,hg,hh,hn,hcap,hsz,htake⟩
 ·exact ⟨_,_,rfl⟩
 ·exact ⟨_,_,rfl⟩
theorem RR.c3n {s:Nat} {Z:Nat→Prop} {wx w0 w:World} {g:Mg} {h:Hp} (H:RR s Z wx w0 g w h []):∃A cap,w.cell? ⟨g.r,3,none⟩=some (.slice A 0 cap):=by
 obtain ⟨vc,vo,vx,R,-⟩:=H
 obtain ⟨A,cap,e⟩:=own_noneC R.calls
 refine ⟨A,cap,?_⟩
 rw [cell_blk R.run,←e]
 rfl
set_option maxRecDepth 100000 in
theorem return_done (s:Nat) (Z:Nat→Prop) (wx w0:World) (g:Mg) (h:Hp) (k:Kl) (v:Va) (w:World) (H:RR s Z wx w0 g w h [k]) :
  Calls Try.prog 92 #[.pointer (some ⟨g.r,0,none⟩),mvV (im v)] w fun e w'=>e=stopE 1 (im v).kind (im v).n∧RR s Z wx w0 g w' h []:=by
 have HH:=hid H
 have HB:Hid (Bl w (w.alloc (.cells #[.int .i64 (im v).kind,.int .i64 (im v).n] 109))):=(Bl.refl w).alloc _
 have HQ:=hid (blk_new w #[.int .i64 (im v).kind,.int .i64 (im v).n] 109)
 have hr:g.r<w.heap.size:=by obtain ⟨vc,vo,vx,R,-⟩:=H;exact lt_some R.run
 clear H
 go_enter Try.func92,Try.ntmps92
 go_wp2_with (go_at_call 115;refine (drop_any s _ _ w0 g h (qsL []) k.a.q _ (HH.out.hxB HB.out)).mono ?_;rintro e w1 ⟨rfl,H1⟩;have HD:=hid (HH.out.drops HB.out H1);clear H1;have hq1:=(HD.out.2.1 w.heap.size (Nat.le_refl _) (lt_w1 w _)).trans HQ.out;have n0:=c0_of hq1;have n1:=c1_of hq1;have HR:=hid HD.out.1;clear HD hq1;obtain ⟨A,cap,hrc⟩:=HR.out.c3n)
 exact ⟨rfl,rfl,HR.out⟩
theorem RR.bl {s:Nat} {Z:Nat→Prop} {wx w0 w w':World} {g:Mg} {h:Hp} {L:List Kl} (H:RR s Z wx w0 g w h L) (hb:Bl w w'):RR s Z wx w0 g w' h L:=H.ofx (H.hx.bl hb)
theorem stepB_eq {h:Hp} (hb:h.stepB=true):h.step={ h with sh:={ h.sh with steps:=h.sh.steps+1 } }:=by
 unfold Hp.stepB at hb
 simp at hb
 unfold Hp.step
 rw [if_neg (by rw [hb.1];decide),if_neg (by omega)]
theorem HX.sets {s:Nat} {X:Nat→Prop} {wx w0 w:World} {g:Mg} {h:Hp} {qs:List Nat} (H:HX s X wx w0 g w h qs) (hb:h.stepB=true):HX (s+1) X wx w0 g (w.setCell ⟨g.r,6,none⟩ (.int .i64 (h.sh.steps+1))) h.step qs:=by
 obtain ⟨vc,vo,vx,R,hf,hK⟩:=H
 have hg:=grown_set (w:=w) g.r 6 (.int .i64 (h.sh.steps+1))
 obtain ⟨n,D,F⟩:=R.fld
 have hrm:g.r≠g.mp:=map_ne R.run F.own
 rw [stepB_eq hb]
 refine ⟨vc,vo,vx,⟨R.ownr,R.ownh,R.ownm,Below.grown R.bl hg R.bl.size (fun k hk=>by cases hk;exact R.ownr),?_,?_,?_,?_,?_,n,D,?_,?_,F.hit,F.miss,F.new,F.ks,F.kd⟩,hf,hK.kept hg (fun b e hx=>?_)⟩
 ·rw [block_set R.run];rfl
 ·exact grown_blk hg R.hp (fun e=>blk_ne R.run R.hp (by decide) (Option.some.inj e))
 ·exact R.out.kept hg (Or.inr (own_far R.out R.run (by decide)))
 ·exact R.obs.kept hg (Or.inr (own_far R.obs R.run (by decide)))
 ·exact R.calls.kept hg (Or.inr (own_far R.calls R.run (by decide)))
 ·exact F.own.kept hg (fun e=>hrm (Option.some.inj e.symm))
 ·have:=F.few
  show (n:Int)+((s+1:Nat):Int)≤h.sh.steps+1
  omega
 ·cases e;exact (hf g.r hx).r rfl
theorem HX.c56 {s:Nat} {X:Nat→Prop} {wx w0 w:World} {g:Mg} {h:Hp} {qs:List Nat} (H:HX s X wx w0 g w h qs):w.cell? ⟨g.r,5,none⟩=some (.int .i64 h.fuel)∧w.cell? ⟨g.r,6,none⟩=some (.int .i64 h.sh.steps)∧(∀i,w.frozen? ⟨g.r,i,none⟩=false):=by
 obtain ⟨vc,vo,vx,R,-,-⟩:=H
 exact ⟨R.runCells.2.2.2.2.2.1,R.runCells.2.2.2.2.2.2.1,free_blk R.run⟩
theorem call_field0 (a b c:Value) (w:World):(Instr.field 93 (.agg #[a,b,c]) 0).run Try.prog w=.ok a w:=by
 simp [Instr.field,go_sem,Try.underlying93,run_underlying Try.underlying93,asAgg]
set_option maxRecDepth 100000 in
theorem step_fuel (s:Nat) (Z:Nat→Prop) (wx w0:World) (g:Mg) (h:Hp) (L:List Kl) (w:World) (H:RR s Z wx w0 g w h L) (hb:h.fuel≤h.sh.steps) :
  Calls Try.prog 103 #[.pointer (some ⟨g.r,0,none⟩)] w fun e w'=>e=stopE 0 0 0∧RR s Z wx w0 g w' h L:=by
 have HH:=hid H
 obtain ⟨c5,c6,fz⟩:=H.hx.c56
 clear H
 go_enter Try.func103,Try.ntmps103
 go_wp2
 go_quiet (fail)
 go_wp2_with (go_at_call 98;refine (mend_any 0 _).mono ?_;rintro e w1 ⟨rfl,hw⟩;rw [hw];clear hw w1)
 exact ⟨rfl,rfl,HH.out.bl (bl_drewN (Bl.refl w) _)⟩
set_option maxRecDepth 100000 in
theorem step_go (s:Nat) (Z:Nat→Prop) (wx w0:World) (g:Mg) (h:Hp) (k:Kl) (L:List Kl) (w:World) (H:RR s Z wx w0 g w h (k::L)) (hb:h.stepB=true) (hlim:0≤h.sh.steps∧h.sh.steps<1000000) (E:Ending) (Q':World→Prop) (hE:E=.returned (.tuple #[])∨∃ch,E=.panicked ch)
  (hdo:∀w,RR (s+1) Z wx w0 g w h.step (k::L)→Calls Try.prog 66 #[.pointer (some ⟨k.a.q,0,none⟩)] w fun e w'=>e=E∧Q' w') :
  Calls Try.prog 103 #[.pointer (some ⟨g.r,0,none⟩)] w fun e w'=>e=E∧Q' w':=by
 have HH:=hid H
 have HB:=hid hb
 have HDO:=hid hdo
 obtain ⟨c5,c6,fz⟩:=H.hx.c56
 have hst:¬h.fuel≤h.sh.steps:=by unfold Hp.stepB at hb;simp at hb;omega
 have hcf:=fun a b c w=>call_field0 a b c w
 clear H hb hdo
 have HS:Hid (∀n,RR (s+1) Z wx w0 g ((w.drewN n).setCell ⟨g.r,6,none⟩ (.int .i64 (h.sh.steps+1))) h.step (k::L)):=fun n=>by
  have H1:=HH.out.bl (bl_drewN (Bl.refl w) n)
  obtain ⟨vc,vo,vx,R,hl,z1,z2,K⟩:=H1
  exact RR.ofx ⟨vc,vo,vx,R,hl,z1,z2,K⟩ (HX.sets (RR.hx ⟨vc,vo,vx,R,hl,z1,z2,K⟩) HB.out)
 rcases hE with rfl|⟨ch,rfl⟩
 ·go_enter Try.func103,Try.ntmps103
  go_wp2
  go_quiet (fail)
  go_wp2_with (first
   | (go_at_call 116;refine (top_any (s+1) (andZ (k::L) Z) _ w0 g h.step (qsL L) k.a.q _ (by rw [←qsL_cons];exact (HS.out _).hx)).mono ?_;rintro e w1 ⟨rfl,b1⟩;have HR1:=hid ((HS.out _).bl b1);unfold funs;clear b1)
   | (go_at_call 66;refine (HDO.out _ HR1.out).mono ?_;rintro e w2 ⟨rfl,hq⟩;replace hq:=hid hq))
  go_end0
  exact ⟨rfl,hq.out⟩
 ·go_enter Try.func103,Try.ntmps103
  go_wp2
  go_quiet (fail)
  go_wp2_with (first
   | (go_at_call 116;refine (top_any (s+1) (andZ (k::L) Z) _ w0 g h.step (qsL L) k.a.q _ (by rw [←qsL_cons];exact (HS.out _).hx)).mono ?_;rintro e w1 ⟨rfl,b1⟩;have HR1:=hid ((HS.out _).bl b1);unfold funs;clear b1)
   | (go_at_call 66;refine (HDO.out _ HR1.out).mono ?_;rintro e w2 ⟨rfl,hq⟩;replace hq:=hid hq))
  exact ⟨rfl,rfl,hq.out⟩
theorem qsL_length (L:List Kl):(qsL L).length=L.length:=by simp [qsL]
theorem RR.push {s:Nat} {Z:Nat→Prop} {wx w0 w w':World} {g:Mg} {h:Hp} {L:List Kl} (H:RR s Z wx w0 g w h L) {m:Me} {N:Nat} {vs:List Va} {q lb:Nat} {P C J:Option Addr} {p c k:Nat}
  (D:Laid s (andZ L Z) w w0 g h (qsL L) m N (vs.map im) w q lb P C J p c k w') (hN:m.locs=(N:Int)) (hN2:N≤1000) (hfit:sizP vs≤N) (hk:∀v∈vs,1≤v.kind∧v.kind≤3) :
  RR s Z wx w0 g w' h (⟨⟨q,lb,N,P,p,C,c,J,k⟩,newCal m vs,.slice none 0 0,argsN (List.replicate N va0) 0 (vs.map im)⟩::L):=by
 obtain ⟨vc,vo,vx,R,hl,z1,z2,K⟩:=H
 obtain ⟨vc',vo',vx',R',f,K'⟩:=D.hx
 have hw0:=R.bl.size
 have e0:m.locs.toNat=N:=by omega
 have hlen:(argsP (List.replicate m.locs.toNat va0) 0 vs).length=N:=by rw [args_length,e0];simp
 have hno:∀b,b<w.heap.size→FarC ⟨q,lb,N,P,p,C,c,J,k⟩ (.slice none 0 0) b:=fun b hb=>by
  have:=D.ownq;have:=D.ownl
  exact ⟨by show b≠q;omega,by show b≠lb;omega,fun e=>by simp [Value.ownBlock] at e⟩
 have hq2:qsL (⟨⟨q,lb,N,P,p,C,c,J,k⟩,newCal m vs,.slice none 0 0,argsN (List.replicate N va0) 0 (vs.map im)⟩::L)=qsL L++[q]:=by simp [qsL]
 refine ⟨vc',vo',vx',by rw [hq2];exact R',⟨⟨?_,?_,?_,D.loc.blk,?_,?_,fun e=>by simp [Value.ownBlock] at e,D.me,?_,fun v hv=>by cases hv⟩,fun b hb=>hno b (hl.lt hb),hl.same (fun b hb=>(K'.blk b (Or.inl hb)).2)⟩,fun b hb=>f b (Or.inr hb),fun b hb y hy=>?_,K.then K' (fun b hb=>Or.inr hb)⟩
 ·have:=D.ownq;show w0.heap.size≤q;omega
 ·have:=D.ownl;show w0.heap.size≤lb;omega
 ·have:=D.blk
  unfold newRow at this
  unfold callRow
  show w'.heap[q]?=some (.cells #[.pointer (some ⟨g.hb,0,none⟩),.pointer (some ⟨g.r,0,none⟩),.slice P m.params.length p,.int .i64 m.ret.kind,.int .i64 m.ret.cls,.int .i64 m.stack,.int .i64 m.locs,.int .i64 m.regs,.slice C m.code.length c,.slice J m.hands.length k,.int .i64 0,.slice (some ⟨lb,0,none⟩) (argsP (List.replicate m.locs.toNat va0) 0 vs).length N,.slice none 0 0] 102 (0,0))
  rw [hlen]
  exact this
 ·show LRel (argsP (List.replicate m.locs.toNat va0) 0 vs) _
  rw [e0]
  exact args_rel vs _ _ 0 (LRel.new N) hk (by simp;exact hfit)
 ·exact ⟨rfl,Or.inl ⟨rfl,rfl⟩⟩
 ·show (argsP (List.replicate m.locs.toNat va0) 0 vs).length≤1000
  rw [hlen];exact hN2
 ·rcases List.mem_cons.1 hy with rfl|hy
  ·exact hno b (Nat.lt_of_lt_of_le (K.blk b hb).1 K.size)
  ·exact z2 b hb y hy
theorem KsAt.mem {w0 w:World} {g:Mg}:∀{L:List Kl},KsAt w0 g w L→∀{y:Kl},y∈L→CA w0 g w y.a y.c y.l y.vs
 | [],_,_,hy=>by cases hy
 | k::L,H,y,hy=>by
  rcases List.mem_cons.1 hy with rfl|hy
  ·exact H.1
  ·exact KsAt.mem H.2.2 hy
theorem RR.wide {s:Nat} {Z:Nat→Prop} {wx w0 w w':World} {g:Mg} {h:Hp} {L:List Kl} (H:RR s Z wx w0 g w h L) (hb:Bl w w'):RR s (Xp Z w.heap.size w'.heap.size) w' w0 g w' h L:=by
 obtain ⟨vc,vo,vx,R,hl,z1,z2,K⟩:=H
 have hsz:=hb.size
 refine ⟨vc,vo,vx,R.kept (grown_bl hb none) (fun b e=>by cases e),hl.same (fun b ho=>hb.block b (hl.lt ho)),fun b hx=>?_,fun b hx y hy=>?_,Nat.le_refl _,fun b hx=>⟨?_,rfl⟩⟩
 ·rcases hx with hx|hx
  ·exact z1 b hx
  ·exact R.farNew hx.1
 ·rcases hx with hx|hx
  ·exact z2 b hx y hy
  ·exact (hl.mem hy).farNew hx.1
 ·rcases hx with hx|hx
  ·have:=(K.blk b hx).1;have:=K.size;omega
  ·exact hx.2
theorem RR.back {s s':Nat} {Z:Nat→Prop} {wx w0 w w' w2:World} {g:Mg} {h h':Hp} {L L':List Kl} (H:RR s Z wx w0 g w h L) (hb:Bl w w') (H2:RR s' (Xp Z w.heap.size w'.heap.size) w' w0 g w2 h' L'):RR s' Z wx w0 g w2 h' L':=by
 obtain ⟨vc,vo,vx,R,hl,z1,z2,K⟩:=H
 obtain ⟨vc',vo',vx',R',hl',z1',z2',K'⟩:=H2
 refine ⟨vc',vo',vx',R',hl',fun b hx=>z1' b (Or.inl hx),fun b hx=>z2' b (Or.inl hx),Nat.le_trans K.size (Nat.le_trans hb.size K'.size),fun b hx=>⟨(K.blk b hx).1,?_⟩⟩
 have h1:=(K.blk b hx).1
 have h2:=K.size
 rw [(K'.blk b (Or.inl hx)).2,hb.block b (by omega)]
 exact (K.blk b hx).2
theorem RR.own {s:Nat} {Z:Nat→Prop} {wx w0 w w':World} {g:Mg} {h:Hp} {L:List Kl} {n:Nat} (H:RR s (Xp Z n wx.heap.size) wx w0 g w h L) {b:Nat} (hb:n≤b) {o:Obj} (ho:wx.heap[b]?=some o):w.heap[b]?=some o:=by
 obtain ⟨vc,vo,vx,R,hl,z1,z2,K⟩:=H
 rw [(K.blk b (Or.inr ⟨hb,lt_some ho⟩)).2];exact ho
theorem call_rr (s:Nat) (Z:Nat→Prop) (wx w0:World) (g:Mg) (h:Hp) (L:List Kl) (w:World) (H:RR s Z wx w0 g w h L) (i:Nat) (m:Me) (N b cap:Nat) (vs:List Va) (hq:L.length<20) (hi:i<h.file.methods.length) (hm:nth me0 h.file.methods i=m) (hM:MesAt w0 g.M h.file.methods)
  (hN:m.locs=(N:Int)) (hN2:N≤1000) (B:LBox w b (vs.map im)) (hfit:sizP vs≤N) (hk:∀v∈vs,1≤v.kind∧v.kind≤3) :
  Calls Try.prog 71 #[.pointer (some ⟨g.r,0,none⟩),.int .i64 (i:Int),.slice (some ⟨b,0,none⟩) vs.length cap] w fun e w'=>e=.returned (.tuple #[])∧∃k2:Kl,k2.c=newCal m vs∧RR s Z wx w0 g w' h (k2::L):=by
 have hc:=runCall_yes s (andZ L Z) w w0 g h (qsL L) i m N b cap (vs.map im) w H.hx (by rw [qsL_length];exact hq) hi hm hM hN B hN2 (by rw [siz_im];exact hfit) (fun v hv=>by
  obtain ⟨u,hu,rfl⟩:=List.mem_map.1 hv
  exact hk u hu)
 rw [List.length_map] at hc
 refine hc.mono ?_
 rintro e w' ⟨rfl,q,lb,P,C,J,p,c,k,D⟩
 exact ⟨rfl,_,rfl,H.push D hN hN2 hfit hk⟩
set_option maxRecDepth 100000 in
theorem call_deep (s:Nat) (Z:Nat→Prop) (wx w0:World) (g:Mg) (h:Hp) (k:Kl) (L:List Kl) (w:World) (H:RR s Z wx w0 g w h (k::L)) (i:Int) (v:Value) (hq:20≤(k::L).length) (hq2:(k::L).length≤1000) :
  Calls Try.prog 71 #[.pointer (some ⟨g.r,0,none⟩),.int .i64 i,v] w fun e w'=>e=stopE 5 0 0∧RR s Z wx w0 g w' h (k::L):=by
 have HH:=hid H
 obtain ⟨gb,cap,c3⟩:=H.c3
 simp only [List.length_cons] at hq hq2
 obtain ⟨n,hn⟩:∃n,L.length+1=n:=⟨_,rfl⟩
 have c3':w.cell? ⟨g.r,3,none⟩=some (.slice (some ⟨gb,0,none⟩) n cap):=by rw [←hn];exact c3
 have n0:(20:Int)≤(n:Int):=by omega
 have n1:(n:Int)≤1000:=by omega
 clear H c3 hn hq hq2
 go_enter Try.func71,Try.ntmps71
 go_wp2_with (go_at_call 98;refine (mend_any 5 _).mono ?_;rintro e w1 ⟨rfl,hw⟩;rw [hw];clear hw w1)
 exact ⟨rfl,rfl,HH.out⟩
theorem types_rr (Z:Nat→Prop) (wx w0:World) (g:Mg) (h:Hp) (k:Kl) (L:List Kl) (w:World) (H:RR 1 Z wx w0 g w h (k::L)) (F:Fix w0 g h) (hf:h.objs.length≤100) (A:Option Addr) (cap:Nat) (ts:List Ty) (hT:TysAt w0 A ts) (h4:ts.length≤4)
  (hg:∀v∈k.c.stk,v.kind=3→-1≤v.n∧v.n<h.objs.length) (l vs:List Va) (hs:k.c.stk=l++vs) (hl:vs.length=ts.length) (ho:ofAll h vs ts) :
  Calls Try.prog 91 #[.pointer (some ⟨k.a.q,0,none⟩),.slice A ts.length cap] w fun e w'=>∃b,e=.returned (.slice (some ⟨b,0,none⟩) ts.length ts.length)∧LBox w' b (vs.map im)∧∃vs' l',RR 1 Z wx w0 g w' h (⟨k.a,{ k.c with stk:=l },vs',l'⟩::L):=by
 refine (takeTypes_any 1 (andZ L Z) w w0 g h (qsL (k::L)) k.a k.c A cap ts w H.top F hf hT h4 hg).mono ?_
 rintro e w' (⟨l2,vs2,e1,e2,e3,e4,e5,e6⟩|⟨e1,-⟩)
 ·obtain ⟨rfl,rfl⟩:=split_len (hs.symm.trans e1) (hl.trans e2.symm)
  exact ⟨_,e4,e6,H.of e5.x⟩
 ·exact (e1 l vs hs hl ho).elim
theorem types_no_rr (Z:Nat→Prop) (wx w0:World) (g:Mg) (h:Hp) (k:Kl) (L:List Kl) (w:World) (H:RR 1 Z wx w0 g w h (k::L)) (F:Fix w0 g h) (hf:h.objs.length≤100) (A:Option Addr) (cap:Nat) (ts:List Ty) (hT:TysAt w0 A ts) (h4:ts.length≤4)
  (hg:∀v∈k.c.stk,v.kind=3→-1≤v.n∧v.n<h.objs.length) (hn:∀l vs,k.c.stk=l++vs→vs.length=ts.length→ofAll h vs ts→False) :
  Calls Try.prog 91 #[.pointer (some ⟨k.a.q,0,none⟩),.slice A ts.length cap] w fun e w'=>e=stopE 6 0 0∧∃k':Kl,k'.a=k.a∧k'.c.m=k.c.m∧k'.c.pc=k.c.pc∧RR 1 Z wx w0 g w' h (k'::L):=by
 refine (takeTypes_any 1 (andZ L Z) w w0 g h (qsL (k::L)) k.a k.c A cap ts w H.top F hf hT h4 hg).mono ?_
 rintro e w' (⟨l2,vs2,e1,e2,e3,e4,e5,e6⟩|⟨e1,e2,c',d1,d2,e3⟩)
 ·exact (hn l2 vs2 e1 e2 e3).elim
 ·obtain ⟨vs',l',H'⟩:=H.of e3
  exact ⟨e2,⟨k.a,c',vs',l'⟩,rfl,d1,d2.1,H'⟩
end Go.Proofs.Ytgiiapenmjollaa
