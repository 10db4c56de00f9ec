import Derived.Test.YtgiiapenmjollabGreatRlbd
import Derived.BigQuiet
namespace Go.Proofs.YtgiiapenmjollabGreat
set_option linter.all false
set_option maxHeartbeats 40000000
set_option maxRecDepth 100000
open Go.RowKit
section
open Go.Maps (Keyed has)
theorem qsL_cons (k:Kl) (L:List Kl):qsL (k::L)=qsL L++[k.a.qb]:=by simp [qsL]
theorem call_field (a b c:Value) (w:World):(Instr.field 107 (.agg #[a,b,c]) 1).run Tryz.prog w=.ok b w:=by
 simp [Instr.field,go_sem,Tryz.underlying107,run_underlying Tryz.underlying107,asAgg]
theorem RR.hxB {s:Nat} {Z:Nat→Prop} {wx w0 w w':World} {g:Mg} {h:Hp} {k:Kl} {L:List Kl} (H:RR s Z wx w0 g w h (k::L)) (hb:Bl w w'):HX s (fun b=>andZ (k::L) Z b∨(w.heap.size≤b∧b<w'.heap.size)) w' w0 g w' h (qsL L++[k.a.qb]):=by
 obtain ⟨vc,vo,vx,R,hl,z1,z2,K⟩:=H
 rw [qsL_cons] at R
 have R':=R.kept (grown_bl hb none) (fun b e=>by cases e)
 have KZ:=hl.kz K
 refine ⟨vc,vo,vx,R',?_,Nat.le_refl _,fun b hx=>⟨?_,rfl⟩⟩
 ·rintro b ((hx|hx)|hx)
  ·obtain ⟨y,-,hk,hy⟩:=hl.blks hx
   exact hy.farK R hk
  ·exact z1 b hx
  ·exact R.farNew hx.1
 ·rcases hx with hx|hx
  ·exact Nat.lt_of_lt_of_le (KZ.blk b hx).1 hb.size
  ·exact hx.2
theorem RR.drops {s:Nat} {Z:Nat→Prop} {wx w0 w w' w1:World} {g:Mg} {h:Hp} {k:Kl} {L:List Kl} (H:RR s Z wx w0 g w h (k::L)) (hb:Bl w w') (H':HX s (fun b=>andZ (k::L) Z b∨(w.heap.size≤b∧b<w'.heap.size)) w' w0 g w1 h (qsL L)):RR s Z wx w0 g w1 h L∧(∀b,w.heap.size≤b→b<w'.heap.size→w1.heap[b]?=w'.heap[b]?)∧∀b,k.own b→w1.heap[b]?=w.heap[b]?:=by
 obtain ⟨vc,vo,vx,R,hl,z1,z2,K⟩:=H
 obtain ⟨vc',vo',vx',R',f,K'⟩:=H'
 have KZ:=hl.kz K
 have hk:∀b,andZ (k::L) Z b→w1.heap[b]?=w.heap[b]?:=fun b hx=>((K'.blk b (Or.inl hx)).2).trans (hb.block b (KZ.blk b hx).1)
 exact ⟨⟨vc',vo',vx',R',hl.2.2.same (fun b ⟨y,hy,z⟩=>hk b (Or.inl ⟨y,List.mem_cons_of_mem _ hy,z⟩)),fun b z=>f b (Or.inl (Or.inr z)),fun b z y hy=>z2 b z y (List.mem_cons_of_mem _ hy),Nat.le_trans K.size (Nat.le_trans hb.size K'.size),fun b z=>⟨(K.blk b z).1,(hk b (Or.inr z)).trans (K.blk b z).2⟩⟩,fun b h1 h2=>(K'.blk b (Or.inr ⟨h1,h2⟩)).2,fun b z=>hk b (Or.inl ⟨k,List.mem_cons_self,z⟩)⟩
theorem RX.sub {s:Nat} {X X':Nat→Prop} {wx w0 w:World} {g:Mg} {h:Hp} {qs:List Qb} {a:Mc} {c:Cal} (H:RX s X wx w0 g w h qs a c) (hx:∀b,X' b→X b):RX s X' wx w0 g w h qs a c:=by
 obtain ⟨vc,vo,vx,vs,l,H⟩:=H
 exact ⟨vc,vo,vx,vs,l,H.rh,H.ca,fun b z=>H.farr b (hx b z),fun b z=>H.farc b (hx b z),H.kept.size,fun b z=>H.kept.blk b (hx b z)⟩
theorem RR.topB {s:Nat} {Z:Nat→Prop} {wx w0 w:World} {g:Mg} {h:Hp} {k:Kl} {L:List Kl} (H:RR s Z wx w0 g w h (k::L)) {Y:Nat→Prop} (hZ:∀b,Y b→∃cs t,w.heap[b]?=some (.cells cs t (0,0))∧(t=119∨t=115∨t=108)) (hfar:∀b,Y b→FarC k.a k.vs b):RX s (fun b=>andZ L Z b∨Y b) w w0 g w h (qsL (k::L)) k.a k.c:=by
 obtain ⟨vc,vo,vx,R,⟨hc,hf,hl⟩,z1,z2,K⟩:=H
 obtain ⟨n,D,F⟩:=R.fld
 have KZ:=hl.kz K
 refine ⟨vc,vo,vx,k.vs,k.l,R,hc,?_,?_,Nat.le_refl _,fun b hx=>⟨?_,rfl⟩⟩
 ·rintro b ((hx|hx)|hx)
  ·obtain ⟨y,-,hk,hy⟩:=hl.blks hx
   exact hy.farK R hk
  ·exact z1 b hx
  ·obtain ⟨cs,t,hB,ht⟩:=hZ b hx
   refine ⟨blk_ne hB R.run ?_,blk_ne hB R.hp ?_,map_ne hB F.own,own_far R.calls hB ?_,own_far R.obs hB ?_,own_far R.out hB ?_⟩<;>rcases ht with rfl|rfl|rfl<;>decide
 ·rintro b ((hx|hx)|hx)
  ·exact hf b hx
  ·exact z2 b hx k List.mem_cons_self
  ·exact hfar b hx
 ·rcases hx with hx|hx
  ·exact (KZ.blk b hx).1
  ·obtain ⟨cs,t,hB,ht⟩:=hZ b hx
   exact lt_some hB
theorem RR.topD {s:Nat} {Z:Nat→Prop} {wx w0 w w1:World} {g:Mg} {h h1:Hp} {k k2:Kl} {L:List Kl} (H:RR s Z wx w0 g w h (k::k2::L)) (H1:RR s Z wx w0 g w1 h1 (k2::L)) {cs:Array Value} (hB:w1.heap[w.heap.size]?=some (.cells cs 115 (0,0))) (hk:∀b,k.own b→w1.heap[b]?=w.heap[b]?):RX s (fun b=>andZ L Z b∨(b=w.heap.size∨k.own b)) w1 w0 g w1 h1 (qsL (k2::L)) k2.a k2.c:=by
 obtain ⟨vc,vo,vx,R,⟨hc,hf,hl⟩,z1,z2,K⟩:=H
 refine H1.topB ?_ ?_
 ·rintro b (rfl|hb)
  ·exact ⟨_,_,hB,Or.inr (Or.inl rfl)⟩
  ·obtain ⟨-,cs,t,e,ht⟩:=hc.blks hb
   exact ⟨cs,t,(hk b hb).trans e,ht⟩
 ·have hlt:∀b,k2.own b→b<w.heap.size:=fun b hb=>hl.lt ⟨k2,List.mem_cons_self,hb⟩
  have hn:∀b,k2.own b→¬k.own b:=fun b hb hz=>by
   have:=hf b ⟨k2,List.mem_cons_self,hb⟩
   rcases hz with z|z|z|z
   ·exact this.q z
   ·exact this.l z
   ·exact this.s z
   ·exact this.x z
  rintro b (rfl|hb)
  ·exact ⟨fun e=>Nat.lt_irrefl _ (hlt _ (Or.inl e)),fun e=>Nat.lt_irrefl _ (hlt _ (Or.inr (Or.inl e))),fun e=>Nat.lt_irrefl _ (hlt _ (Or.inr (Or.inr (Or.inl e)))),fun e=>Nat.lt_irrefl _ (hlt _ (Or.inr (Or.inr (Or.inr e))))⟩
  ·exact ⟨fun e=>hn b (Or.inl e) hb,fun e=>hn b (Or.inr (Or.inl e)) hb,fun e=>hn b (Or.inr (Or.inr (Or.inl e))) hb,fun e=>hn b (Or.inr (Or.inr (Or.inr e))) hb⟩
theorem RX.keptB {s:Nat} {X:Nat→Prop} {wx w0 w:World} {g:Mg} {h:Hp} {qs:List Qb} {a:Mc} {c:Cal} (H:RX s X wx w0 g w h qs a c) {b:Nat} (hb:X b):w.heap[b]?=wx.heap[b]?:=by
 obtain ⟨vc,vo,vx,vs,l,H⟩:=H
 exact (H.kept.blk b hb).2
theorem RR.c3 {s:Nat} {Z:Nat→Prop} {wx w0 w:World} {g:Mg} {h:Hp} {k:Kl} {L:List Kl} (H:RR s Z wx w0 g w h (k::L)):∃gb cap,w.cell? ⟨g.r,3,none⟩=some (.slice (some ⟨gb,0,none⟩) (L.length+1) cap):=by
 obtain ⟨vc,vo,vx,R,-⟩:=H
 have hk:=R.calls
 rw [qsL_cons] at hk
 have e1:(qsL L++[k.a.qb]).length=(qsL L).length+1:=by simp
 have e2:(qsL L).length=L.length:=by simp [qsL]
 rw [e1] at hk
 obtain ⟨gb,cap,e,-⟩:=own_lastC hk
 refine ⟨gb,cap,?_⟩
 rw [cell_blk R.run,←e2,←e]
 rfl
theorem return_back (s:Nat) (Z:Nat→Prop) (wx w0:World) (g:Mg) (h:Hp) (k k2:Kl) (L:List Kl) (v:Va) (w:World) (H:RR s Z wx w0 g w h (k::k2::L)) (hlen:L.length≤100) (c2:Cal) (E:Ending) (hE:E=.returned (.tuple #[])∨E=stopE 6 0 0)
  (hbk:∀X wx w,RX s X wx w0 g w h (qsL (k2::L)) k2.a k2.c→Calls Tryz.prog 66 #[mvV (im v),.pointer (some ⟨k2.a.bx,0,none⟩)] w fun e w'=>e=E∧RX s X wx w0 g w' h (qsL (k2::L)) k2.a c2) :
  Calls Tryz.prog 140 #[.pointer (some ⟨g.r,0,none⟩),mvV (im v)] w fun e w'=>e=E∧(∃vs l,RR s Z wx w0 g w' h (⟨k2.a,c2,vs,l⟩::L))∧∀b,k.own b→w'.heap[b]?=w.heap[b]?:=by
 have HH:=hid H
 have HB:Hid (Bl w (w.alloc (.cells #[.int .i64 (im v).kind,.int .i64 (im v).n] 115))):=(Bl.refl w).alloc _
 have HQ:=hid (blk_new w #[.int .i64 (im v).kind,.int .i64 (im v).n] 115)
 have HK:=hid hbk
 have hcf:=fun a b c w=>call_field a b c w
 have hr:g.r<w.heap.size:=by obtain ⟨vc,vo,vx,R,-⟩:=H;exact lt_some R.run
 have hz0:((L.length:Int)+1==0)=false:=by simp;omega
 clear H hbk
 rcases hE with rfl|rfl
 ·go_enter Tryz.func140,Tryz.ntmps140
  go_wp2_with (go_at_call 202;refine (drop_any s _ _ w0 g h (qsL (k2::L)) k.a.qb _ (HH.out.hxB HB.out)).mono ?_;rintro e w1 ⟨rfl,H1⟩;have HD:=hid (HH.out.drops HB.out H1);clear H1;have hq1:=hid ((HD.out.2.1 w.heap.size (Nat.le_refl _) (lt_w1 w _)).trans HQ.out);have n0:=hid (c0_of hq1.out);have n1:=hid (c1_of hq1.out);have HR:=hid HD.out.1;have HRX:=hid HR.out.hx;have HKO:=hid HD.out.2.2;have HTB:=hid (HH.out.topD HR.out hq1.out HKO.out);clear HD;obtain ⟨gb,cap,hrc⟩:=HR.out.c3)
  refine wp_region_held_drew (S:=fun w'=>w'.cell? ⟨w.heap.size,0,none⟩=some (.int .i64 (im v).kind)∧w'.cell? ⟨w.heap.size,1,none⟩=some (.int .i64 (im v).n)) (by kernel_rfl) ?_ (fun hHeld0=>?_)
  ·exact ⟨n0.out,n1.out⟩
  refine tk (i:=0) (d:=some 15) rfl rfl (by kernel_rfl) (fun _ _ _ h=>h) (by rfl) (by intro _ h;(try dsimp only at h);go_split_ands;go_simp<;>with_reducible rfl) hHeld0 ?_
  try simp only [aS,aN,aT,a0,a1]
  refine tk (i:=3) (d:=some 18) rfl rfl (by kernel_rfl) (fun _ _ _ h=>h) (by rfl) (by intro _ h;(try dsimp only at h);go_split_ands;go_simp<;>with_reducible rfl) hHeld0 ?_
  try simp only [aS,aN,aT,a0,a1]
  refine rd1 (i:=1) (by kernel_rfl) rfl fun K hK=>?_
  go_simp
  go_at_call 203
  refine (top_any s (andZ (k2::L) Z) w1 w0 g h (qsL L) k2.a.qb _ (by rw [←qsL_cons];exact HRX.out.bl (Bl.refl _).drew)).mono ?_
  rintro e w2 ⟨rfl,b2⟩
  have d0:=hid (b2.cell (w':=w2) n0.out)
  have d1:=hid (b2.cell (w':=w2) n1.out)
  replace b2:=hid b2
  simp only [funs,Mc.qb]
  go_wp2_with fail
  refine hK.out _ _ (⟨d0.out,d1.out⟩) (fun hHeld1=>?_)
  try simp only [aS,aN,aT,a0,a1]
  refine tk (i:=2) (d:=some 17) rfl rfl (by kernel_rfl) (fun _ _ _ h=>h) (by rfl) (by intro _ h;(try dsimp only at h);go_split_ands;go_simp<;>with_reducible rfl) hHeld1 ?_
  try simp only [aS,aN,aT,a0,a1]
  refine rd1 (i:=4) (by kernel_rfl) rfl fun K hK=>?_
  go_simp
  go_at_call 66
  refine (HTB.out.y.useY ((Bl.refl w1).drew.trans b2.out) HK.out).mono ?_
  rintro e w3 ⟨rfl,H3,K3⟩
  have HR3:=hid (HR.out.of (H3.x.sub (fun b z=>Or.inl z)))
  have hq3:=(H3.x.keptB (Or.inr (Or.inl rfl))).trans hq1.out
  have HK3:=hid (fun b (z:k.own b)=>(H3.x.keptB (Or.inr (Or.inr z))).trans (HKO.out b z))
  have j0:=hid (c0_of hq3)
  have j1:=hid (c1_of hq3)
  clear H3 K3 hq3
  go_wp2_with fail
  refine hK.out _ _ (⟨j0.out,j1.out⟩) (fun hHeld2=>?_)
  try simp only [aS,aN,aT,a0,a1]
  refine wpAnyH_done (by kernel_rfl) ?_ _
  go_wp2
  go_end0
  exact ⟨rfl,HR3.out,HK3.out⟩
 ·go_enter Tryz.func140,Tryz.ntmps140
  go_wp2_with (go_at_call 202;refine (drop_any s _ _ w0 g h (qsL (k2::L)) k.a.qb _ (HH.out.hxB HB.out)).mono ?_;rintro e w1 ⟨rfl,H1⟩;have HD:=hid (HH.out.drops HB.out H1);clear H1;have hq1:=hid ((HD.out.2.1 w.heap.size (Nat.le_refl _) (lt_w1 w _)).trans HQ.out);have n0:=hid (c0_of hq1.out);have n1:=hid (c1_of hq1.out);have HR:=hid HD.out.1;have HRX:=hid HR.out.hx;have HKO:=hid HD.out.2.2;have HTB:=hid (HH.out.topD HR.out hq1.out HKO.out);clear HD;obtain ⟨gb,cap,hrc⟩:=HR.out.c3)
  refine wp_region_held_drew (S:=fun w'=>w'.cell? ⟨w.heap.size,0,none⟩=some (.int .i64 (im v).kind)∧w'.cell? ⟨w.heap.size,1,none⟩=some (.int .i64 (im v).n)) (by kernel_rfl) ?_ (fun hHeld0=>?_)
  ·exact ⟨n0.out,n1.out⟩
  refine tk (i:=0) (d:=some 15) rfl rfl (by kernel_rfl) (fun _ _ _ h=>h) (by rfl) (by intro _ h;(try dsimp only at h);go_split_ands;go_simp<;>with_reducible rfl) hHeld0 ?_
  try simp only [aS,aN,aT,a0,a1]
  refine tk (i:=3) (d:=some 18) rfl rfl (by kernel_rfl) (fun _ _ _ h=>h) (by rfl) (by intro _ h;(try dsimp only at h);go_split_ands;go_simp<;>with_reducible rfl) hHeld0 ?_
  try simp only [aS,aN,aT,a0,a1]
  refine rd1 (i:=1) (by kernel_rfl) rfl fun K hK=>?_
  go_simp
  go_at_call 203
  refine (top_any s (andZ (k2::L) Z) w1 w0 g h (qsL L) k2.a.qb _ (by rw [←qsL_cons];exact HRX.out.bl (Bl.refl _).drew)).mono ?_
  rintro e w2 ⟨rfl,b2⟩
  have d0:=hid (b2.cell (w':=w2) n0.out)
  have d1:=hid (b2.cell (w':=w2) n1.out)
  replace b2:=hid b2
  simp only [funs,Mc.qb]
  go_wp2_with fail
  refine hK.out _ _ (⟨d0.out,d1.out⟩) (fun hHeld1=>?_)
  try simp only [aS,aN,aT,a0,a1]
  refine tk (i:=2) (d:=some 17) rfl rfl (by kernel_rfl) (fun _ _ _ h=>h) (by rfl) (by intro _ h;(try dsimp only at h);go_split_ands;go_simp<;>with_reducible rfl) hHeld1 ?_
  try simp only [aS,aN,aT,a0,a1]
  refine rd1 (i:=4) (by kernel_rfl) rfl fun K hK=>?_
  go_simp
  go_at_call 66
  refine (HTB.out.y.useY ((Bl.refl w1).drew.trans b2.out) HK.out).mono ?_
  rintro e w3 ⟨rfl,H3,K3⟩
  exact ⟨rfl,rfl,HR.out.of (H3.x.sub (fun b z=>Or.inl z)),fun b (z:k.own b)=>(H3.x.keptB (Or.inr (Or.inr z))).trans (HKO.out b z)⟩
end
theorem own_noneC {w:World} {base:Nat} {e:TypeId} {vs:Value} {xs:List Value} (h:w.ownsRow base e 3 vs 0 xs):∃A cap,vs=.slice A 0 cap:=by
 rcases h.2 with ⟨rfl,h0⟩|⟨gb,cap,cur,rfl,hg,hh,hn,hcap,hsz,htake⟩
 ·exact ⟨_,_,rfl⟩
 ·exact ⟨_,_,rfl⟩
theorem RR.c3n {s:Nat} {Z:Nat→Prop} {wx w0 w:World} {g:Mg} {h:Hp} (H:RR s Z wx w0 g w h []):∃A cap,w.cell? ⟨g.r,3,none⟩=some (.slice A 0 cap):=by
 obtain ⟨vc,vo,vx,R,-⟩:=H
 obtain ⟨A,cap,e⟩:=own_noneC R.calls
 refine ⟨A,cap,?_⟩
 rw [cell_blk R.run,←e]
 rfl
theorem return_done (s:Nat) (Z:Nat→Prop) (wx w0:World) (g:Mg) (h:Hp) (k:Kl) (v:Va) (w:World) (H:RR s Z wx w0 g w h [k]) :
  Calls Tryz.prog 140 #[.pointer (some ⟨g.r,0,none⟩),mvV (im v)] w fun e w'=>e=stopE 1 (im v).kind (im v).n∧RR s Z wx w0 g w' h []:=by
 have HH:=hid H
 have HB:Hid (Bl w (w.alloc (.cells #[.int .i64 (im v).kind,.int .i64 (im v).n] 115))):=(Bl.refl w).alloc _
 have HQ:=hid (blk_new w #[.int .i64 (im v).kind,.int .i64 (im v).n] 115)
 have hr:g.r<w.heap.size:=by obtain ⟨vc,vo,vx,R,-⟩:=H;exact lt_some R.run
 clear H
 go_enter Tryz.func140,Tryz.ntmps140
 go_wp2_with (go_at_call 202;refine (drop_any s _ _ w0 g h (qsL []) k.a.qb _ (HH.out.hxB HB.out)).mono ?_;rintro e w1 ⟨rfl,H1⟩;have HD:=hid (HH.out.drops HB.out H1);clear H1;have hq1:=(HD.out.2.1 w.heap.size (Nat.le_refl _) (lt_w1 w _)).trans HQ.out;have n0:=c0_of hq1;have n1:=c1_of hq1;have HR:=hid HD.out.1;clear HD hq1;obtain ⟨A,cap,hrc⟩:=HR.out.c3n)
 exact ⟨rfl,rfl,HR.out⟩
theorem RR.bl {s:Nat} {Z:Nat→Prop} {wx w0 w w':World} {g:Mg} {h:Hp} {L:List Kl} (H:RR s Z wx w0 g w h L) (hb:Bl w w'):RR s Z wx w0 g w' h L:=H.ofx (H.hx.bl hb)
theorem stepB_eq {h:Hp} (hb:h.stepB=true):h.step={ h with sh:={ h.sh with steps:=h.sh.steps+1 } }:=by
 unfold Hp.stepB at hb
 simp at hb
 unfold Hp.step
 rw [if_neg (by rw [hb.1];decide),if_neg (by omega)]
theorem HX.sets {s:Nat} {X:Nat→Prop} {wx w0 w:World} {g:Mg} {h:Hp} {qs:List Qb} (H:HX s X wx w0 g w h qs) (hb:h.stepB=true):HX (s+1) X wx w0 g (w.setCell ⟨g.r,6,none⟩ (.int .i64 (h.sh.steps+1))) h.step qs:=by
 obtain ⟨vc,vo,vx,R,hf,hK⟩:=H
 have hg:=grown_set (w:=w) g.r 6 (.int .i64 (h.sh.steps+1))
 obtain ⟨n,D,F⟩:=R.fld
 have hrm:g.r≠g.mp:=map_ne R.run F.own
 rw [stepB_eq hb]
 refine ⟨vc,vo,vx,⟨R.ownr,R.ownh,R.ownm,Below.grown R.bl hg R.bl.size (fun k hk=>by cases hk;exact R.ownr),?_,?_,?_,?_,?_,n,D,?_,?_,F.hit,F.miss,F.new,F.ks,F.kd⟩,hf,hK.kept hg (fun b e hx=>?_)⟩
 ·rw [block_set R.run];rfl
 ·exact grown_blk hg R.hp (fun e=>blk_ne R.run R.hp (by decide) (Option.some.inj e))
 ·exact R.out.kept hg (Or.inr (own_far R.out R.run (by decide)))
 ·exact R.obs.kept hg (Or.inr (own_far R.obs R.run (by decide)))
 ·exact R.calls.kept hg (Or.inr (own_far R.calls R.run (by decide)))
 ·exact F.own.kept hg (fun e=>hrm (Option.some.inj e.symm))
 ·have:=F.few
  show (n:Int)+((s+1:Nat):Int)≤h.sh.steps+1
  omega
 ·cases e;exact (hf g.r hx).r rfl
theorem HX.c56 {s:Nat} {X:Nat→Prop} {wx w0 w:World} {g:Mg} {h:Hp} {qs:List Qb} (H:HX s X wx w0 g w h qs):w.cell? ⟨g.r,5,none⟩=some (.int .i64 h.fuel)∧w.cell? ⟨g.r,6,none⟩=some (.int .i64 h.sh.steps)∧(∀i,w.frozen? ⟨g.r,i,none⟩=false):=by
 obtain ⟨vc,vo,vx,R,-,-⟩:=H
 exact ⟨R.runCells.2.2.2.2.2.1,R.runCells.2.2.2.2.2.2.1,free_blk R.run⟩
theorem call_field0 (a b c:Value) (w:World):(Instr.field 107 (.agg #[a,b,c]) 0).run Tryz.prog w=.ok a w:=by
 simp [Instr.field,go_sem,Tryz.underlying107,run_underlying Tryz.underlying107,asAgg]
theorem step_fuel (s:Nat) (Z:Nat→Prop) (wx w0:World) (g:Mg) (h:Hp) (L:List Kl) (w:World) (H:RR s Z wx w0 g w h L) (hb:h.fuel≤h.sh.steps) :
  Calls Tryz.prog 152 #[.pointer (some ⟨g.r,0,none⟩)] w fun e w'=>e=stopE 0 0 0∧RR s Z wx w0 g w' h L:=by
 have HH:=hid H
 obtain ⟨c5,c6,fz⟩:=H.hx.c56
 clear H
 go_enter Tryz.func152,Tryz.ntmps152
 go_wp2
 go_quiet (fail)
 go_wp2_with (go_at_call 146;refine (mend_any 0 _).mono ?_;rintro e w1 ⟨rfl,hw⟩;rw [hw];clear hw w1)
 exact ⟨rfl,rfl,HH.out.bl (bl_drewN (Bl.refl w) _)⟩
theorem step_go (s:Nat) (Z:Nat→Prop) (wx w0:World) (g:Mg) (h:Hp) (k:Kl) (L:List Kl) (w:World) (H:RR s Z wx w0 g w h (k::L)) (hb:h.stepB=true) (hlim:0≤h.sh.steps∧h.sh.steps<1000000) (E:Ending) (Q':World→Prop) (hE:E=.returned (.tuple #[])∨∃ch,E=.panicked ch)
  (hdo:∀w,RR (s+1) Z wx w0 g w h.step (k::L)→Calls Tryz.prog 67 #[.pointer (some ⟨k.a.q,0,none⟩)] w fun e w'=>e=E∧Q' w') :
  Calls Tryz.prog 152 #[.pointer (some ⟨g.r,0,none⟩)] w fun e w'=>e=E∧Q' w':=by
 have HH:=hid H
 have HB:=hid hb
 have HDO:=hid hdo
 obtain ⟨c5,c6,fz⟩:=H.hx.c56
 have hst:¬h.fuel≤h.sh.steps:=by unfold Hp.stepB at hb;simp at hb;omega
 have hcf:=fun a b c w=>call_field0 a b c w
 clear H hb hdo
 have HS:Hid (∀n,RR (s+1) Z wx w0 g ((w.drewN n).setCell ⟨g.r,6,none⟩ (.int .i64 (h.sh.steps+1))) h.step (k::L)):=fun n=>by
  have H1:=HH.out.bl (bl_drewN (Bl.refl w) n)
  obtain ⟨vc,vo,vx,R,hl,z1,z2,K⟩:=H1
  exact RR.ofx ⟨vc,vo,vx,R,hl,z1,z2,K⟩ (HX.sets (RR.hx ⟨vc,vo,vx,R,hl,z1,z2,K⟩) HB.out)
 rcases hE with rfl|⟨ch,rfl⟩
 ·go_enter Tryz.func152,Tryz.ntmps152
  go_wp2
  go_quiet (fail)
  go_wp2_with (first
   | (go_at_call 203;refine (top_any (s+1) (andZ (k::L) Z) _ w0 g h.step (qsL L) k.a.qb _ (by rw [←qsL_cons];exact (HS.out _).hx)).mono ?_;rintro e w1 ⟨rfl,b1⟩;have HR1:=hid ((HS.out _).bl b1);simp only [funs,Mc.qb];clear b1)
   | (go_at_call 67;refine (HDO.out _ HR1.out).mono ?_;rintro e w2 ⟨rfl,hq⟩;replace hq:=hid hq))
  go_end0
  exact ⟨rfl,hq.out⟩
 ·go_enter Tryz.func152,Tryz.ntmps152
  go_wp2
  go_quiet (fail)
  go_wp2_with (first
   | (go_at_call 203;refine (top_any (s+1) (andZ (k::L) Z) _ w0 g h.step (qsL L) k.a.qb _ (by rw [←qsL_cons];exact (HS.out _).hx)).mono ?_;rintro e w1 ⟨rfl,b1⟩;have HR1:=hid ((HS.out _).bl b1);simp only [funs,Mc.qb];clear b1)
   | (go_at_call 67;refine (HDO.out _ HR1.out).mono ?_;rintro e w2 ⟨rfl,hq⟩;replace hq:=hid hq))
  exact ⟨rfl,rfl,hq.out⟩
section
open Go.Maps (Keyed has)
def rvL (f:Nat→Va) (n q:Nat):List Va:=(List.range n).map (fun j=>if j<q then f j else va0)
theorem rvL_zero (f:Nat→Va) (n:Nat):rvL f n 0=List.replicate n va0:=by
 unfold rvL
 apply List.ext_getElem
 ·simp
 ·intro i h1 h2;simp
theorem rvL_length (f:Nat→Va) (n q:Nat):(rvL f n q).length=n:=by simp [rvL]
theorem rvL_set (f:Nat→Va) (n q:Nat):(rvL f n q).set q (f q)=rvL f n (q+1):=by
 unfold rvL
 apply List.ext_getElem
 ·simp
 ·intro i h1 h2
  simp only [List.getElem_set,List.getElem_map,List.getElem_range]
  by_cases hi:q=i
  ·subst hi;simp
  ·rw [if_neg hi]
   by_cases hlt:i<q
   ·rw [if_pos hlt,if_pos (by omega)]
   ·rw [if_neg hlt,if_neg (by omega)]
theorem rds_nth (c:Cal):∀(l:List Int) (ts:List Ty) (k:Nat),l.length=ts.length→k<ts.length→nth va0 (c.rds l ts) k=c.rd (nth (0:Int) l k)
 | [],[],k,_,hk=>absurd hk (Nat.not_lt_zero _)
 | [],_::_,k,h,_=>by simp at h
 | _::_,[],k,h,_=>by simp at h
 | a::l,t::ts,0,h,_=>rfl
 | a::l,t::ts,k+1,h,hk=>rds_nth c l ts k (by simpa using h) (by simpa using hk)
theorem rvL_all (c:Cal) (l:List Int) (ts:List Ty) (hl:l.length=ts.length):rvL (fun j=>im (c.rd (nth (0:Int) l j))) ts.length ts.length=(c.rds l ts).map im:=by
 apply List.ext_getElem
 ·rw [rvL_length,List.length_map,rds_length c l ts hl]
 ·intro i h1 h2
  rw [rvL_length] at h1
  have h3:i<(c.rds l ts).length:=by simpa using h2
  have:=rds_nth c l ts i hl h1
  rw [nth_get h3] at this
  simp only [rvL,List.getElem_map,List.getElem_range,if_pos h1,this]
def RTQ (h:Hp) (c:Cal) (args:List Int) (ts:List Ty) (w:World) (e:Ending) (w':World):Prop :=
 (h.enterL (c.rds args ts) ts=true∧e=.returned (.slice (some ⟨w.heap.size,0,none⟩) ts.length ts.length)∧LBox w' w.heap.size ((c.rds args ts).map im)∧Bl w w')
 ∨ (h.enterL (c.rds args ts) ts=false∧e=stopE 6 0 0∧Bl w w')
structure RdOk (h:Hp) (c:Cal) (args:List Int) (ts:List Ty):Prop where
 len:args.length=ts.length
 few:ts.length≤4
 reg:∀k,k<ts.length→0≤nth (0:Int) args k∧nth (0:Int) args k<c.locs.length
 kind:∀k,k<ts.length→1≤(nth ty0 ts k).kind∧(nth ty0 ts k).kind≤3
 two:∀k,k<ts.length→(nth ty0 ts k).kind=2→nth (0:Int) args k+1<c.locs.length
 gd:∀k,k<ts.length→(c.rd (nth (0:Int) args k)).kind=3→-1≤(c.rd (nth (0:Int) args k)).n∧(c.rd (nth (0:Int) args k)).n<h.objs.length
theorem far2 {w:World} {b b' i j j':Nat} {k n x:Value} (h:w.cell? ⟨b,i,none⟩=some x) (hb:b≠b'):((w.setCell ⟨b',j,none⟩ k).setCell ⟨b',j',none⟩ n).cell? ⟨b,i,none⟩=some x:=by
 rw [World.cell?_setCell_far _ _ _ _ (Ne.symm hb),World.cell?_setCell_far _ _ _ _ (Ne.symm hb)];exact h
theorem readTypes_any (s:Nat) (X:Nat→Prop) (wx w0:World) (g:Mg) (h:Hp) (qs:List Qb) (a:Mc) (c:Cal) (A Q:Option Addr) (cap qc:Nat) (ts:List Ty) (args:List Int) (w:World) (H:RX s X wx w0 g w h qs a c) (F:Fix w0 g h) (hf:h.objs.length≤100) (hT:TysAt w0 A ts) (hR:IntsAt w0 Q args) (O:RdOk h c args ts) :
  Calls Tryz.prog 139 #[.pointer (some ⟨a.q,0,none⟩),.slice Q args.length qc,.slice A ts.length cap] w fun e w'=>RTQ h c args ts w e w':=by
 have HH:=hid H
 have hb0:Bl w0 w:=by
  obtain ⟨vc,vo,vx,vs,l,H⟩:=H
  exact H.rh.bl
 have HT:=hid (hT.bl hb0)
 have HR:=hid (hR.bl hb0)
 have HO:=hid O
 have HF:=hid (And.intro F hf)
 have hl:=O.len
 have h4:=O.few
 have hmk:=make_mv ts.length (by omega)
 have HS:Hid (Bl w (w.alloc (.cells (vaCells (List.replicate ts.length va0)).toArray 115))∧LBox (w.alloc (.cells (vaCells (List.replicate ts.length va0)).toArray 115)) w.heap.size (rvL (fun j=>im (c.rd (nth (0:Int) args j))) ts.length 0)∧∀j,j<0→h.of (c.rd (nth (0:Int) args j)) (nth ty0 ts j)=true) :=
  ⟨(Bl.refl w).alloc _,by rw [rvL_zero];exact LBox.new w _,fun j hj=>absurd hj (Nat.not_lt_zero _)⟩
 rw [hl]
 have HL:=hid hl
 clear H hT hR hl O F hf hb0
 go_enter Tryz.func139,Tryz.ntmps139
 go_wp2
 go_loopw [15] (fun i wr=>∃q:Nat,q≤ts.length∧i=.int .i64 q∧Hid (Bl w wr∧LBox wr w.heap.size (rvL (fun j=>im (c.rd (nth (0:Int) args j))) ts.length q)∧∀j,j<q→h.of (c.rd (nth (0:Int) args j)) (nth ty0 ts j)=true)) (fun i _=>ts.length-(intOf i).toNat)
 case atStart=>exact ⟨0,Nat.zero_le _,rfl,HS.out⟩
 case round =>
  clear HS hmk
  obtain ⟨q,hq,rfl,HB⟩:=hrel
  by_cases hql:q<ts.length
  ·rcases (HT.out.bl HB.out.1).2 with z0|⟨tb,to,rfl,hcell⟩
   ·omega
   rcases (HR.out.bl HB.out.1).2 with z0|⟨rb,ro,rfl,hrc⟩
   ·have:=HL.out;omega
   obtain ⟨x0,x1,-,-⟩:=hcell q hql
   obtain ⟨y0,-⟩:=hrc q (by rw [HL.out];exact hql)
   have hreg:=HO.out.reg q hql
   have hkd:=HO.out.kind q hql
   have h2:=HO.out.two q hql
   have hgd:=HO.out.gd q hql
   have HPS:Hid ((rvL (fun j=>im (c.rd (nth (0:Int) args j))) ts.length q).set q (im (c.rd (nth (0:Int) args q)))=rvL (fun j=>im (c.rd (nth (0:Int) args j))) ts.length (q+1)):=rvL_set _ _ _
   have hqa:q<args.length:=by have:=HL.out;omega
   have HTQ:Hid (∃t,nth ty0 ts q=t):=⟨_,rfl⟩
   obtain ⟨t,ht⟩:=HTQ.out
   obtain ⟨ar,har⟩:∃ar,nth (0:Int) args q=ar:=⟨_,rfl⟩
   rw [ht] at x0 x1 hkd h2
   rw [har] at y0 hreg h2 hgd
   rw [har] at HPS
   have HHT:=hid ht
   have HHA:=hid har
   clear hcell hrc ht har HTQ
   have hrlt:rb<w.heap.size:=by
    rcases HR.out.2 with z0|⟨rb',ro',ee,hrc⟩
    ·have:=HL.out;omega
    ·cases ee
     exact cell_lt (hrc q (by rw [HL.out];exact hql)).1
   have hnr:rb≠w.heap.size:=by omega
   have y0a:(wr.alloc (tyMO t)).cell? ⟨rb,ro+q,none⟩=some (.int .i64 ar):=((Bl.refl wr).alloc _).cell y0
   have hlt:=lt_some HB.out.2.1.blk
   have hne:wr.heap.size≠w.heap.size:=by omega
   have HBN:=hid (blk_new wr #[.int .i64 t.kind,.int .i64 t.cls] 46)
   have HQL:Hid (q<(rvL (fun j=>im (c.rd (nth (0:Int) args j))) ts.length q).length):=by rw [rvL_length];exact hql
   have HAW:Hid (Bl w (wr.alloc (tyMO t))):=HB.out.1.alloc _
   cases ho:h.of (c.rd ar) t with
   | false =>
    have HTT:Hid (∀w',RX s X wx w0 g w' h qs a c→Calls Tryz.prog 201 #[.pointer (some ⟨a.q,0,none⟩),.int .i64 ar,tyMV t] w' fun e w2=>e=stopE 6 0 0∧Bl w' w2):=fun w' H=>rdT_no s X wx w0 g h qs a c ar t w' H HF.out.1 HF.out.2 hreg hkd h2 hgd ho
    have HOF:=hid ho
    have HQ:=hid hql
    clear ho hreg hkd h2 hgd hq
    go_wp2
    refine wp_region_held_drew (S:=fun w'=>w'.cell? ⟨rb,ro+q,none⟩=some (.int .i64 ar)∧w'.cell? ⟨wr.heap.size,0,none⟩=some (.int .i64 t.kind)∧w'.cell? ⟨wr.heap.size,1,none⟩=some (.int .i64 t.cls)) (by kernel_rfl) ?_ (fun hHeld0=>?_)
    ·exact ⟨y0a,c0_of HBN.out,c1_of HBN.out⟩
    refine tk (i:=0) (d:=some 20) rfl rfl (by kernel_rfl) (fun _ _ _ h=>h) (by rfl) (by intro _ h;(try dsimp only at h);go_split_ands;go_simp<;>with_reducible rfl) hHeld0 ?_
    try simp only [aS,aN,aT,a0,a1]
    refine tk (i:=1) (d:=some 21) rfl rfl (by kernel_rfl) (fun _ _ _ h=>h) (by rfl) (by intro _ h;(try dsimp only at h);go_split_ands;go_simp<;>with_reducible rfl) hHeld0 ?_
    try simp only [aS,aN,aT,a0,a1]
    refine tk (i:=2) (d:=some 22) rfl rfl (by kernel_rfl) (fun _ _ _ h=>h) (by rfl) (by intro _ h;(try dsimp only at h);go_split_ands;go_simp<;>with_reducible rfl) hHeld0 ?_
    try simp only [aS,aN,aT,a0,a1]
    refine tk (i:=3) (d:=some 23) rfl rfl (by kernel_rfl) (fun _ _ _ h=>h) (by rfl) (by intro _ h;(try dsimp only at h);go_split_ands;go_simp<;>with_reducible rfl) hHeld0 ?_
    try simp only [aS,aN,aT,a0,a1]
    refine tk (i:=4) (d:=some 24) rfl rfl (by kernel_rfl) (fun _ _ _ h=>h) (by rfl) (by intro _ h;(try dsimp only at h);go_split_ands;go_simp<;>with_reducible rfl) hHeld0 ?_
    try simp only [aS,aN,aT,a0,a1]
    refine tk (i:=5) (d:=some 25) rfl rfl (by kernel_rfl) (fun _ _ _ h=>h) (by rfl) (by intro _ h;(try dsimp only at h);go_split_ands;go_simp<;>with_reducible rfl) hHeld0 ?_
    try simp only [aS,aN,aT,a0,a1]
    refine tk (i:=6) (d:=some 26) rfl rfl (by kernel_rfl) (fun _ _ _ h=>h) (by rfl) (by intro _ h;(try dsimp only at h);go_split_ands;go_simp<;>with_reducible rfl) hHeld0 ?_
    try simp only [aS,aN,aT,a0,a1]
    refine tk (i:=7) (d:=some 27) rfl rfl (by kernel_rfl) (fun _ _ _ h=>h) (by rfl) (by intro _ h;(try dsimp only at h);go_split_ands;go_simp<;>with_reducible rfl) hHeld0 ?_
    try simp only [aS,aN,aT,a0,a1]
    refine rd1 (i:=8) (by kernel_rfl) rfl fun K hK=>?_
    go_simp
    go_at_call 201
    refine (HTT.out _ (HH.out.bl HAW.out.drew)).mono ?_
    rintro e w1 ⟨rfl,b1⟩
    refine ⟨rfl,Or.inr ⟨?_,rfl,HAW.out.drew.trans b1⟩⟩
    cases hE:h.enterL (c.rds args ts) ts with
    | false=>rfl
    | true =>
     exfalso
     have:=(enter_all h _ _ (rds_length c args ts HL.out)).1 hE q HQ.out
     rw [rds_nth c args ts q HL.out HQ.out,HHA.out,HHT.out,HOF.out] at this
     cases this
   | true =>
    have HTT:Hid (∀w',RX s X wx w0 g w' h qs a c→Calls Tryz.prog 201 #[.pointer (some ⟨a.q,0,none⟩),.int .i64 ar,tyMV t] w' fun e w2=>e=.returned (mvV (im (c.rd ar)))∧Bl w' w2):=fun w' H=>rdT_yes s X wx w0 g h qs a c ar t w' H HF.out.1 HF.out.2 hreg hkd h2 hgd ho
    have HOF:=hid ho
    clear ho hreg hkd h2 hgd
    go_wp2
    refine wp_region_held_drew (S:=fun w'=>w'.cell? ⟨rb,ro+q,none⟩=some (.int .i64 ar)∧w'.cell? ⟨wr.heap.size,0,none⟩=some (.int .i64 t.kind)∧w'.cell? ⟨wr.heap.size,1,none⟩=some (.int .i64 t.cls)) (by kernel_rfl) ?_ (fun hHeld0=>?_)
    ·exact ⟨y0a,c0_of HBN.out,c1_of HBN.out⟩
    refine tk (i:=0) (d:=some 20) rfl rfl (by kernel_rfl) (fun _ _ _ h=>h) (by rfl) (by intro _ h;(try dsimp only at h);go_split_ands;go_simp<;>with_reducible rfl) hHeld0 ?_
    try simp only [aS,aN,aT,a0,a1]
    refine tk (i:=1) (d:=some 21) rfl rfl (by kernel_rfl) (fun _ _ _ h=>h) (by rfl) (by intro _ h;(try dsimp only at h);go_split_ands;go_simp<;>with_reducible rfl) hHeld0 ?_
    try simp only [aS,aN,aT,a0,a1]
    refine tk (i:=2) (d:=some 22) rfl rfl (by kernel_rfl) (fun _ _ _ h=>h) (by rfl) (by intro _ h;(try dsimp only at h);go_split_ands;go_simp<;>with_reducible rfl) hHeld0 ?_
    try simp only [aS,aN,aT,a0,a1]
    refine tk (i:=3) (d:=some 23) rfl rfl (by kernel_rfl) (fun _ _ _ h=>h) (by rfl) (by intro _ h;(try dsimp only at h);go_split_ands;go_simp<;>with_reducible rfl) hHeld0 ?_
    try simp only [aS,aN,aT,a0,a1]
    refine tk (i:=4) (d:=some 24) rfl rfl (by kernel_rfl) (fun _ _ _ h=>h) (by rfl) (by intro _ h;(try dsimp only at h);go_split_ands;go_simp<;>with_reducible rfl) hHeld0 ?_
    try simp only [aS,aN,aT,a0,a1]
    refine tk (i:=5) (d:=some 25) rfl rfl (by kernel_rfl) (fun _ _ _ h=>h) (by rfl) (by intro _ h;(try dsimp only at h);go_split_ands;go_simp<;>with_reducible rfl) hHeld0 ?_
    try simp only [aS,aN,aT,a0,a1]
    refine tk (i:=6) (d:=some 26) rfl rfl (by kernel_rfl) (fun _ _ _ h=>h) (by rfl) (by intro _ h;(try dsimp only at h);go_split_ands;go_simp<;>with_reducible rfl) hHeld0 ?_
    try simp only [aS,aN,aT,a0,a1]
    refine tk (i:=7) (d:=some 27) rfl rfl (by kernel_rfl) (fun _ _ _ h=>h) (by rfl) (by intro _ h;(try dsimp only at h);go_split_ands;go_simp<;>with_reducible rfl) hHeld0 ?_
    try simp only [aS,aN,aT,a0,a1]
    refine rd1 (i:=8) (by kernel_rfl) rfl fun K hK=>?_
    go_simp
    go_at_call 201
    refine (HTT.out _ (HH.out.bl HAW.out.drew)).mono ?_
    rintro e w1 ⟨rfl,b1⟩
    have da0:=hid (b1.cell hHeld0.1)
    have da1:=hid (b1.cell hHeld0.2.1)
    have da2:=hid (b1.cell hHeld0.2.2)
    replace b1:=hid b1
    have L1:=HB.out.2.1.bl (((Bl.refl wr).alloc (tyMO t)).drew.trans b1.out)
    have v0:=L1.c0 HQL.out
    have v1:=L1.c1 HQL.out
    have fz1:=free_blk L1.blk
    replace L1:=hid L1
    go_wp2_with fail
    refine hK.out _ _ (⟨da0.out,da1.out,da2.out⟩) (fun hHeld1=>?_)
    try simp only [aS,aN,aT,a0,a1]
    refine tk (i:=9) (d:=some 29) rfl rfl (by kernel_rfl) (fun _ _ _ h=>h) (by rfl) (by intro _ h;(try dsimp only at h);go_split_ands;go_simp<;>with_reducible rfl) hHeld1 ?_
    try simp only [aS,aN,aT,a0,a1]
    refine rd1 (i:=10) (by kernel_rfl) rfl fun K hK=>?_
    go_wp2_with fail
    refine hK.out _ _ (⟨far2 da0.out hnr,far2 da1.out hne,far2 da2.out hne⟩) (fun hHeld2=>?_)
    try simp only [aS,aN,aT,a0,a1]
    refine wpAnyH_done (by kernel_rfl) ?_ _
    go_wp2
    go_roundw
    case rel =>
     refine ⟨q+1,by omega,by go_num,?_,?_,?_⟩
     ·exact ((HAW.out.drew.trans b1.out).setCell (p:=⟨w.heap.size,q*2,none⟩) (Nat.le_refl _) _).setCell (p:=⟨w.heap.size,q*2+1,none⟩) (Nat.le_refl _) _
     ·rw [←HPS.out]
      exact L1.out.set HQL.out (im (c.rd ar))
     ·intro j hj
      by_cases hjq:j=q
      ·subst hjq;rw [HHA.out,HHT.out];exact HOF.out
      ·exact HB.out.2.2 j (by omega)
    case measure=>simp [intOf];omega
  ·have hqe:q=ts.length:=by omega
   subst hqe
   go_wp2
   go_ret
   refine Or.inl ⟨?_,rfl,?_,HB.out.1⟩
   ·rw [enter_all h _ _ (rds_length c args ts HL.out)]
    intro j hj
    rw [rds_nth c args ts j HL.out hj]
    exact HB.out.2.2 j hj
   ·rw [←rvL_all c args ts HL.out]
    exact HB.out.2.1
end
end Go.Proofs.YtgiiapenmjollabGreat
