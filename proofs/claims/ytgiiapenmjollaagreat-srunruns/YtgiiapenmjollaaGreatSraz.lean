import Derived.Test.YtgiiapenmjollaaGreatSrax
import Derived.Test.YtgiiapenmjollaaGreatSray
import Derived.BigQuiet
namespace Go.Proofs.YtgiiapenmjollaaGreat
set_option linter.all false
set_option maxHeartbeats 40000000
set_option maxRecDepth 100000
open Go.RowKit
open Go.Value (int)
open Go.IntKind (i64)
variable {h:Hp} {k:Kl} {L:List Kl} {g:Mg} {b s:Nat} {Y Z:Nat->Prop} {w w' w0 wx:World}
section
open Go.Maps (Keyed has)
theorem gD (k:Kl) (L:List Kl):jH (k::L)=jH L++[k.a.q]:=by simp [jH]
theorem zj (a b c:Value) (w:World):(Instr.field 85 (.agg #[a,b,c]) 1).run Tryz.prog w=.ok b w:=by
 simp [Instr.field,go_sem,Tryz.underlying85,run_underlying Tryz.underlying85,asAgg]
section
variable {s:Nat} {Z:Nat->Prop} {wx w0 w w':World}
theorem RR.hxB (H:RR s Z wx w0 g w h (k::L)) (hb:Bl w w'):HX s (fun b=>kY (k::L) Z b∨(w.heap.size<=b/\b<w'.heap.size)) w' w0 g w' h (jH L++[k.a.q]):=by
 obtain ⟨vc,vo,vx,R,hl,z1,z2,K⟩:=H
 rw [gD] at R
 have R':=R.kept (dy hb none) (fun b e=>by cases e)
 have KZ:=hl.kz K
 refine ⟨vc,vo,vx,R',?_,Nat.le_refl _,fun b hx=>⟨?_,rfl⟩⟩
 ·rintro b ((hx|hx)|hx)
  ·obtain ⟨y,-,hk,hy⟩:=hl.blks hx
   exact hy.farK R hk
  ·exact z1 b hx
  ·exact R.farNew hx.1
 ·rcases hx with hx|hx
  ·exact Nat.lt_of_lt_of_le (KZ.blk b hx).1 hb.size
  ·exact hx.2
theorem RR.drops {w1:World} (H:RR s Z wx w0 g w h (k::L)) (hb:Bl w w') (H':HX s (fun b=>kY (k::L) Z b∨(w.heap.size<=b/\b<w'.heap.size)) w' w0 g w1 h (jH L)):RR s Z wx w0 g w1 h L/\(∀b,w.heap.size<=b->b<w'.heap.size->w1.heap[b]?=w'.heap[b]?)/\∀b,k.own b->w1.heap[b]?=w.heap[b]?:=by
 obtain ⟨vc,vo,vx,R,hl,z1,z2,K⟩:=H
 obtain ⟨rK,vz,vA,R',f,K'⟩:=H'
 have KZ:=hl.kz K
 have hk:∀b,kY (k::L) Z b->w1.heap[b]?=w.heap[b]?:=fun b hx=>((K'.blk b (Or.inl hx)).2).trans (hb.block b (KZ.blk b hx).1)
 exact ⟨⟨rK,vz,vA,R',hl.2.2.same (fun b ⟨y,hy,z⟩=>hk b (Or.inl ⟨y,List.mem_cons_of_mem _ hy,z⟩)),fun b z=>f b (Or.inl (Or.inr z)),fun b z y hy=>z2 b z y (List.mem_cons_of_mem _ hy),Nat.le_trans K.size (Nat.le_trans hb.size K'.size),fun b z=>⟨(K.blk b z).1,(hk b (Or.inr z)).trans (K.blk b z).2⟩⟩,fun b h1 h2=>(K'.blk b (Or.inr ⟨h1,h2⟩)).2,fun b z=>hk b (Or.inl ⟨k,List.mem_cons_self,z⟩)⟩
end
theorem RX.sub {X X':Nat->Prop} {qs:List Nat} {a:Mc} {c:aH} (H:RX s X wx w0 g w h qs a c) (hx:∀b,X' b->X b):RX s X' wx w0 g w h qs a c:=by
 obtain ⟨vc,vo,vx,vs,l,H⟩:=H
 exact ⟨vc,vo,vx,vs,l,H.rh,H.ca,fun b z=>H.farr b (hx b z),fun b z=>H.farc b (hx b z),H.kept.size,fun b z=>H.kept.blk b (hx b z)⟩
section
variable {s:Nat} {Z:Nat->Prop} {wx w0 w:World}
theorem RR.topB (H:RR s Z wx w0 g w h (k::L)) (hZ:∀b,Y b->∃cs t,w.heap[b]?=some (.cells cs t (0,0))/\(t=94∨t=100)) (SU:∀b,Y b->mh k.a k.vs b):RX s (fun b=>kY L Z b∨Y b) w w0 g w h (jH (k::L)) k.a k.c:=by
 obtain ⟨vc,vo,vx,R,⟨hc,hf,hl⟩,z1,z2,K⟩:=H
 obtain ⟨n,D,F⟩:=R.fld
 have KZ:=hl.kz K
 refine ⟨vc,vo,vx,k.vs,k.l,R,hc,?_,?_,Nat.le_refl _,fun b hx=>⟨?_,rfl⟩⟩
 ·rintro b ((hx|hx)|hx)
  ·obtain ⟨y,-,hk,hy⟩:=hl.blks hx
   exact hy.farK R hk
  ·exact z1 b hx
  ·obtain ⟨cs,t,hB,ht⟩:=hZ b hx
   refine ⟨dN hB R.run ?_,dN hB R.hp ?_,iC hB F.own,bc R.calls hB ?_,bc R.obs hB ?_,bc R.out hB ?_⟩<;>rcases ht with rfl|rfl<;>decide
 ·rintro b ((hx|hx)|hx)
  ·exact hf b hx
  ·exact z2 b hx k List.mem_cons_self
  ·exact SU b hx
 ·rcases hx with hx|hx
  ·exact (KZ.blk b hx).1
  ·obtain ⟨cs,t,hB,ht⟩:=hZ b hx
   exact af hB
theorem RR.topD {w1:World} {h1:Hp} {k2:Kl} (H:RR s Z wx w0 g w h (k::k2::L)) (H1:RR s Z wx w0 g w1 h1 (k2::L)) {cs:Array Value} (hB:w1.heap[w.heap.size]?=some (.cells cs 100 (0,0))) (hk:∀b,k.own b->w1.heap[b]?=w.heap[b]?):RX s (fun b=>kY L Z b∨(b=w.heap.size∨k.own b)) w1 w0 g w1 h1 (jH (k2::L)) k2.a k2.c:=by
 obtain ⟨vc,vo,vx,R,⟨hc,hf,hl⟩,z1,z2,K⟩:=H
 refine H1.topB ?_ ?_
 ·rintro b (rfl|hb)
  ·exact ⟨_,_,hB,Or.inr rfl⟩
  ·obtain ⟨-,cs,t,e,ht⟩:=hc.blks hb
   exact ⟨cs,t,(hk b hb).trans e,ht⟩
 ·have hlt:∀b,k2.own b->b<w.heap.size:=fun b hb=>hl.lt ⟨k2,List.mem_cons_self,hb⟩
  have hn:∀b,k2.own b->¬k.own b:=fun b hb hz=>by
   have:=hf b ⟨k2,List.mem_cons_self,hb⟩
   rcases hz with z|z|z
   ·exact this.q z
   ·exact this.l z
   ·exact this.s z
  rintro b (rfl|hb)
  ·exact ⟨fun e=>Nat.lt_irrefl _ (hlt _ (Or.inl e)),fun e=>Nat.lt_irrefl _ (hlt _ (Or.inr (Or.inl e))),fun e=>Nat.lt_irrefl _ (hlt _ (Or.inr (Or.inr e)))⟩
  ·exact ⟨fun e=>hn b (Or.inl e) hb,fun e=>hn b (Or.inr (Or.inl e)) hb,fun e=>hn b (Or.inr (Or.inr e)) hb⟩
end
theorem RX.keptB {X:Nat->Prop} {qs:List Nat} {a:Mc} {c:aH} (H:RX s X wx w0 g w h qs a c) (hb:X b):w.heap[b]?=wx.heap[b]?:=by
 obtain ⟨vc,vo,vx,vs,l,H⟩:=H
 exact (H.kept.blk b hb).2
theorem RR.c3 (H:RR s Z wx w0 g w h (k::L)):∃gb cap,w.cell? ⟨g.r,3,none⟩=some (.slice (some ⟨gb,0,none⟩) (L.length+1) cap):=by
 obtain ⟨vc,vo,vx,R,-⟩:=H
 have hk:=R.calls
 rw [gD] at hk
 have e1:(jH L++[k.a.q]).length=(jH L).length+1:=by simp
 have e2:(jH L).length=L.length:=by simp [jH]
 rw [e1] at hk
 obtain ⟨gb,cap,e,-⟩:=oG hk
 refine ⟨gb,cap,?_⟩
 rw [aa R.run,<-e2,<-e]
 rfl
theorem pg (s:Nat) (Z:Nat->Prop) (wx w0:World) (g:Mg) (h:Hp) (k k2:Kl) (L:List Kl) (v:Va) (w:World) (H:RR s Z wx w0 g w h (k::k2::L)) (hlen:L.length<=100) (c2:aH) (E:Ending) (hE:E=.returned (.tuple #[])∨E=aV 6 0 0) (Ku:∀X wx w,RX s X wx w0 g w h (jH (k2::L)) k2.a k2.c->Calls Tryz.prog 41 #[.pointer (some ⟨k2.a.q,0,none⟩),cn (im v)] w fun e w'=>e=E/\RX s X wx w0 g w' h (jH (k2::L)) k2.a c2) :
  Calls Tryz.prog 92 #[.pointer (some ⟨g.r,0,none⟩),cn (im v)] w fun e w'=>e=E/\(∃vs l,RR s Z wx w0 g w' h (⟨k2.a,c2,vs,l⟩::L))/\∀b,k.own b->w'.heap[b]?=w.heap[b]?:=by
 have HH:=ab H
 have HB:Hid (Bl w (w.alloc (.cells #[int i64 (im v).kind,int i64 (im v).n] 100))):=(Bl.refl w).alloc _
 have HQ:=ab (aD w #[int i64 (im v).kind,int i64 (im v).n] 100)
 have HK:=ab Ku
 have Pf:=fun a b c w=>zj a b c w
 have hr:g.r<w.heap.size:=by obtain ⟨vc,vo,vx,R,-⟩:=H;exact af R.run
 have sj:((L.length:Int)+1==0)=false:=by simp;omega
 clear H Ku
 rcases hE with rfl|rfl
 ·go_enter Tryz.func92,Tryz.ntmps92
  go_wp2_with (go_at_call 147;refine (nX s _ _ w0 g h (jH (k2::L)) k.a.q _ (HH.out.hxB HB.out)).mono ?_;rintro e w1 ⟨rfl,H1⟩;have HD:=ab (HH.out.drops HB.out H1);clear H1;have mN:=ab ((HD.out.2.1 w.heap.size (Nat.le_refl _) (cX w _)).trans HQ.out);have n0:=ab (aK mN.out);have n1:=ab (aI mN.out);have HR:=ab HD.out.1;have SV:=ab HR.out.hx;have Pw:=ab HD.out.2.2;have SW:=ab (HH.out.topD HR.out mN.out Pw.out);clear HD;obtain ⟨gb,cap,hrc⟩:=HR.out.c3)
  refine wp_region_held_drew (S:=fun w'=>w'.cell? ⟨w.heap.size,0,none⟩=some (int i64 (im v).kind)/\w'.cell? ⟨w.heap.size,1,none⟩=some (int i64 (im v).n)) (by kernel_rfl) ?_ (fun ae=>?_)
  ·exact ⟨n0.out,n1.out⟩
  iterate 2 (refine tn rfl (by kernel_rfl) (fun _ _ _ h=>h) (by intro _ h;go_split_ands;go_simp<;>with_reducible rfl) ae ?_;try simp only [aS,aN,aT,a0,a1])
  refine bI (i:=1) (by kernel_rfl) rfl fun K hK=>?_
  go_simp
  go_at_call 148
  refine (kP s (kY (k2::L) Z) w1 w0 g h (jH L) k2.a.q _ (by rw [<-gD];exact SV.out.bl (Bl.refl _).drew)).mono ?_
  rintro e w2 ⟨rfl,b2⟩
  have d0:=ab (b2.cell (w':=w2) n0.out)
  have d1:=ab (b2.cell (w':=w2) n1.out)
  replace b2:=ab b2
  unfold fD
  go_wp2_with fail
  refine hK.out _ _ (⟨d0.out,d1.out⟩) (fun ah=>?_)
  try simp only [aS,aN,aT,a0,a1]
  refine tn rfl (by kernel_rfl) (fun _ _ _ h=>h) (by intro _ h;go_split_ands;go_simp<;>with_reducible rfl) ah ?_
  try simp only [aS,aN,aT,a0,a1]
  refine bI (i:=4) (by kernel_rfl) rfl fun K hK=>?_
  go_simp
  go_at_call 41
  refine (SW.out.y.useY ((Bl.refl w1).drew.trans b2.out) HK.out).mono ?_
  rintro e w3 ⟨rfl,H3,K3⟩
  have xY:=ab (HR.out.of (H3.x.sub (fun b z=>Or.inl z)))
  have SX:=(H3.x.keptB (Or.inr (Or.inl rfl))).trans mN.out
  have M9:=ab (fun b (z:k.own b)=>(H3.x.keptB (Or.inr (Or.inr z))).trans (Pw.out b z))
  have j0:=ab (aK SX)
  have j1:=ab (aI SX)
  clear H3 K3 SX
  go_wp2_with fail
  refine hK.out _ _ (⟨j0.out,j1.out⟩) (fun aX=>?_)
  try simp only [aS,aN,aT,a0,a1]
  refine wpAnyH_done (by kernel_rfl) ?_ _
  go_wp2
  go_end0
  exact ⟨rfl,xY.out,M9.out⟩
 ·go_enter Tryz.func92,Tryz.ntmps92
  go_wp2_with (go_at_call 147;refine (nX s _ _ w0 g h (jH (k2::L)) k.a.q _ (HH.out.hxB HB.out)).mono ?_;rintro e w1 ⟨rfl,H1⟩;have HD:=ab (HH.out.drops HB.out H1);clear H1;have mN:=ab ((HD.out.2.1 w.heap.size (Nat.le_refl _) (cX w _)).trans HQ.out);have n0:=ab (aK mN.out);have n1:=ab (aI mN.out);have HR:=ab HD.out.1;have SV:=ab HR.out.hx;have Pw:=ab HD.out.2.2;have SW:=ab (HH.out.topD HR.out mN.out Pw.out);clear HD;obtain ⟨gb,cap,hrc⟩:=HR.out.c3)
  refine wp_region_held_drew (S:=fun w'=>w'.cell? ⟨w.heap.size,0,none⟩=some (int i64 (im v).kind)/\w'.cell? ⟨w.heap.size,1,none⟩=some (int i64 (im v).n)) (by kernel_rfl) ?_ (fun ae=>?_)
  ·exact ⟨n0.out,n1.out⟩
  iterate 2 (refine tn rfl (by kernel_rfl) (fun _ _ _ h=>h) (by intro _ h;go_split_ands;go_simp<;>with_reducible rfl) ae ?_;try simp only [aS,aN,aT,a0,a1])
  refine bI (i:=1) (by kernel_rfl) rfl fun K hK=>?_
  go_simp
  go_at_call 148
  refine (kP s (kY (k2::L) Z) w1 w0 g h (jH L) k2.a.q _ (by rw [<-gD];exact SV.out.bl (Bl.refl _).drew)).mono ?_
  rintro e w2 ⟨rfl,b2⟩
  have d0:=ab (b2.cell (w':=w2) n0.out)
  have d1:=ab (b2.cell (w':=w2) n1.out)
  replace b2:=ab b2
  unfold fD
  go_wp2_with fail
  refine hK.out _ _ (⟨d0.out,d1.out⟩) (fun ah=>?_)
  try simp only [aS,aN,aT,a0,a1]
  refine tn rfl (by kernel_rfl) (fun _ _ _ h=>h) (by intro _ h;go_split_ands;go_simp<;>with_reducible rfl) ah ?_
  try simp only [aS,aN,aT,a0,a1]
  refine bI (i:=4) (by kernel_rfl) rfl fun K hK=>?_
  go_simp
  go_at_call 41
  refine (SW.out.y.useY ((Bl.refl w1).drew.trans b2.out) HK.out).mono ?_
  rintro e w3 ⟨rfl,H3,K3⟩
  exact ⟨rfl,rfl,HR.out.of (H3.x.sub (fun b z=>Or.inl z)),fun b (z:k.own b)=>(H3.x.keptB (Or.inr (Or.inr z))).trans (Pw.out b z)⟩
end
theorem Cu {base:Nat} {e:TypeId} {vs:Value} {xs:List Value} (h:w.ownsRow base e 3 vs 0 xs):∃A cap,vs=.slice A 0 cap:=by
 rcases h.2 with ⟨rfl,h0⟩|⟨gb,cap,cur,rfl,hg,hh,hn,mJ,hsz,nI⟩
 ·exact ⟨_,_,rfl⟩
 ·exact ⟨_,_,rfl⟩
theorem RR.c3n (H:RR s Z wx w0 g w h []):∃A cap,w.cell? ⟨g.r,3,none⟩=some (.slice A 0 cap):=by
 obtain ⟨vc,vo,vx,R,-⟩:=H
 obtain ⟨A,cap,e⟩:=Cu R.calls
 refine ⟨A,cap,?_⟩
 rw [aa R.run,<-e]
 rfl
theorem xF (s:Nat) (Z:Nat->Prop) (wx w0:World) (g:Mg) (h:Hp) (k:Kl) (v:Va) (w:World) (H:RR s Z wx w0 g w h [k]) :
  Calls Tryz.prog 92 #[.pointer (some ⟨g.r,0,none⟩),cn (im v)] w fun e w'=>e=aV 1 (im v).kind (im v).n/\RR s Z wx w0 g w' h []:=by
 have HH:=ab H
 have HB:Hid (Bl w (w.alloc (.cells #[int i64 (im v).kind,int i64 (im v).n] 100))):=(Bl.refl w).alloc _
 have HQ:=ab (aD w #[int i64 (im v).kind,int i64 (im v).n] 100)
 have hr:g.r<w.heap.size:=by obtain ⟨vc,vo,vx,R,-⟩:=H;exact af R.run
 clear H
 go_enter Tryz.func92,Tryz.ntmps92
 go_wp2_with (go_at_call 147;refine (nX s _ _ w0 g h (jH []) k.a.q _ (HH.out.hxB HB.out)).mono ?_;rintro e w1 ⟨rfl,H1⟩;have HD:=ab (HH.out.drops HB.out H1);clear H1;have mN:=(HD.out.2.1 w.heap.size (Nat.le_refl _) (cX w _)).trans HQ.out;have n0:=aK mN;have n1:=aI mN;have HR:=ab HD.out.1;clear HD mN;obtain ⟨A,cap,hrc⟩:=HR.out.c3n)
 exact ⟨rfl,rfl,HR.out⟩
theorem RR.bl (H:RR s Z wx w0 g w h L) (hb:Bl w w'):RR s Z wx w0 g w' h L:=H.ofx (H.hx.bl hb)
theorem GC (hb:h.stepB=true):h.step={ h with sh:={ h.sh with steps:=h.sh.steps+1 } }:=by
 unfold Hp.stepB at hb
 simp at hb
 unfold Hp.step
 rw [if_neg (by rw [hb.1];decide),if_neg (by omega)]
section
variable {s:Nat} {X:Nat->Prop} {wx w0 w:World} {g:Mg} {h:Hp} {qs:List Nat}
theorem HX.sets (H:HX s X wx w0 g w h qs) (hb:h.stepB=true):HX (s+1) X wx w0 g (w.setCell ⟨g.r,6,none⟩ (int i64 (h.sh.steps+1))) h.step qs:=by
 obtain ⟨vc,vo,vx,R,hf,hK⟩:=H
 have hg:=cQ (w:=w) g.r 6 (int i64 (h.sh.steps+1))
 obtain ⟨n,D,F⟩:=R.fld
 have Ha:g.r≠g.mp:=iC R.run F.own
 rw [GC hb]
 refine ⟨vc,vo,vx,⟨R.ownr,R.ownh,R.ownm,Below.grown R.bl hg R.bl.size (fun k hk=>by cases hk;exact R.ownr),?_,?_,?_,?_,?_,n,D,?_,?_,F.hit,F.miss,F.new,F.ks,F.kd⟩,hf,hK.kept hg (fun b e hx=>?_)⟩
 ·rw [ax R.run];rfl
 ·exact au hg R.hp (fun e=>dN R.run R.hp (by decide) (Option.some.inj e))
 ·exact R.out.kept hg (Or.inr (bc R.out R.run (by decide)))
 ·exact R.obs.kept hg (Or.inr (bc R.obs R.run (by decide)))
 ·exact R.calls.kept hg (Or.inr (bc R.calls R.run (by decide)))
 ·exact F.own.kept hg (fun e=>Ha (Option.some.inj e.symm))
 ·have:=F.few
  show (n:Int)+((s+1:Nat):Int)<=h.sh.steps+1
  omega
 ·cases e;exact (hf g.r hx).r rfl
theorem HX.c56 (H:HX s X wx w0 g w h qs):w.cell? ⟨g.r,5,none⟩=some (int i64 h.fuel)/\w.cell? ⟨g.r,6,none⟩=some (int i64 h.sh.steps)/\(∀i,w.frozen? ⟨g.r,i,none⟩=false):=by
 obtain ⟨vc,vo,vx,R,-,-⟩:=H
 exact ⟨R.runCells.2.2.2.2.2.1,R.runCells.2.2.2.2.2.2.1,ay R.run⟩
end
theorem xG (a b c:Value) (w:World):(Instr.field 85 (.agg #[a,b,c]) 0).run Tryz.prog w=.ok a w:=by
 simp [Instr.field,go_sem,Tryz.underlying85,run_underlying Tryz.underlying85,asAgg]
section
variable (s:Nat) (Z:Nat->Prop) (wx w0:World) (g:Mg) (h:Hp)
theorem C4 (L:List Kl) (w:World) (H:RR s Z wx w0 g w h L) (hb:h.fuel<=h.sh.steps) :
  Calls Tryz.prog 105 #[.pointer (some ⟨g.r,0,none⟩)] w fun e w'=>e=aV 0 0 0/\RR s Z wx w0 g w' h L:=by
 have HH:=ab H
 obtain ⟨c5,c6,fz⟩:=H.hx.c56
 clear H
 go_enter Tryz.func105,Tryz.ntmps105
 go_wp2
 go_quiet (fail)
 go_wp2_with (go_at_call 99;refine (ku 0 _).mono ?_;rintro e w1 ⟨rfl,hw⟩;rw [hw];clear hw w1)
 exact ⟨rfl,rfl,HH.out.bl (aR (Bl.refl w) _)⟩
theorem tV (k:Kl) (L:List Kl) (w:World) (H:RR s Z wx w0 g w h (k::L)) (hb:h.stepB=true) (hlim:0<=h.sh.steps/\h.sh.steps<1000000) (E:Ending) (Q':World->Prop) (hE:E=.returned (.tuple #[])∨∃ch,E=.panicked ch) (UJ:∀w,RR (s+1) Z wx w0 g w h.step (k::L)->Calls Tryz.prog 40 #[.pointer (some ⟨k.a.q,0,none⟩)] w fun e w'=>e=E/\Q' w') :
  Calls Tryz.prog 105 #[.pointer (some ⟨g.r,0,none⟩)] w fun e w'=>e=E/\Q' w':=by
 have HH:=ab H
 have HB:=ab hb
 have UK:=ab UJ
 obtain ⟨c5,c6,fz⟩:=H.hx.c56
 have hst:¬h.fuel<=h.sh.steps:=by unfold Hp.stepB at hb;simp at hb;omega
 have Pf:=fun a b c w=>xG a b c w
 clear H hb UJ
 have HS:Hid (∀n,RR (s+1) Z wx w0 g ((w.drewN n).setCell ⟨g.r,6,none⟩ (int i64 (h.sh.steps+1))) h.step (k::L)):=fun n=>by
  have H1:=HH.out.bl (aR (Bl.refl w) n)
  obtain ⟨vc,vo,vx,R,hl,z1,z2,K⟩:=H1
  exact RR.ofx ⟨vc,vo,vx,R,hl,z1,z2,K⟩ (HX.sets (RR.hx ⟨vc,vo,vx,R,hl,z1,z2,K⟩) HB.out)
 rcases hE with rfl|⟨ch,rfl⟩
 ·go_enter Tryz.func105,Tryz.ntmps105
  go_wp2
  go_quiet (fail)
  go_wp2_with (first
   | (go_at_call 148;refine (kP (s+1) (kY (k::L) Z) _ w0 g h.step (jH L) k.a.q _ (by rw [<-gD];exact (HS.out _).hx)).mono ?_;rintro e w1 ⟨rfl,b1⟩;have ea:=ab ((HS.out _).bl b1);unfold fD;clear b1)
   | (go_at_call 40;refine (UK.out _ ea.out).mono ?_;rintro e w2 ⟨rfl,hq⟩;replace hq:=ab hq))
  go_end0
  exact ⟨rfl,hq.out⟩
 ·go_enter Tryz.func105,Tryz.ntmps105
  go_wp2
  go_quiet (fail)
  go_wp2_with (first
   | (go_at_call 148;refine (kP (s+1) (kY (k::L) Z) _ w0 g h.step (jH L) k.a.q _ (by rw [<-gD];exact (HS.out _).hx)).mono ?_;rintro e w1 ⟨rfl,b1⟩;have ea:=ab ((HS.out _).bl b1);unfold fD;clear b1)
   | (go_at_call 40;refine (UK.out _ ea.out).mono ?_;rintro e w2 ⟨rfl,hq⟩;replace hq:=ab hq))
  exact ⟨rfl,rfl,hq.out⟩
end
theorem zk (L:List Kl):(jH L).length=L.length:=by simp [jH]
theorem RR.push (H:RR s Z wx w0 g w h L) {m:Me} {N:Nat} {vs:List Va} {q lb:Nat} {P C J:Option Addr} {p c k:Nat} (D:Laid s (kY L Z) w w0 g h (jH L) m N (vs.map im) w q lb P C J p c k w') (hN:m.locs=(N:Int)) (QD:N<=1000) (mV:aQ vs<=N) (hk:∀v∈vs,1<=v.kind/\v.kind<=3) :
  RR s Z wx w0 g w' h (⟨⟨q,lb,N,P,p,C,c,J,k⟩,bS m vs,.slice none 0 0,eX (List.replicate N ag) 0 (vs.map im)⟩::L):=by
 obtain ⟨vc,vo,vx,R,hl,z1,z2,K⟩:=H
 obtain ⟨rK,vz,vA,R',f,K'⟩:=D.hx
 have mj:=R.bl.size
 have e0:m.locs.toNat=N:=by omega
 have hlen:(dT (List.replicate m.locs.toNat ag) 0 vs).length=N:=by rw [pd,e0];simp
 have hno:∀b,b<w.heap.size->mh ⟨q,lb,N,P,p,C,c,J,k⟩ (.slice none 0 0) b:=fun b hb=>by
  have:=D.ownq;have:=D.ownl
  exact ⟨by show b≠q;omega,by show b≠lb;omega,fun e=>by simp [Value.ownBlock] at e⟩
 have qN:jH (⟨⟨q,lb,N,P,p,C,c,J,k⟩,bS m vs,.slice none 0 0,eX (List.replicate N ag) 0 (vs.map im)⟩::L)=jH L++[q]:=by simp [jH]
 refine ⟨rK,vz,vA,by rw [qN];exact R',⟨⟨?_,?_,?_,D.loc.blk,?_,?_,fun e=>by simp [Value.ownBlock] at e,D.me,?_,fun v hv=>by cases hv⟩,fun b hb=>hno b (hl.lt hb),hl.same (fun b hb=>(K'.blk b (Or.inl hb)).2)⟩,fun b hb=>f b (Or.inr hb),fun b hb y hy=>?_,K.then K' (fun b hb=>Or.inr hb)⟩
 ·have:=D.ownq;show w0.heap.size<=q;omega
 ·have:=D.ownl;show w0.heap.size<=lb;omega
 ·have:=D.blk
  unfold newRow at this
  unfold nH
  show w'.heap[q]?=some (.cells #[.pointer (some ⟨g.hb,0,none⟩),.pointer (some ⟨g.r,0,none⟩),.slice P m.params.length p,int i64 m.ret.kind,int i64 m.ret.cls,int i64 m.stack,int i64 m.locs,int i64 m.regs,.slice C m.code.length c,.slice J m.hands.length k,int i64 0,.slice (some ⟨lb,0,none⟩) (dT (List.replicate m.locs.toNat ag) 0 vs).length N,.slice none 0 0] 94 (0,0))
  rw [hlen]
  exact this
 ·show mI (dT (List.replicate m.locs.toNat ag) 0 vs) _
  rw [e0]
  exact xD vs _ _ 0 (mI.new N) hk (by simp;exact mV)
 ·exact ⟨rfl,Or.inl ⟨rfl,rfl⟩⟩
 ·show (dT (List.replicate m.locs.toNat ag) 0 vs).length<=1000
  rw [hlen];exact QD
 ·rcases List.mem_cons.1 hy with rfl|hy
  ·exact hno b (Nat.lt_of_lt_of_le (K.blk b hb).1 K.size)
  ·exact z2 b hb y hy
theorem lP.mem:∀{L:List Kl},lP w0 g w L->∀{y:Kl},y∈L->CA w0 g w y.a y.c y.l y.vs
 | [],_,_,hy=>by cases hy
 | k::L,H,y,hy=>by
  rcases List.mem_cons.1 hy with rfl|hy
  ·exact H.1
  ·exact lP.mem H.2.2 hy
theorem RR.wide (H:RR s Z wx w0 g w h L) (hb:Bl w w'):RR s (Xp Z w.heap.size w'.heap.size) w' w0 g w' h L:=by
 obtain ⟨vc,vo,vx,R,hl,z1,z2,K⟩:=H
 have hsz:=hb.size
 refine ⟨vc,vo,vx,R.kept (dy hb none) (fun b e=>by cases e),hl.same (fun b ho=>hb.block b (hl.lt ho)),fun b hx=>?_,fun b hx y hy=>?_,Nat.le_refl _,fun b hx=>⟨?_,rfl⟩⟩
 ·rcases hx with hx|hx
  ·exact z1 b hx
  ·exact R.farNew hx.1
 ·rcases hx with hx|hx
  ·exact z2 b hx y hy
  ·exact (hl.mem hy).farNew hx.1
 ·rcases hx with hx|hx
  ·have:=(K.blk b hx).1;have:=K.size;omega
  ·exact hx.2
theorem RR.back {s':Nat} {w2:World} {h':Hp} {L':List Kl} (H:RR s Z wx w0 g w h L) (hb:Bl w w') (H2:RR s' (Xp Z w.heap.size w'.heap.size) w' w0 g w2 h' L'):RR s' Z wx w0 g w2 h' L':=by
 obtain ⟨vc,vo,vx,R,hl,z1,z2,K⟩:=H
 obtain ⟨rK,vz,vA,R',zT,QE,QF,K'⟩:=H2
 refine ⟨rK,vz,vA,R',zT,fun b hx=>QE b (Or.inl hx),fun b hx=>QF b (Or.inl hx),Nat.le_trans K.size (Nat.le_trans hb.size K'.size),fun b hx=>⟨(K.blk b hx).1,?_⟩⟩
 have h1:=(K.blk b hx).1
 have h2:=K.size
 rw [(K'.blk b (Or.inl hx)).2,hb.block b (by omega)]
 exact (K.blk b hx).2
theorem RR.own {w':World} {n:Nat} (H:RR s (Xp Z n wx.heap.size) wx w0 g w h L) (hb:n<=b) {o:Obj} (ho:wx.heap[b]?=some o):w.heap[b]?=some o:=by
 obtain ⟨vc,vo,vx,R,hl,z1,z2,K⟩:=H
 rw [(K.blk b (Or.inr ⟨hb,af ho⟩)).2];exact ho
section
variable (s:Nat) (Z:Nat->Prop) (wx w0:World) (g:Mg) (h:Hp)
theorem AE (L:List Kl) (w:World) (H:RR s Z wx w0 g w h L) (i:Nat) (m:Me) (N b cap:Nat) (vs:List Va) (hq:L.length<20) (hi:i<h.file.methods.length) (hm:nth bO h.file.methods i=m) (hM:eE w0 g.M h.file.methods) (hN:m.locs=(N:Int)) (QD:N<=1000) (B:cu w b (vs.map im)) (mV:aQ vs<=N) (hk:∀v∈vs,1<=v.kind/\v.kind<=3) :
  Calls Tryz.prog 45 #[.pointer (some ⟨g.r,0,none⟩),int i64 (i:Int),.slice (some ⟨b,0,none⟩) vs.length cap] w fun e w'=>e=.returned (.tuple #[])/\∃k2:Kl,k2.c=bS m vs/\RR s Z wx w0 g w' h (k2::L):=by
 have hc:=xE s (kY L Z) w w0 g h (jH L) i m N b cap (vs.map im) w H.hx (by rw [zk];exact hq) hi hm hM hN B QD (by rw [Gw];exact mV) (fun v hv=>by
  obtain ⟨u,hu,rfl⟩:=List.mem_map.1 hv
  exact hk u hu)
 rw [List.length_map] at hc
 refine hc.mono ?_
 rintro e w' ⟨rfl,q,lb,P,C,J,p,c,k,D⟩
 exact ⟨rfl,_,rfl,H.push D hN QD mV hk⟩
theorem C5 (k:Kl) (L:List Kl) (w:World) (H:RR s Z wx w0 g w h (k::L)) (i:Int) (v:Value) (hq:20<=(k::L).length) (qN:(k::L).length<=1000) :
  Calls Tryz.prog 45 #[.pointer (some ⟨g.r,0,none⟩),int i64 i,v] w fun e w'=>e=aV 5 0 0/\RR s Z wx w0 g w' h (k::L):=by
 have HH:=ab H
 obtain ⟨gb,cap,c3⟩:=H.c3
 simp only [List.length_cons] at hq qN
 obtain ⟨n,hn⟩:∃n,L.length+1=n:=⟨_,rfl⟩
 have YS:w.cell? ⟨g.r,3,none⟩=some (.slice (some ⟨gb,0,none⟩) n cap):=by rw [<-hn];exact c3
 have n0:(20:Int)<=(n:Int):=by omega
 have n1:(n:Int)<=1000:=by omega
 clear H c3 hn hq qN
 go_enter Tryz.func45,Tryz.ntmps45
 go_wp2_with (go_at_call 99;refine (ku 5 _).mono ?_;rintro e w1 ⟨rfl,hw⟩;rw [hw];clear hw w1)
 exact ⟨rfl,rfl,HH.out⟩
end
section
variable (Z:Nat->Prop) (wx w0:World) (g:Mg) (h:Hp) (k:Kl) (L:List Kl) (w:World)
theorem GD (H:RR 1 Z wx w0 g w h (k::L)) (F:Fix w0 g h) (hf:h.objs.length<=100) (A:Option Addr) (cap:Nat) (ts:List Ty) (hT:dp w0 A ts) (h4:ts.length<=4) (hg:∀v∈k.c.stk,v.kind=3->-1<=v.n/\v.n<h.objs.length) (l vs:List Va) (hs:k.c.stk=l++vs) (hl:vs.length=ts.length) (ho:sw h vs ts) :
  Calls Tryz.prog 91 #[.pointer (some ⟨k.a.q,0,none⟩),.slice A ts.length cap] w fun e w'=>∃b,e=.returned (.slice (some ⟨b,0,none⟩) ts.length ts.length)/\cu w' b (vs.map im)/\∃il l',RR 1 Z wx w0 g w' h (⟨k.a,{ k.c with stk:=l },il,l'⟩::L):=by
 refine (mD 1 (kY L Z) w w0 g h (jH (k::L)) k.a k.c A cap ts w H.top F hf hT h4 hg).mono ?_
 rintro e w' (⟨l2,xW,e1,e2,e3,e4,e5,e6⟩|⟨e1,-⟩)
 ·obtain ⟨rfl,rfl⟩:=og (hs.symm.trans e1) (hl.trans e2.symm)
  exact ⟨_,e4,e6,H.of e5.x⟩
 ·exact (e1 l vs hs hl ho).elim
theorem xH (H:RR 1 Z wx w0 g w h (k::L)) (F:Fix w0 g h) (hf:h.objs.length<=100) (A:Option Addr) (cap:Nat) (ts:List Ty) (hT:dp w0 A ts) (h4:ts.length<=4) (hg:∀v∈k.c.stk,v.kind=3->-1<=v.n/\v.n<h.objs.length) (hn:∀l vs,k.c.stk=l++vs->vs.length=ts.length->sw h vs ts->False) :
  Calls Tryz.prog 91 #[.pointer (some ⟨k.a.q,0,none⟩),.slice A ts.length cap] w fun e w'=>e=aV 6 0 0/\∃k':Kl,k'.a=k.a/\k'.c.m=k.c.m/\k'.c.pc=k.c.pc/\RR 1 Z wx w0 g w' h (k'::L):=by
 refine (mD 1 (kY L Z) w w0 g h (jH (k::L)) k.a k.c A cap ts w H.top F hf hT h4 hg).mono ?_
 rintro e w' (⟨l2,xW,e1,e2,e3,e4,e5,e6⟩|⟨e1,e2,c',d1,d2,e3⟩)
 ·exact (hn l2 xW e1 e2 e3).elim
 ·obtain ⟨il,l',H'⟩:=H.of e3
  exact ⟨e2,⟨k.a,c',il,l'⟩,rfl,d1,d2.1,H'⟩
end
section
variable {s:Nat} {Z:Nat->Prop} {wx w0 w:World} {g:Mg} {h:Hp} {L:List Kl}
theorem RR.heap (H:RR s Z wx w0 g w h L) (c t:Int):RR s Z wx w0 g w { h with calls:=c,thrown:=t } L:=by
 obtain ⟨vc,vo,vx,R,hl,z1,z2,K⟩:=H
 obtain ⟨n,D,F⟩:=R.fld
 exact ⟨vc,vo,vx,⟨R.ownr,R.ownh,R.ownm,R.bl,R.run,R.hp,R.out,R.obs,R.calls,n,D,F.own,F.few,F.hit,F.miss,F.new,F.ks,F.kd⟩,hl,z1,z2,K⟩
theorem RR.leave (H:RR s Z wx w0 g w h L):RR s Z wx w0 g w h.leave L:=H.heap (h.calls-1) h.thrown
theorem RR.caught (H:RR s Z wx w0 g w h L):RR s Z wx w0 g w { h with thrown:=-1 } L:=H.heap h.calls (-1)
end
theorem Fix.leave (F:Fix w0 g h):Fix w0 g h.leave:=⟨F.cls,F.mes,F.inp,F.may⟩
def Nh (r:Nat) (w:World):Nat:=match w.cell? ⟨r,3,none⟩ with
 | some (.slice _ n _)=>n
 | _=>0
theorem AF (H:RR s Z wx w0 g w h L):Nh g.r w=L.length:=by
 unfold Nh
 cases L with
 | nil=>obtain ⟨A,cap,e⟩:=H.c3n;rw [e];rfl
 | cons k L=>obtain ⟨gb,cap,e⟩:=H.c3;rw [e];rfl
theorem xI (a b c:Value) (w:World):(Instr.field 85 (.agg #[a,b,c]) 2).run Tryz.prog w=.ok c w:=by
 simp [Instr.field,go_sem,Tryz.underlying85,run_underlying Tryz.underlying85,asAgg]
def gU (c:aH):Prop:=(∀q,q<c.m.hands.length->0<=(nth eD c.m.hands q).fr/\(nth eD c.m.hands q).til<=1000/\0<=(nth eD c.m.hands q).til/\0<=(nth eD c.m.hands q).pc)/\0<=c.pc/\c.pc<=1000
section
variable {s:Nat} {Z:Nat->Prop} {W w0 w':World} {g:Mg} {h:Hp} {L:List Kl} {n:Nat} {k m:Int}
theorem tW (H:RR s (Xp Z n W.heap.size) W w0 g w' h L) (hb:W.heap[n]?=some (.cells #[int i64 k,int i64 m] 100 (0,0))) :
  w'.cell? ⟨n,0,none⟩=some (int i64 k)/\w'.cell? ⟨n,1,none⟩=some (int i64 m):=by
 have:=H.own (w':=W) (Nat.le_refl _) hb
 exact ⟨aK this,aI this⟩
theorem s4 (H:RR s (Xp Z n W.heap.size) W w0 g w' h L) (hb:W.heap[n]?=some (.cells #[int i64 k,int i64 m] 100 (0,0))) :
  w'.cell? ⟨g.r,0,none⟩=some (.pointer (some ⟨g.hb,0,none⟩))/\w'.cell? ⟨n,0,none⟩=some (int i64 k)/\w'.cell? ⟨n,1,none⟩=some (int i64 m):=by
 have:=tW H hb
 obtain ⟨vc,vo,vx,R,-,-,-,-⟩:=H
 exact ⟨by rw [aa R.run];rfl,this.1,this.2⟩
end
def SY (s:Nat) (Z:Nat->Prop) (wx w0:World) (g:Mg) (o:Mo) (e:Ending) (w':World):Prop :=
 (o.fin=false->e=.returned (.tuple #[])/\∃L':List Kl,L'.map (·.c)=o.cs/\RR s Z wx w0 g w' o.h L')/\(o.fin=true->e=aV o.how (im o.v).kind (im o.v).n/\∃L':List Kl,RR s Z wx w0 g w' o.h L')
def UL (s:Nat) (Z:Nat->Prop) (W w0:World) (g:Mg) (h:Hp) (L:List Kl) (wr:World):Prop :=
 ∃(L':List Kl) (h':Hp),unwM h (L.map (·.c))=unwM h' (L'.map (·.c))/\RR s Z W w0 g wr h' L'/\Fix w0 g h'/\h'.objs=h.objs/\h'.thrown=h.thrown/\(∀k∈L',gU k.c)/\L'.length<=1000
theorem unwind_any (s:Nat) (Z:Nat->Prop) (wx w0:World) (g:Mg) (h:Hp) (L:List Kl) (v:Va) (w:World) (H:RR s Z wx w0 g w h L) (F:Fix w0 g h) (hf:h.objs.length<=100) (hv:v.kind=3) (h0:0<=v.n) (hn:v.n<h.objs.length) (ht:h.thrown=v.n) (hok:∀k∈L,gU k.c) (hlen:L.length<=1000) :
  Calls Tryz.prog 107 #[.pointer (some ⟨g.r,0,none⟩),cn (im v)] w fun e w'=>SY s Z wx w0 g (unwM h (L.map (·.c))) e w':=by
 have HV:Hid (v.kind=3/\0<=v.n/\v.n<h.objs.length/\h.thrown=v.n):=⟨hv,h0,hn,ht⟩
 have Xs:=ab hf
 have o5:Hid (Bl w (w.alloc (dL (im v)))):=(Bl.refl w).alloc _
 have jQ:Hid ((w.alloc (dL (im v))).heap[w.heap.size]?=some (.cells #[int i64 (im v).kind,int i64 (im v).n] 100 (0,0))):=aD _ _ _
 have Px:=ab H
 have HS:Hid (UL s (Xp Z w.heap.size (w.alloc (dL (im v))).heap.size) (w.alloc (dL (im v))) w0 g h L (w.alloc (dL (im v)))):=⟨L,h,rfl,H.wide o5.out,F,rfl,rfl,hok,hlen⟩
 have Pf:=xI
 clear H F hf hv h0 hn ht hok hlen
 go_enter Tryz.func107,Tryz.ntmps107
 go_wp2
 go_loopw [] (fun wr=>Hid (UL s (Xp Z w.heap.size (w.alloc (dL (im v))).heap.size) (w.alloc (dL (im v))) w0 g h L wr)) (fun wr=>Nh g.r wr)
 case atStart=>exact HS.out
 case round =>
  clear HS
  obtain ⟨L',h',um,hr,Qd,iD,iX,hok,hlen⟩:=hrel.out
  clear hrel
  have QG:=ab um
  have HR:=ab hr
  have HF:Hid (Fix w0 g h'/\h'.objs.length<=100):=⟨Qd,by rw [iD];exact Xs.out⟩
  have QH:Hid (h'.objs=h.objs):=iD
  have G7:=ab iX
  have Dx:=ab hok
  have om:=ab hlen
  clear um hr Qd iD iX hok
  cases L' with
  | nil =>
   obtain ⟨A,cap,c3⟩:=HR.out.c3n
   clear hlen
   go_wp2
   refine wp_region_held_drew (S:=fun w'=>w'.cell? ⟨g.r,0,none⟩=some (.pointer (some ⟨g.hb,0,none⟩))/\w'.cell? ⟨w.heap.size,0,none⟩=some (int i64 (im v).kind)/\w'.cell? ⟨w.heap.size,1,none⟩=some (int i64 (im v).n)) (by kernel_rfl) ?_ (fun ae=>?_)
   ·exact s4 (HR.out.bl (Bl.refl wr).drew) jQ.out
   iterate 5 (refine tn rfl (by kernel_rfl) (fun _ _ _ h=>h) (by intro _ h;go_split_ands;go_simp<;>with_reducible rfl) ae ?_;try simp only [aS,aN,aT,a0,a1])
   refine bI (i:=5) (by kernel_rfl) rfl fun K hK=>?_
   go_simp
   go_at_call 156
   refine (mL g.hb v HV.out.1 HV.out.2.1 _).mono ?_
   rintro e w2 ⟨rfl,b2⟩
   have jG:=(HR.out.bl (Bl.refl wr).drew).bl b2
   have ho:unwM h (L.map (·.c))=gL 2 ⟨3,h'.thrown⟩ h':=QG.out
   have iX:h'.thrown=v.n:=G7.out.trans HV.out.2.2.2
   refine ⟨rfl,?_⟩
   rw [ho]
   refine ⟨(fun z=>by cases z),fun _=>⟨?_,[],Px.out.back o5.out jG⟩⟩
   show wy v.n=aV 2 3 (if (3:Int)=3 then h'.thrown+1 else h'.thrown)
   rw [if_pos rfl,iX]
  | cons k L2 =>
   obtain ⟨gb,cap,c3⟩:=HR.out.c3
   have C8:=ab (Dx.out k List.mem_cons_self)
   have kg:(0:Int)<((L2.length+1:Nat):Int):=by omega
   have ID:((L2.length+1:Nat):Int)<=1000:=by simp at hlen;omega
   clear hlen
   by_cases hcl:h'.caughtL k.c.pc k.c.m.hands<0
   ·have nu:=ab hcl
    clear hcl
    go_wp2
    refine wp_region_held_drew (S:=fun w'=>w'.cell? ⟨w.heap.size,0,none⟩=some (int i64 (im v).kind)/\w'.cell? ⟨w.heap.size,1,none⟩=some (int i64 (im v).n)) (by kernel_rfl) ?_ (fun ae=>?_)
    ·exact tW (HR.out.bl (Bl.refl wr).drew) jQ.out
    iterate 2 (refine tn rfl (by kernel_rfl) (fun _ _ _ h=>h) (by intro _ h;go_split_ands;go_simp<;>with_reducible rfl) ae ?_;try simp only [aS,aN,aT,a0,a1])
    refine bI (i:=1) (by kernel_rfl) rfl fun K hK=>?_
    go_simp
    go_at_call 148
    refine (kP s _ _ w0 g h' (jH L2) k.a.q _ (by rw [<-gD];exact (HR.out.bl (Bl.refl wr).drew).hx)).mono ?_
    rintro e w1 ⟨rfl,b1⟩
    have ea:=ab ((HR.out.bl (Bl.refl wr).drew).bl b1)
    have s1:=ab (tW ea.out jQ.out)
    clear b1
    unfold fD
    go_wp2_with fail
    refine hK.out _ _ (s1.out) (fun ah=>?_)
    try simp only [aS,aN,aT,a0,a1]
    refine tn rfl (by kernel_rfl) (fun _ _ _ h=>h) (by intro _ h;go_split_ands;go_simp<;>with_reducible rfl) ah ?_
    try simp only [aS,aN,aT,a0,a1]
    refine bI (i:=4) (by kernel_rfl) rfl fun K hK=>?_
    go_simp
    go_at_call 42
    refine (Gr s _ _ w0 g h' _ k.a k.c v _ ea.out.top HF.out.1 HF.out.2 HV.out.1 HV.out.2.1 (by rw [QH.out];exact HV.out.2.2.1) (G7.out.trans HV.out.2.2.2) C8.out.1 C8.out.2 nu.out).mono ?_
    rintro e w2 ⟨rfl,H2⟩
    obtain ⟨xW,l2,jG⟩:=ea.out.of H2
    have s2:=ab (tW jG jQ.out)
    replace jG:=ab jG
    clear H2
    go_wp2_with fail
    refine hK.out _ _ (s2.out) (fun aX=>?_)
    try simp only [aS,aN,aT,a0,a1]
    refine wpAnyH_done (by kernel_rfl) ?_ _
    go_wp2_with (first
     | (go_at_call 147;refine (nX s _ _ w0 g h' (jH L2) k.a.q _ (by have:=(jG.out.hxB (Bl.refl _));exact this)).mono ?_;rintro e w3 ⟨rfl,H3⟩;have xY:=ab (jG.out.drops (Bl.refl _) H3).1;clear H3))
    go_roundw
    case rel =>
     refine ⟨L2,h'.leave,?_,RR.leave xY.out,HF.out.1.leave,QH.out,G7.out,fun k2 mw=>Dx.out k2 (List.mem_cons_of_mem _ mw),by have:=om.out;simp at this;omega⟩
     rw [QG.out]
     exact if_pos nu.out
    case measure =>
     have e1:=AF HR.out
     have e2:=AF xY.out
     simp only [List.length_cons] at e1
     omega
   ·have Py:0<=h'.caughtL k.c.pc k.c.m.hands:=by omega
    have nu:=ab Py
    clear hcl Py
    by_cases Ha:(aQ [v]:Int)<=k.c.m.stack
    ·have Pz:=ab Ha
     clear Ha
     go_wp2
     refine wp_region_held_drew (S:=fun w'=>w'.cell? ⟨w.heap.size,0,none⟩=some (int i64 (im v).kind)/\w'.cell? ⟨w.heap.size,1,none⟩=some (int i64 (im v).n)) (by kernel_rfl) ?_ (fun ae=>?_)
     ·exact tW (HR.out.bl (Bl.refl wr).drew) jQ.out
     iterate 2 (refine tn rfl (by kernel_rfl) (fun _ _ _ h=>h) (by intro _ h;go_split_ands;go_simp<;>with_reducible rfl) ae ?_;try simp only [aS,aN,aT,a0,a1])
     refine bI (i:=1) (by kernel_rfl) rfl fun K hK=>?_
     go_simp
     go_at_call 148
     refine (kP s _ _ w0 g h' (jH L2) k.a.q _ (by rw [<-gD];exact (HR.out.bl (Bl.refl wr).drew).hx)).mono ?_
     rintro e w1 ⟨rfl,b1⟩
     have ea:=ab ((HR.out.bl (Bl.refl wr).drew).bl b1)
     have s1:=ab (tW ea.out jQ.out)
     clear b1
     unfold fD
     go_wp2_with fail
     refine hK.out _ _ (s1.out) (fun ah=>?_)
     try simp only [aS,aN,aT,a0,a1]
     refine tn rfl (by kernel_rfl) (fun _ _ _ h=>h) (by intro _ h;go_split_ands;go_simp<;>with_reducible rfl) ah ?_
     try simp only [aS,aN,aT,a0,a1]
     refine bI (i:=4) (by kernel_rfl) rfl fun K hK=>?_
     go_simp
     go_at_call 42
     refine (CW s _ _ w0 g h' _ k.a k.c v _ ea.out.top HF.out.1 HF.out.2 HV.out.1 HV.out.2.1 (by rw [QH.out];exact HV.out.2.2.1) (G7.out.trans HV.out.2.2.2) C8.out.1 C8.out.2 nu.out Pz.out).mono ?_
     rintro e w2 ⟨rfl,H2⟩
     obtain ⟨xW,l2,jG⟩:=ea.out.of H2
     have s2:=ab (tW jG jQ.out)
     replace jG:=ab jG
     clear H2
     go_wp2_with fail
     refine hK.out _ _ (s2.out) (fun aX=>?_)
     try simp only [aS,aN,aT,a0,a1]
     refine wpAnyH_done (by kernel_rfl) ?_ _
     go_wp2
     go_end0
     have Ix:v=⟨3,h'.thrown⟩:=by rw [G7.out,HV.out.2.2.2];obtain ⟨vk,vn⟩:=v;simp at *;exact HV.out.1
     have ho:unwM h (L.map (·.c))=v8 { h' with thrown:=-1 } ({ k.c with stk:=[v],pc:=h'.caughtL k.c.pc k.c.m.hands }::L2.map (·.c)):=by
      rw [QG.out]
      show unwM h' (k.c::L2.map (·.c))=_
      unfold unwM
      rw [if_neg (by have:=nu.out;omega),if_pos (by rw [<-Ix];exact Pz.out),<-Ix]
     rw [ho]
     exact ⟨fun _=>⟨rfl,_::L2,rfl,RR.caught (Px.out.back o5.out jG.out)⟩,fun z=>by cases z⟩
    ·have Pz:Hid (¬(aQ [v]:Int)<=k.c.m.stack):=Ha
     clear Ha
     go_wp2
     refine wp_region_held_drew (S:=fun w'=>w'.cell? ⟨w.heap.size,0,none⟩=some (int i64 (im v).kind)/\w'.cell? ⟨w.heap.size,1,none⟩=some (int i64 (im v).n)) (by kernel_rfl) ?_ (fun ae=>?_)
     ·exact tW (HR.out.bl (Bl.refl wr).drew) jQ.out
     iterate 2 (refine tn rfl (by kernel_rfl) (fun _ _ _ h=>h) (by intro _ h;go_split_ands;go_simp<;>with_reducible rfl) ae ?_;try simp only [aS,aN,aT,a0,a1])
     refine bI (i:=1) (by kernel_rfl) rfl fun K hK=>?_
     go_simp
     go_at_call 148
     refine (kP s _ _ w0 g h' (jH L2) k.a.q _ (by rw [<-gD];exact (HR.out.bl (Bl.refl wr).drew).hx)).mono ?_
     rintro e w1 ⟨rfl,b1⟩
     have ea:=ab ((HR.out.bl (Bl.refl wr).drew).bl b1)
     have s1:=ab (tW ea.out jQ.out)
     clear b1
     unfold fD
     go_wp2_with fail
     refine hK.out _ _ (s1.out) (fun ah=>?_)
     try simp only [aS,aN,aT,a0,a1]
     refine tn rfl (by kernel_rfl) (fun _ _ _ h=>h) (by intro _ h;go_split_ands;go_simp<;>with_reducible rfl) ah ?_
     try simp only [aS,aN,aT,a0,a1]
     refine bI (i:=4) (by kernel_rfl) rfl fun K hK=>?_
     go_simp
     go_at_call 42
     refine (zg s _ _ w0 g h' _ k.a k.c v _ ea.out.top HF.out.1 HF.out.2 HV.out.1 HV.out.2.1 (by rw [QH.out];exact HV.out.2.2.1) (G7.out.trans HV.out.2.2.2) C8.out.1 C8.out.2 nu.out (by have:=Pz.out;omega)).mono ?_
     rintro e w2 ⟨rfl,c2,d1,d2,H2⟩
     obtain ⟨xW,l2,jG⟩:=ea.out.of H2
     have Ix:v=⟨3,h'.thrown⟩:=by rw [G7.out,HV.out.2.2.2];obtain ⟨vk,vn⟩:=v;simp at *;exact HV.out.1
     have ho:unwM h (L.map (·.c))=gL 6 ag h':=by
      rw [QG.out]
      show unwM h' (k.c::L2.map (·.c))=_
      unfold unwM
      rw [if_neg (by have:=nu.out;omega),if_neg (by rw [<-Ix];have:=Pz.out;omega)]
     refine ⟨rfl,?_⟩
     rw [ho]
     exact ⟨(fun z=>by cases z),fun _=>⟨rfl,_,Px.out.back o5.out jG⟩⟩
def m9 (s:Nat) (Z Y:Nat->Prop) (wx w0:World) (g:Mg) (w:World) (h:Hp) (L:List Kl):Prop :=
 ∃vc vo vx,RH s w0 g w h (jH L) vc vo vx/\lP w0 g w L/\(∀b,Z b->lv g vc vo vx b)/\(∀b,Z b->∀k∈L,mh k.a k.vs b)/\jj Z wx w
  /\ ∀b,Y b->b<w.heap.size/\w0.heap.size<=b/\¬Z b/\lv g vc vo vx b/\∀k∈L,mh k.a k.vs b
section
variable {s:Nat} {Z:Nat->Prop}
theorem RR.y (H:RR s Z wx w0 g w h L):m9 s Z NF wx w0 g w h L:=by
 obtain ⟨vc,vo,vx,R,hl,z1,z2,K⟩:=H
 exact ⟨vc,vo,vx,R,hl,z1,z2,K,fun b hb=>absurd hb (fun x=>x)⟩
theorem m9.x (H:m9 s Z Y wx w0 g w h L):RR s Z wx w0 g w h L:=by
 obtain ⟨vc,vo,vx,R,hl,z1,z2,K,-⟩:=H
 exact ⟨vc,vo,vx,R,hl,z1,z2,K⟩
theorem m9.less {Y':Nat->Prop} (H:m9 s Z Y wx w0 g w h L) (hy:∀b,Y' b->Y b):m9 s Z Y' wx w0 g w h L:=by
 obtain ⟨vc,vo,vx,R,hl,z1,z2,K,F⟩:=H
 exact ⟨vc,vo,vx,R,hl,z1,z2,K,fun b hb=>F b (hy b hb)⟩
theorem m9.bl (H:m9 s Z Y wx w0 g w h L) (hb:Bl w w'):m9 s Z (Xp Y w.heap.size w'.heap.size) wx w0 g w' h L:=by
 obtain ⟨vc,vo,vx,R,hl,z1,z2,K,F⟩:=H
 have hsz:=hb.size
 have h0:=R.bl.size
 refine ⟨vc,vo,vx,R.kept (dy hb none) (fun b e=>by cases e),hl.same (fun b ho=>hb.block b (hl.lt ho)),z1,z2,K.kept (dy hb none) (fun b e=>by cases e),fun b hy=>?_⟩
 rcases hy with hy|hy
 ·obtain ⟨h1,h2,h3,h4,h5⟩:=F b hy
  exact ⟨by omega,h2,h3,h4,h5⟩
 ·refine ⟨hy.2,by omega,fun hz=>?_,R.farNew hy.1,fun k hk=>(hl.mem hk).farNew hy.1⟩
  have:=(K.blk b hz).1;have:=K.size;omega
theorem m9.set (H:m9 s Z Y wx w0 g w h L) (hb:Y b) (i:Nat) (v:Value):m9 s Z Y wx w0 g (w.setCell ⟨b,i,none⟩ v) h L:=by
 obtain ⟨vc,vo,vx,R,hl,z1,z2,K,F⟩:=H
 obtain ⟨h1,h2,h3,h4,h5⟩:=F b hb
 have hg:=cQ (w:=w) b i v
 refine ⟨vc,vo,vx,R.kept hg (fun x e=>?_),hl.same (fun x ho=>?_),z1,z2,K.kept hg (fun x e hx=>?_),fun x hx=>?_⟩
 ·cases e;exact ⟨h2,h4⟩
 ·obtain ⟨k,hk,Xt⟩:=ho
  refine aA ?_ _
  rintro rfl
  have f:=h5 k hk
  rcases Xt with e|e|e
  ·exact f.q e
  ·exact f.l e
  ·exact f.s e
 ·cases e;exact h3 hx
 ·obtain ⟨y1,y2⟩:=F x hx
  exact ⟨by simpa [World.setCell] using y1,y2⟩
theorem m9.wide (H:m9 s Z Y wx w0 g w h L) (hb:Bl w w'):RR s (fun b=>Z b∨Xp Y w.heap.size w'.heap.size b) w' w0 g w' h L:=by
 obtain ⟨vc,vo,vx,R,hl,z1,z2,K,F⟩:=H.bl hb
 refine ⟨vc,vo,vx,R,hl,?_,?_,Nat.le_refl _,fun b hx=>⟨?_,rfl⟩⟩
 ·rintro b (hx|hx)
  ·exact z1 b hx
  ·exact (F b hx).2.2.2.1
 ·rintro b (hx|hx)
  ·exact z2 b hx
  ·exact (F b hx).2.2.2.2
 ·rcases hx with hx|hx
  ·have:=(K.blk b hx).1;have:=K.size;omega
  ·exact (F b hx).1
end
theorem m9.back {s':Nat} {w2:World} {h':Hp} {L':List Kl} (H:m9 s Z Y wx w0 g w h L) (hb:Bl w w') (H2:RR s' (fun b=>Z b∨Xp Y w.heap.size w'.heap.size b) w' w0 g w2 h' L') :
  m9 s' Z (Xp Y w.heap.size w'.heap.size) wx w0 g w2 h' L'/\xV (Xp Y w.heap.size w'.heap.size) w' w2:=by
 obtain ⟨vc,vo,vx,R,hl,z1,z2,K,F⟩:=H.bl hb
 obtain ⟨rK,vz,vA,R',zT,QE,QF,K'⟩:=H2
 refine ⟨⟨rK,vz,vA,R',zT,fun b hx=>QE b (Or.inl hx),fun b hx=>QF b (Or.inl hx),⟨Nat.le_trans K.size K'.size,fun b hx=>⟨(K.blk b hx).1,?_⟩⟩,fun b hy=>?_⟩,K'.size,fun b hy=>(K'.blk b (Or.inr hy)).2⟩
 ·rw [(K'.blk b (Or.inl hx)).2];exact (K.blk b hx).2
 ·obtain ⟨h1,h2,h3,h4,h5⟩:=F b hy
  exact ⟨Nat.lt_of_lt_of_le h1 K'.size,h2,h3,QE b (Or.inr hy),QF b (Or.inr hy)⟩
section
variable (s s':Nat) (Z Y:Nat->Prop) (wx w0:World) (g:Mg) (h h':Hp) (L:List Kl) (PL:List Kl->Prop)
theorem rq (how k n:Int) (w:World) (H:m9 s Z Y wx w0 g w h L) (hs:∀Z wx w,RR s Z wx w0 g w h L->Calls Tryz.prog 105 #[.pointer (some ⟨g.r,0,none⟩)] w fun e w'=>e=aV how k n/\∃L',PL L'/\RR s' Z wx w0 g w' h' L') :
  Calls Tryz.prog 104 #[.func (.func 105) #[.pointer (some ⟨g.r,0,none⟩)] #[]] w fun e w'=>e=.returned (.tuple #[.agg #[int i64 how,int i64 k,int i64 n],.bool true])/\(∃L',PL L'/\m9 s' Z Y wx w0 g w' h' L')/\xV Y w w':=by
 have hb:Bl w ((w.alloc dD).alloc dv):=((Bl.refl w).alloc _).alloc _
 have hsz:((w.alloc dD).alloc dv).heap.size=w.heap.size+1+1:=by simp
 obtain ⟨n0,n1⟩:=bD w #[int i64 0,int i64 0,int i64 0] #[.bool false] 102 4
 have y0:Xp Y w.heap.size ((w.alloc dD).alloc dv).heap.size w.heap.size:=Or.inr ⟨Nat.le_refl _,by omega⟩
 have y1:Xp Y w.heap.size ((w.alloc dD).alloc dv).heap.size (w.heap.size+1):=Or.inr ⟨by omega,by omega⟩
 have hY:∀b,Y b->b<w.heap.size:=fun b hy=>by obtain ⟨vc,vo,vx,-,-,-,-,-,F⟩:=H;exact (F b hy).1
 refine (tv (.pointer (some ⟨g.r,0,none⟩)) how k n (fun w1=>(∃L',PL L'/\m9 s' Z (Xp Y w.heap.size ((w.alloc dD).alloc dv).heap.size) wx w0 g w1 h' L')/\xV Y w w1) w ?_).mono ?_
 ·refine (hs _ _ _ (H.wide hb)).mono ?_
  rintro e w1 ⟨rfl,L',hp,H1⟩
  obtain ⟨H2,K2⟩:=H.back hb H1
  refine ⟨rfl,K2.at y0 n0,K2.at y1 n1,⟨L',hp,H2⟩,Nat.le_trans hb.size K2.size,fun b hy=>?_⟩
  rw [K2.blk b (Or.inl hy),hb.block b (hY b hy)]
 ·rintro e w' ⟨rfl,w1,⟨⟨L',hp,H1⟩,K1⟩,rfl⟩
  have H2:=(((H1.set y0 0 (int i64 how)).set y0 1 (int i64 k)).set y0 2 (int i64 n)).set y1 0 (.bool true)
  have hbl:=(Bl.refl ((((w1.setCell ⟨w.heap.size,0,none⟩ (int i64 how)).setCell ⟨w.heap.size,1,none⟩ (int i64 k)).setCell ⟨w.heap.size,2,none⟩ (int i64 n)).setCell ⟨w.heap.size+1,0,none⟩ (.bool true))).alloc (.cells #[int i64 how,int i64 k,int i64 n] 102)
  have H3:=H2.bl hbl
  have xU:=K1.size
  refine ⟨rfl,⟨L',hp,H3.less (fun b hy=>Or.inl (Or.inl hy))⟩,by simp [World.setCell];omega,fun b hy=>?_⟩
  have hlt:=hY b hy
  rw [hbl.block b (by simp [World.setCell];omega),aA (by omega),aA (by omega),aA (by omega),aA (by omega)]
  exact K1.blk b hy
theorem GF (w:World) (H:m9 s Z Y wx w0 g w h L) (hs:∀Z wx w,RR s Z wx w0 g w h L->Calls Tryz.prog 105 #[.pointer (some ⟨g.r,0,none⟩)] w fun e w'=>e=.returned (.tuple #[])/\∃L',PL L'/\RR s' Z wx w0 g w' h' L') :
  Calls Tryz.prog 104 #[.func (.func 105) #[.pointer (some ⟨g.r,0,none⟩)] #[]] w fun e w'=>e=.returned (.tuple #[.agg #[int i64 0,int i64 0,int i64 0],.bool false])/\(∃L',PL L'/\m9 s' Z Y wx w0 g w' h' L')/\xV Y w w':=by
 have hb:Bl w ((w.alloc dD).alloc dv):=((Bl.refl w).alloc _).alloc _
 have hsz:((w.alloc dD).alloc dv).heap.size=w.heap.size+1+1:=by simp
 obtain ⟨n0,n1⟩:=bD w #[int i64 0,int i64 0,int i64 0] #[.bool false] 102 4
 have y0:Xp Y w.heap.size ((w.alloc dD).alloc dv).heap.size w.heap.size:=Or.inr ⟨Nat.le_refl _,by omega⟩
 have y1:Xp Y w.heap.size ((w.alloc dD).alloc dv).heap.size (w.heap.size+1):=Or.inr ⟨by omega,by omega⟩
 have hY:∀b,Y b->b<w.heap.size:=fun b hy=>by obtain ⟨vc,vo,vx,-,-,-,-,-,F⟩:=H;exact (F b hy).1
 refine (tx (.pointer (some ⟨g.r,0,none⟩)) (fun w1=>(∃L',PL L'/\m9 s' Z (Xp Y w.heap.size ((w.alloc dD).alloc dv).heap.size) wx w0 g w1 h' L')/\xV Y w w1) w ?_).mono ?_
 ·refine (hs _ _ _ (H.wide hb)).mono ?_
  rintro e w1 ⟨rfl,L',hp,H1⟩
  obtain ⟨H2,K2⟩:=H.back hb H1
  refine ⟨rfl,K2.at y0 n0,K2.at y1 n1,⟨L',hp,H2⟩,Nat.le_trans hb.size K2.size,fun b hy=>?_⟩
  rw [K2.blk b (Or.inl hy),hb.block b (hY b hy)]
 ·rintro e w' ⟨rfl,w1,⟨⟨L',hp,H1⟩,K1⟩,rfl⟩
  have H2:=(((H1.set y0 0 (int i64 0)).set y0 1 (int i64 0)).set y0 2 (int i64 0)).set y1 0 (.bool false)
  have xU:=K1.size
  refine ⟨rfl,⟨L',hp,H2.less (fun b hy=>Or.inl hy)⟩,by simp [World.setCell];omega,fun b hy=>?_⟩
  have hlt:=hY b hy
  rw [aA (by omega),aA (by omega),aA (by omega),aA (by omega)]
  exact K1.blk b hy
theorem C9 (x y:Value) (how k n:Int) (w:World) (H:m9 s Z Y wx w0 g w h L) (hs:∀Z' xJ w',(∀b,Y b->w'.heap[b]?=w.heap[b]?)->RR s Z' xJ w0 g w' h L->Calls Tryz.prog 106 #[x,y] w' fun e w2=>e=aV how k n/\∃L',PL L'/\RR s' Z' xJ w0 g w2 h' L') :
  Calls Tryz.prog 104 #[.func (.func 106) #[] #[x,y]] w fun e w'=>e=.returned (.tuple #[.agg #[int i64 how,int i64 k,int i64 n],.bool true])/\(∃L',PL L'/\m9 s' Z Y wx w0 g w' h' L')/\xV Y w w':=by
 have hb:Bl w ((w.alloc dD).alloc dv):=((Bl.refl w).alloc _).alloc _
 have hsz:((w.alloc dD).alloc dv).heap.size=w.heap.size+1+1:=by simp
 obtain ⟨n0,n1⟩:=bD w #[int i64 0,int i64 0,int i64 0] #[.bool false] 102 4
 have y0:Xp Y w.heap.size ((w.alloc dD).alloc dv).heap.size w.heap.size:=Or.inr ⟨Nat.le_refl _,by omega⟩
 have y1:Xp Y w.heap.size ((w.alloc dD).alloc dv).heap.size (w.heap.size+1):=Or.inr ⟨by omega,by omega⟩
 have hY:∀b,Y b->b<w.heap.size:=fun b hy=>by obtain ⟨vc,vo,vx,-,-,-,-,-,F⟩:=H;exact (F b hy).1
 refine (rN x y how k n (fun w1=>(∃L',PL L'/\m9 s' Z (Xp Y w.heap.size ((w.alloc dD).alloc dv).heap.size) wx w0 g w1 h' L')/\xV Y w w1) w ?_).mono ?_
 ·refine (hs _ _ _ (fun b hy=>hb.block b (hY b hy)) (H.wide hb)).mono ?_
  rintro e w1 ⟨rfl,L',hp,H1⟩
  obtain ⟨H2,K2⟩:=H.back hb H1
  refine ⟨rfl,K2.at y0 n0,K2.at y1 n1,⟨L',hp,H2⟩,Nat.le_trans hb.size K2.size,fun b hy=>?_⟩
  rw [K2.blk b (Or.inl hy),hb.block b (hY b hy)]
 ·rintro e w' ⟨rfl,w1,⟨⟨L',hp,H1⟩,K1⟩,rfl⟩
  have H2:=(((H1.set y0 0 (int i64 how)).set y0 1 (int i64 k)).set y0 2 (int i64 n)).set y1 0 (.bool true)
  have hbl:=(Bl.refl ((((w1.setCell ⟨w.heap.size,0,none⟩ (int i64 how)).setCell ⟨w.heap.size,1,none⟩ (int i64 k)).setCell ⟨w.heap.size,2,none⟩ (int i64 n)).setCell ⟨w.heap.size+1,0,none⟩ (.bool true))).alloc (.cells #[int i64 how,int i64 k,int i64 n] 102)
  have H3:=H2.bl hbl
  have xU:=K1.size
  refine ⟨rfl,⟨L',hp,H3.less (fun b hy=>Or.inl (Or.inl hy))⟩,by simp [World.setCell];omega,fun b hy=>?_⟩
  have hlt:=hY b hy
  rw [hbl.block b (by simp [World.setCell];omega),aA (by omega),aA (by omega),aA (by omega),aA (by omega)]
  exact K1.blk b hy
theorem Da (x y:Value) (w:World) (H:m9 s Z Y wx w0 g w h L) (hs:∀Z' xJ w',(∀b,Y b->w'.heap[b]?=w.heap[b]?)->RR s Z' xJ w0 g w' h L->Calls Tryz.prog 106 #[x,y] w' fun e w2=>e=.returned (.tuple #[])/\∃L',PL L'/\RR s' Z' xJ w0 g w2 h' L') :
  Calls Tryz.prog 104 #[.func (.func 106) #[] #[x,y]] w fun e w'=>e=.returned (.tuple #[.agg #[int i64 0,int i64 0,int i64 0],.bool false])/\(∃L',PL L'/\m9 s' Z Y wx w0 g w' h' L')/\xV Y w w':=by
 have hb:Bl w ((w.alloc dD).alloc dv):=((Bl.refl w).alloc _).alloc _
 have hsz:((w.alloc dD).alloc dv).heap.size=w.heap.size+1+1:=by simp
 obtain ⟨n0,n1⟩:=bD w #[int i64 0,int i64 0,int i64 0] #[.bool false] 102 4
 have y0:Xp Y w.heap.size ((w.alloc dD).alloc dv).heap.size w.heap.size:=Or.inr ⟨Nat.le_refl _,by omega⟩
 have y1:Xp Y w.heap.size ((w.alloc dD).alloc dv).heap.size (w.heap.size+1):=Or.inr ⟨by omega,by omega⟩
 have hY:∀b,Y b->b<w.heap.size:=fun b hy=>by obtain ⟨vc,vo,vx,-,-,-,-,-,F⟩:=H;exact (F b hy).1
 refine (rO x y (fun w1=>(∃L',PL L'/\m9 s' Z (Xp Y w.heap.size ((w.alloc dD).alloc dv).heap.size) wx w0 g w1 h' L')/\xV Y w w1) w ?_).mono ?_
 ·refine (hs _ _ _ (fun b hy=>hb.block b (hY b hy)) (H.wide hb)).mono ?_
  rintro e w1 ⟨rfl,L',hp,H1⟩
  obtain ⟨H2,K2⟩:=H.back hb H1
  refine ⟨rfl,K2.at y0 n0,K2.at y1 n1,⟨L',hp,H2⟩,Nat.le_trans hb.size K2.size,fun b hy=>?_⟩
  rw [K2.blk b (Or.inl hy),hb.block b (hY b hy)]
 ·rintro e w' ⟨rfl,w1,⟨⟨L',hp,H1⟩,K1⟩,rfl⟩
  have H2:=(((H1.set y0 0 (int i64 0)).set y0 1 (int i64 0)).set y0 2 (int i64 0)).set y1 0 (.bool false)
  have xU:=K1.size
  refine ⟨rfl,⟨L',hp,H2.less (fun b hy=>Or.inl hy)⟩,by simp [World.setCell];omega,fun b hy=>?_⟩
  have hlt:=hY b hy
  rw [aA (by omega),aA (by omega),aA (by omega),aA (by omega)]
  exact K1.blk b hy
end
theorem GG (s:Nat) (Z:Nat->Prop) (wx w0:World) (g:Mg) (h:Hp) (L:List Kl) (v:Va) (rb tb:Nat) (w:World) (H:RR s Z wx w0 g w h L) (F:Fix w0 g h) (hf:h.objs.length<=100) (hv:v.kind=3) (h0:0<=v.n) (hn:v.n<h.objs.length) (ht:h.thrown=v.n) (hok:∀k∈L,gU k.c) (hlen:L.length<=1000) (c0:w.cell? ⟨rb,0,none⟩=some (.pointer (some ⟨g.r,0,none⟩))) (c1:w.cell? ⟨tb,0,none⟩=some (int i64 (im v).kind)) (c2:w.cell? ⟨tb,1,none⟩=some (int i64 (im v).n)) :
  Calls Tryz.prog 106 #[.pointer (some ⟨rb,0,none⟩),.pointer (some ⟨tb,0,none⟩)] w fun e w'=>SY s Z wx w0 g (unwM h (L.map (·.c))) e w':=by
 have HU:=ab (unwind_any s Z wx w0 g h L v w H F hf hv h0 hn ht hok hlen)
 obtain ⟨o,ho⟩:∃o,unwM h (L.map (·.c))=o:=⟨_,rfl⟩
 rw [ho] at HU ⊢
 clear H F hf hv h0 hn ht hok hlen ho
 cases hfin:o.fin with
 | false =>
  have AG:=ab hfin
  clear hfin
  go_enter Tryz.func106,Tryz.ntmps106
  go_wp2_with (go_at_call 107;refine Calls.mono HU.out ?_;rintro e w1 hq;obtain ⟨rfl,hr⟩:=hq.1 AG.out;replace hr:=ab hr;clear hq)
  go_end0
  exact ⟨fun _=>⟨rfl,hr.out⟩,fun z=>by rw [AG.out] at z;cases z⟩
 | true =>
  have AG:=ab hfin
  clear hfin
  go_enter Tryz.func106,Tryz.ntmps106
  go_wp2_with (go_at_call 107;refine Calls.mono HU.out ?_;rintro e w1 hq;obtain ⟨rfl,hr⟩:=hq.2 AG.out;replace hr:=ab hr;clear hq)
  exact ⟨rfl,⟨(fun z=>by rw [AG.out] at z;cases z),fun _=>⟨rfl,hr.out⟩⟩⟩
def GI (r:Nat) (w:World):Nat:=match w.cell? ⟨r,5,none⟩,w.cell? ⟨r,6,none⟩ with
 | some (.int _ a),some (.int _ b)=>(a-b).toNat
 | _,_=>0
theorem nY (H:RR s Z wx w0 g w h L):GI g.r w=(h.fuel-h.sh.steps).toNat:=by
 unfold GI
 rw [H.hx.c56.1,H.hx.c56.2.1]
abbrev GJ (w:World) (g:Mg) (Q:Ending->World->Prop):Prop:=Calls Tryz.prog 105 #[.pointer (some ⟨g.r,0,none⟩)] w Q
def Xv (I:Nat->Hp->List aH->Prop) (w0:World) (g:Mg) (n:Nat) (h:Hp) (L:List Kl):Prop :=
 ∃n' h' cs',runM n h (L.map (·.c))=runM n' h' cs'/\I n' h' cs'/\(h'.fuel-h'.sh.steps).toNat<(h.fuel-h.sh.steps).toNat
  /\ ∀Z wx w,RR 0 Z wx w0 g w h L->GJ w g fun e w'=>e=.returned (.tuple #[])/\∃L':List Kl,L'.map (·.c)=cs'/\RR 0 Z wx w0 g w' h' L'
def Xw (w0:World) (g:Mg) (n:Nat) (h:Hp) (L:List Kl):Prop :=
 ∃how v h',runM n h (L.map (·.c))=gL how v h'/\how≠2
  /\ ∀Z wx w,RR 0 Z wx w0 g w h L->GJ w g fun e w'=>e=aV how (im v).kind (im v).n/\∃L':List Kl,True/\RR 0 Z wx w0 g w' h' L'
def Xx (I:Nat->Hp->List aH->Prop) (w0:World) (g:Mg) (n:Nat) (h:Hp) (L:List Kl):Prop :=
 ∃n' h1 o1,∃v:Va,runM n h (L.map (·.c))=(if o1.fin=true then o1 else runM n' o1.h o1.cs)/\(o1.fin=false->I n' o1.h o1.cs/\(o1.h.fuel-o1.h.sh.steps).toNat<(h.fuel-h.sh.steps).toNat)
  /\ (v.kind=3/\0<=v.n/\v.n<h1.objs.length/\h1.thrown=v.n)/\Fix w0 g h1/\h1.objs.length<=100
  /\ ∀Z wx w,RR 0 Z wx w0 g w h L->GJ w g fun e w'=>e=aV 2 3 (v.n+1)/\∃L1:List Kl,(unwM h1 (L1.map (·.c))=o1/\(∀k∈L1,gU k.c)/\L1.length<=1000)/\RR 0 Z wx w0 g w' h1 L1
def GK (I:Nat->Hp->List aH->Prop) (w0:World) (g:Mg):Prop:=∀n h L,I n h (L.map (·.c))->Xv I w0 g n h L∨Xw w0 g n h L∨Xx I w0 g n h L
abbrev UM (g:Mg):Obj:=.cells #[.pointer (some ⟨g.r,0,none⟩)] 80
def rr (n:Nat):Nat->Prop:=fun b=>b=n∨b=n+1
def PA (I:Nat->Hp->List aH->Prop) (Z:Nat->Prop) (wx w0:World) (g:Mg) (o:Mo) (n0:Nat) (wr:World):Prop :=
 ∃n h,∃L:List Kl,o=runM n h (L.map (·.c))/\I n h (L.map (·.c))/\m9 0 Z (rr n0) wx w0 g wr h L/\wr.heap[n0]?=some (UM g)/\wr.heap[n0+1]?=some dD
def PB (Z:Nat->Prop) (wx w0:World) (g:Mg) (o:Mo) (e:Ending) (w':World):Prop :=
 e=.returned (.agg #[int i64 o.how,int i64 (im o.v).kind,int i64 (im o.v).n])/\∃L':List Kl,RR 0 Z wx w0 g w' o.h L'
theorem sT:(Tryz.prog.info? 102).map (·.size)=some 3:=by kernel_rfl
theorem GL {u0 u1 u2:Value} {t:TypeId} (h:w.heap[b]?=some (.cells #[u0,u1,u2] t (0,0))) (v0 v1 v2:Value):(((w.setCell ⟨b,0,none⟩ v0).setCell ⟨b,1,none⟩ v1).setCell ⟨b,2,none⟩ v2).heap[b]?=some (.cells #[v0,v1,v2] t (0,0)):=by
 rw [ax (ax (ax h _) _)];rfl
theorem until_any (I:Nat->Hp->List aH->Prop) (Z:Nat->Prop) (wx w0:World) (g:Mg) (n:Nat) (h:Hp) (L:List Kl) (w:World) (H:RR 0 Z wx w0 g w h L) (hI:I n h (L.map (·.c))) (hS:GK I w0 g) :
  Calls Tryz.prog 48 #[.pointer (some ⟨g.r,0,none⟩)] w fun e w'=>PB Z wx w0 g (runM n h (L.map (·.c))) e w':=by
 have HS:=ab hS
 have KT:∀(fn:Fn) (first cap:Array Value) (w:World),(Instr.makeFunc fn first cap).run Tryz.prog w=.ok (.func fn first cap) w:=fun _ _ _ _=>rfl
 obtain ⟨o,ho⟩:∃o,runM n h (L.map (·.c))=o:=⟨_,rfl⟩
 have UN:Hid (PA I Z wx w0 g o w.heap.size ((w.alloc (UM g)).alloc dD)):=by
  obtain ⟨n0,n1⟩:=bD w #[.pointer (some ⟨g.r,0,none⟩)] #[int i64 0,int i64 0,int i64 0] 80 102
  refine ⟨n,h,L,ho.symm,hI,(H.y.bl (((Bl.refl w).alloc _).alloc _)).less (fun b hb=>Or.inr ?_),n0,n1⟩
  rcases hb with rfl|rfl
  ·exact ⟨Nat.le_refl _,by simp;omega⟩
  ·exact ⟨by omega,by simp⟩
 rw [ho]
 clear H hI hS ho
 go_enter Tryz.func48,Tryz.ntmps48
 go_wp2
 go_loopw [] (fun wr=>Hid (PA I Z wx w0 g o w.heap.size wr)) (fun wr=>GI g.r wr)
 case atStart=>exact UN.out
 case round =>
  clear UN
  obtain ⟨n,h,L,ho,hI,hr,PC,hst⟩:=hrel.out
  clear hrel
  have c0:wr.cell? ⟨w.heap.size,0,none⟩=some (.pointer (some ⟨g.r,0,none⟩)):=(aa PC).trans rfl
  have HO:=ab ho
  have HR:=ab hr
  have SZ:=ab PC
  have vp:=ab hst
  rcases HS.out n h L hI with hA|hB|hC
  ·obtain ⟨n',h',cs',e1,e2,e3,e4⟩:=hA
   have HA:=ab e4
   have HE:Hid (o=runM n' h' cs'/\I n' h' cs'/\(h'.fuel-h'.sh.steps).toNat<(h.fuel-h.sh.steps).toNat):=⟨ho.trans e1,e2,e3⟩
   clear e1 e2 e3 e4 ho hI hr PC hst
   go_wp2_with (go_at_call 104;refine (GF 0 0 Z (rr w.heap.size) wx w0 g h h' L (fun L'=>L'.map (·.c)=cs') wr HR.out HA.out).mono ?_;rintro e w1 ⟨rfl,⟨L',hp,H1⟩,K1⟩;have b1:=K1.at (Or.inl rfl) SZ.out;have b2:=K1.at (Or.inr rfl) vp.out;replace H1:=ab H1;replace hp:=ab hp;replace b1:=ab b1;replace b2:=ab b2;clear K1)
   go_roundw
   case rel =>
    obtain ⟨q1,q2,q3⟩:=HE.out
    refine ⟨n',h',L',by rw [hp.out];exact q1,by rw [hp.out];exact q2,(H1.out.bl ((Bl.refl w1).alloc _)).less (fun b hb=>Or.inl hb),ai ((Bl.refl w1).alloc _) b1.out,ai ((Bl.refl w1).alloc _) b2.out⟩
   case measure =>
    have m1:=nY HR.out.x
    have m2:=nY (H1.out.x.bl ((Bl.refl w1).alloc (.cells #[int i64 0,int i64 0,int i64 0] 102)))
    have m3:=HE.out.2.2
    omega
  ·obtain ⟨how,v,h',e1,e2,e3⟩:=hB
   have HB:=ab e3
   have HE:Hid (o=gL how v h'):=ho.trans e1
   have eK:(how==2)=false:=by simpa using e2
   clear e1 e2 e3 ho hI hr PC hst
   go_wp2_with (go_at_call 104;refine (rq 0 0 Z (rr w.heap.size) wx w0 g h h' L (fun _=>True) how (im v).kind (im v).n wr HR.out HB.out).mono ?_;rintro e w1 ⟨rfl,⟨L',-,H1⟩,K1⟩;have b2:=K1.at (Or.inr rfl) vp.out;have hlt:=af b2;have fz:=ay b2;have y0:w1.cell? ⟨w.heap.size+1,0,none⟩=some (int i64 0):=(aa b2).trans rfl;have y1:w1.cell? ⟨w.heap.size+1,1,none⟩=some (int i64 0):=(aa b2).trans rfl;have y2:w1.cell? ⟨w.heap.size+1,2,none⟩=some (int i64 0):=(aa b2).trans rfl;replace H1:=ab H1;replace b2:=ab b2;clear K1)
   refine bodyPost_ret (results_cell_row rfl _ _ (w.heap.size+1) _ _ _ _ rfl (ai ((Bl.refl _).alloc _) (GL b2.out _ _ _)) Tryz.underlying102 rfl sT) rfl ?_
   rw [HE.out]
   exact ⟨rfl,L',(((H1.out.set (Or.inr rfl) 0 _).set (Or.inr rfl) 1 _).set (Or.inr rfl) 2 _).x.bl ((Bl.refl _).alloc _)⟩
  ·obtain ⟨n',h1,o1,v,e1,e2,e3,e4,e5,e8⟩:=hC
   have HC:=ab e8
   have HE:Hid (o=(if o1.fin=true then o1 else runM n' o1.h o1.cs)/\(o1.fin=false->I n' o1.h o1.cs/\(o1.h.fuel-o1.h.sh.steps).toNat<(h.fuel-h.sh.steps).toNat)):=⟨ho.trans e1,e2⟩
   have HV:=ab e3
   have HF:Hid (Fix w0 g h1/\h1.objs.length<=100):=⟨e4,e5⟩
   clear e1 e2 e3 e4 e5 e8 ho hI hr PC hst
   have HK:Hid (∀(w1:World) (L1:List Kl),(unwM h1 (L1.map (·.c))=o1/\(∀k∈L1,gU k.c)/\L1.length<=1000)->∀Z' xJ w',w'.cell? ⟨w.heap.size,0,none⟩=some (.pointer (some ⟨g.r,0,none⟩))->w'.cell? ⟨w1.heap.size+1,0,none⟩=some (int i64 3)->w'.cell? ⟨w1.heap.size+1,1,none⟩=some (int i64 (v.n+1))->RR 0 Z' xJ w0 g w' h1 L1 ->
     Calls Tryz.prog 106 #[.pointer (some ⟨w.heap.size,0,none⟩),.pointer (some ⟨w1.heap.size+1,0,none⟩)] w' fun e w2=>SY 0 Z' xJ w0 g o1 e w2):=fun w1 L1 Lq Z' xJ w' k0 k1 k2 hr=>by
    obtain ⟨v1,v2,v3,v4⟩:=HV.out
    have ei:im v=⟨3,v.n+1⟩:=gp v1
    have:=GG 0 Z' xJ w0 g h1 L1 v w.heap.size (w1.heap.size+1) w' hr HF.out.1 HF.out.2 v1 v2 v3 v4 Lq.2.1 Lq.2.2 k0 (by rw [ei];exact k1) (by rw [ei];exact k2)
    rwa [Lq.1] at this
   cases hfin:o1.fin with
   | false =>
    have AG:=ab hfin
    clear hfin
    go_wp2_with (first
     | (have:=H1;go_at_call 104;refine (Da 0 0 Z (Xp (rr w.heap.size) w1.heap.size ((w1.alloc (.cells #[int i64 2,int i64 3,int i64 (v.n+1)] 102)).alloc (.cells #[int i64 3,int i64 (v.n+1)] 100)).heap.size) wx w0 g h1 o1.h L1 (fun L'=>L'.map (·.c)=o1.cs) _ _ _ (H1.out.bl (((Bl.refl w1).alloc _).alloc _)) (fun Z' xJ w' hkp hr=>(HK.out w1 L1 hp.out Z' xJ w' ((aa ((hkp _ (Xp.old (Or.inl rfl))).trans (ai (((Bl.refl w1).alloc _).alloc _) b1.out))).trans rfl) ((aa ((hkp _ (Xp.new (Nat.le_succ _) (cA w1 _ _))).trans HT.out.2)).trans rfl) ((aa ((hkp _ (Xp.new (Nat.le_succ _) (cA w1 _ _))).trans HT.out.2)).trans rfl) hr).mono (fun e w2 hq=>hq.1 AG.out))).mono ?_;rintro e w2 ⟨rfl,⟨L',BF,H2⟩,K2⟩;have s1:=K2.at (Xp.new (Nat.le_refl _) (dZ w1 _ _)) HT.out.1;have r1:=K2.at (Xp.old (Or.inl rfl)) (ai (((Bl.refl w1).alloc _).alloc _) b1.out);have r2:=K2.at (Xp.old (Or.inr rfl)) (ai (((Bl.refl w1).alloc _).alloc _) b2.out);have fz:=ay s1;have y0:w2.cell? ⟨w1.heap.size,0,none⟩=some (int i64 2):=(aa s1).trans rfl;have y1:w2.cell? ⟨w1.heap.size,1,none⟩=some (int i64 3):=(aa s1).trans rfl;have y2:w2.cell? ⟨w1.heap.size,2,none⟩=some (int i64 (v.n+1)):=(aa s1).trans rfl;replace H2:=ab H2;replace BF:=ab BF;replace s1:=ab s1;replace r1:=ab r1;replace r2:=ab r2;clear K2)
     | (go_at_call 104;refine (rq 0 0 Z (rr w.heap.size) wx w0 g h h1 L (fun L'=>unwM h1 (L'.map (·.c))=o1/\(∀k∈L',gU k.c)/\L'.length<=1000) 2 3 (v.n+1) wr HR.out HC.out).mono ?_;rintro e w1 ⟨rfl,⟨L1,hp,H1⟩,K1⟩;have b1:=K1.at (Or.inl rfl) SZ.out;have b2:=K1.at (Or.inr rfl) vp.out;have mZ:=af b1;have yf:=af b2;have HT:=ab (bD w1 #[int i64 2,int i64 3,int i64 (v.n+1)] #[int i64 3,int i64 (v.n+1)] 102 100);replace H1:=ab H1;replace hp:=ab hp;replace b1:=ab b1;replace b2:=ab b2;clear K1))
    go_roundw
    case rel =>
     obtain ⟨q1,q2⟩:=HE.out
     rw [AG.out,if_neg (by decide)] at q1
     have hy:(Xp (rr w.heap.size) w1.heap.size ((w1.alloc (.cells #[int i64 2,int i64 3,int i64 (v.n+1)] 102)).alloc (.cells #[int i64 3,int i64 (v.n+1)] 100)).heap.size) w1.heap.size:=Xp.new (Nat.le_refl _) (dZ w1 _ _)
     refine ⟨n',o1.h,L',by rw [BF.out];exact q1,by rw [BF.out];exact (q2 AG.out).1,(((H2.out.set hy 0 _).set hy 1 _).set hy 2 _).less (fun b hb=>Or.inl hb),?_,?_⟩
     ·rw [aA (by omega),aA (by omega),aA (by omega)];exact r1.out
     ·rw [aA (by omega),aA (by omega),aA (by omega)];exact r2.out
    case measure =>
     have hy:(Xp (rr w.heap.size) w1.heap.size ((w1.alloc (.cells #[int i64 2,int i64 3,int i64 (v.n+1)] 102)).alloc (.cells #[int i64 3,int i64 (v.n+1)] 100)).heap.size) w1.heap.size:=Xp.new (Nat.le_refl _) (dZ w1 _ _)
     have m1:=nY HR.out.x
     have m2:=nY (((H2.out.set hy 0 (int i64 0)).set hy 1 (int i64 0)).set hy 2 (int i64 0)).x
     have m3:=(HE.out.2 AG.out).2
     omega
   | true =>
    have AG:=ab hfin
    clear hfin
    go_wp2_with (first
     | (have:=H1;go_at_call 104;refine (C9 0 0 Z (Xp (rr w.heap.size) w1.heap.size ((w1.alloc (.cells #[int i64 2,int i64 3,int i64 (v.n+1)] 102)).alloc (.cells #[int i64 3,int i64 (v.n+1)] 100)).heap.size) wx w0 g h1 o1.h L1 (fun _=>True) _ _ o1.how (im o1.v).kind (im o1.v).n _ (H1.out.bl (((Bl.refl w1).alloc _).alloc _)) (fun Z' xJ w' hkp hr=>(HK.out w1 L1 hp.out Z' xJ w' ((aa ((hkp _ (Xp.old (Or.inl rfl))).trans (ai (((Bl.refl w1).alloc _).alloc _) b1.out))).trans rfl) ((aa ((hkp _ (Xp.new (Nat.le_succ _) (cA w1 _ _))).trans HT.out.2)).trans rfl) ((aa ((hkp _ (Xp.new (Nat.le_succ _) (cA w1 _ _))).trans HT.out.2)).trans rfl) hr).mono (fun e w2 hq=>⟨(hq.2 AG.out).1,by obtain ⟨L',Xy⟩:=(hq.2 AG.out).2;exact ⟨L',trivial,Xy⟩⟩))).mono ?_;rintro e w2 ⟨rfl,⟨L',-,H2⟩,K2⟩;have s1:=K2.at (Xp.new (Nat.le_refl _) (dZ w1 _ _)) HT.out.1;have r1:=K2.at (Xp.old (Or.inl rfl)) (ai (((Bl.refl w1).alloc _).alloc _) b1.out);have r2:=K2.at (Xp.old (Or.inr rfl)) (ai (((Bl.refl w1).alloc _).alloc _) b2.out);have fz:=ay s1;have y0:w2.cell? ⟨w1.heap.size,0,none⟩=some (int i64 2):=(aa s1).trans rfl;have y1:w2.cell? ⟨w1.heap.size,1,none⟩=some (int i64 3):=(aa s1).trans rfl;have y2:w2.cell? ⟨w1.heap.size,2,none⟩=some (int i64 (v.n+1)):=(aa s1).trans rfl;have YT:=ay r2;have x0:w2.cell? ⟨w.heap.size+1,0,none⟩=some (int i64 0):=(aa r2).trans rfl;have x1:w2.cell? ⟨w.heap.size+1,1,none⟩=some (int i64 0):=(aa r2).trans rfl;have x2:w2.cell? ⟨w.heap.size+1,2,none⟩=some (int i64 0):=(aa r2).trans rfl;have En:w.heap.size+1≠w1.heap.size:=(by omega);have BG:w1.heap.size≠w.heap.size+1:=(by omega);replace H2:=ab H2;replace s1:=ab s1;replace r1:=ab r1;replace r2:=ab r2;clear K2)
     | (go_at_call 104;refine (rq 0 0 Z (rr w.heap.size) wx w0 g h h1 L (fun L'=>unwM h1 (L'.map (·.c))=o1/\(∀k∈L',gU k.c)/\L'.length<=1000) 2 3 (v.n+1) wr HR.out HC.out).mono ?_;rintro e w1 ⟨rfl,⟨L1,hp,H1⟩,K1⟩;have b1:=K1.at (Or.inl rfl) SZ.out;have b2:=K1.at (Or.inr rfl) vp.out;have mZ:=af b1;have yf:=af b2;have HT:=ab (bD w1 #[int i64 2,int i64 3,int i64 (v.n+1)] #[int i64 3,int i64 (v.n+1)] 102 100);replace H1:=ab H1;replace hp:=ab hp;replace b1:=ab b1;replace b2:=ab b2;clear K1))
    have hy:(Xp (rr w.heap.size) w1.heap.size ((w1.alloc (.cells #[int i64 2,int i64 3,int i64 (v.n+1)] 102)).alloc (.cells #[int i64 3,int i64 (v.n+1)] 100)).heap.size) w1.heap.size:=Xp.new (Nat.le_refl _) (dZ w1 _ _)
    have hz:(Xp (rr w.heap.size) w1.heap.size ((w1.alloc (.cells #[int i64 2,int i64 3,int i64 (v.n+1)] 102)).alloc (.cells #[int i64 3,int i64 (v.n+1)] 100)).heap.size) (w.heap.size+1):=Xp.old (Or.inr rfl)
    have r3:(((w2.setCell ⟨w1.heap.size,0,none⟩ (int i64 o1.how)).setCell ⟨w1.heap.size,1,none⟩ (int i64 (im o1.v).kind)).setCell ⟨w1.heap.size,2,none⟩ (int i64 (im o1.v).n)).heap[w.heap.size+1]?=some (.cells #[int i64 0,int i64 0,int i64 0] 102 (0,0)):=by
     rw [aA (by omega),aA (by omega),aA (by omega)];exact r2.out
    refine bodyPost_ret (results_cell_row rfl _ _ (w.heap.size+1) _ _ _ _ rfl (GL r3 _ _ _) Tryz.underlying102 rfl sT) rfl ?_
    have q1:=HE.out.1
    rw [AG.out,if_pos rfl] at q1
    rw [q1]
    exact ⟨rfl,L',((((((H2.out.set hy 0 _).set hy 1 _).set hy 2 _).set hz 0 _).set hz 1 _).set hz 2 _).x⟩
end Go.Proofs.YtgiiapenmjollaaGreat
