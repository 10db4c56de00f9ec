import Derived.Test.YtgiiapenmjollabGreatRsbl
namespace Go.Proofs.YtgiiapenmjollabGreat
set_option linter.all false
set_option maxHeartbeats 40000000
set_option maxRecDepth 100000
open Go.RowKit
section
def DQ (f:Fi) (m:Me) (X:Nat→Prop) (wx w0 w1:World) (g:Gf) (b0:Nat) (at':Int) (st:List (Option As)) (wt:List Int) (sl:List Ty) (P:List (Option As)→Prop) (e:Ending) (w':World):Prop :=
 ∃wx',(∀b,X b→b≠g.q→wx'.heap[b]?=wx.heap[b]?)∧((e=upE∧FE X wx' w1 g w')∨∃cur' st' wt' hv',e=.returned (.tuple #[])∧FX X wx' w1 g b0 w' cur' at' st' wt'∧Qx X wx' w0 g f hv'∧Gs f m st' wt'∧Led f.classes st wt st' wt'∧(∀x∈overL at' m.hands,LeadH f.classes m st' x.pc 22 ⟨3,x.cls⟩ sl)∧P st')
structure Dx (f:Fi) (m:Me) (X:Nat→Prop) (wx w0 w1:World) (g:Gf) (b0:Nat) (w:World) (cur:As) (at':Int) (st:List (Option As)) (wt:List Int):Prop where
 C:Cx w0 w1 g f m
 hq1:w1.heap.size≤g.q
 Q:∃hv,Qx X wx w0 g f hv
 H:FX X wx w1 g b0 w cur at' st wt
 G:Gs f m st wt
 hc:Wn f m cur
 ha:0≤at'∧at'≤3000
 hl:m.hands.length≤8
 ho:∀x∈m.hands,(0≤x.til∧x.til≤3000)∧0≤x.cls∧x.cls<f.classes.length
 hb0:w1.heap.size≤b0
section
variable {X:Nat→Prop} {wx w0 w1:World} {g:Gf} {b0:Nat} {w:World} {cur:As} {at':Int} {st:List (Option As)} {wt:List Int} {f:Fi} {m:Me}
theorem qdo10 (Z:Dx f m X wx w0 w1 g b0 w cur at' st wt) (ia ib ic ii:Int) (A0:Option Addr) (n0 k0:Nat) :
  Calls Tryz.prog 157 #[.pointer (some ⟨g.q,0,none⟩),insV 10 ia ib ic ii (.slice A0 n0 k0)] w fun e w'=>DQ f m X wx w0 w1 g b0 at' st wt cur.slots (fun st'=>Leads f.classes st' ia ⟨cur.slots,[]⟩) e w':=by
 have HB:Hid (Bl w (w.alloc (insO 10 ia ib ic ii (.slice A0 n0 k0)))):=(Bl.refl w).alloc _
 have ZB:=hid (mblk (w:=w) (cs:=#[.int .i64 10,.int .i64 ia,.int .i64 ib,.int .i64 ic,.int .i64 ii,.slice A0 n0 k0]) (t:=58) rfl)
 have HC:=hid Z.C
 have HT:=hid (may_tree Z.C.may).1
 have HA:=hid Z.ha
 have HW:=hid Z.hc
 have HB0:=hid Z.hb0
 have HG:=hid Z.G
 have hr:=(smeP Z.C.me).1
 have hr9:=(smeP Z.C.me).2.1
 have HR:=hid (show 1≤m.regs∧m.regs≤90 from ⟨hr,hr9⟩)
 have HLS:Hid ((cur.slots.length:Int)=m.regs):=Z.hc.wq.wf.len
 have hwlt:=lt_some ZB.out
 have hq1:=Z.hq1
 obtain ⟨hv,Q⟩:=Z.Q
 have HH:=hid Z.H
 have W1:=hid (Z.H.wide HB.out)
 have Q1:=hid (Q.wide Z.H HB.out)
 have QXX:=hid Q.x
 obtain ⟨rv,vw,sp,F1⟩:=id W1.out
 obtain ⟨xf2,xq2,xd2,xe2⟩:=F1.hand Q1.out hq1 (by have:=Z.hc.wq.len;omega)
 have KT:=hid (qthrow_any Z.C xq2 (xf2.bl (Bl.refl _).drew) Z.G Z.hc.clr Z.hl Z.ho)
 have q0:=Q1.out.q0 W1.out
 have p1:(w.alloc (insO 10 ia ib ic ii (.slice A0 n0 k0))).drew.cell? ⟨g.p,1,none⟩=some (rv 1):=by show (w.alloc (insO 10 ia ib ic ii (.slice A0 n0 k0))).cell? _=_;rw [cell_blk F1.blk];rfl
 have HPB:=hid (show (w.alloc (insO 10 ia ib ic ii (.slice A0 n0 k0))).drew.heap[g.p]?=_ from F1.blk)
 have fp:=free_blk (show (w.alloc (insO 10 ia ib ic ii (.slice A0 n0 k0))).drew.heap[g.p]?=_ from F1.blk)
 obtain ⟨Aq,cq,hqb,-⟩:=Q1.out.at W1.out
 have hqb:(w.alloc (insO 10 ia ib ic ii (.slice A0 n0 k0))).drew.heap[g.q]?=_:=hqb
 have HQB:=hid hqb
 have fq:=free_blk hqb
 have q2:(w.alloc (insO 10 ia ib ic ii (.slice A0 n0 k0))).drew.cell? ⟨g.q,2,none⟩=some hv:=(cell_blk hqb).trans rfl
 have npq:g.q≠g.p:=(F1.far _ Q1.out.x).p
 have npq':g.p≠g.q:=fun e=>npq e.symm
 obtain ⟨A1,c1,e1,-,-⟩:=own_formT F1.row1
 have hlp:=lt_some F1.blk
 have hlq:=lt_some hqb
 -- what lies of the instruction behind the swap
 have nq:w.heap.size≠g.q:=fun e=>by
  have:=(F1.far w.heap.size (Or.inr ⟨Nat.le_refl _,hwlt⟩)).p
  have h2:=hqb
  have h3:(w.alloc (insO 10 ia ib ic ii (.slice A0 n0 k0))).drew.heap[w.heap.size]?=_:=ZB.out
  rw [←e,h3] at h2
  simp at h2
 have np:w.heap.size≠g.p:=(F1.far w.heap.size (Or.inr ⟨Nat.le_refl _,hwlt⟩)).p
 have ZH:Hid ((hdW (w.alloc (insO 10 ia ib ic ii (.slice A0 n0 k0))) g (rv 1)).heap[w.heap.size]?=some (.cells #[.int .i64 10,.int .i64 ia,.int .i64 ib,.int .i64 ic,.int .i64 ii,.slice A0 n0 k0] 58 (0,0))):=by
  show _=_
  rw [block_far np,block_far nq];exact ZB.out
 have F2:=hid xf2
 have Q2:=hid xq2
 have D2:=hid xd2
 have E2:=hid xe2
 clear xf2 xq2 xd2 xe2
 rw [e1] at F2 Q2 D2 E2 KT ZH p1
 clear Z Q hqb F1 e1 hr hr9 hq1
 have FXL:Hid (∀bb cu aa ss ww w',FX (Xh (Xf X w.heap.size (w.alloc (insO 10 ia ib ic ii (.slice A0 n0 k0))).heap.size) (.slice A1 cur.stk.length c1)) (hdW (w.alloc (insO 10 ia ib ic ii (.slice A0 n0 k0))) g (.slice A1 cur.stk.length c1)) w1 g bb w' cu aa ss ww→FX X (hdW (w.alloc (insO 10 ia ib ic ii (.slice A0 n0 k0))) g (.slice A1 cur.stk.length c1)) w1 g bb w' cu aa ss ww):=fun bb cu aa ss ww w' h=>h.less (fun b hb=>Or.inl (Or.inl hb))
 have FEL:Hid (∀w',FE (Xh (Xf X w.heap.size (w.alloc (insO 10 ia ib ic ii (.slice A0 n0 k0))).heap.size) (.slice A1 cur.stk.length c1)) (hdW (w.alloc (insO 10 ia ib ic ii (.slice A0 n0 k0))) g (.slice A1 cur.stk.length c1)) w1 g w'→FE X (hdW (w.alloc (insO 10 ia ib ic ii (.slice A0 n0 k0))) g (.slice A1 cur.stk.length c1)) w1 g w'):=fun w' ⟨a,b,c,d,e,h⟩=>⟨a,b,c,d,e,h.less (fun b hb=>Or.inl (Or.inl hb))⟩
 have BXF:Hid (∀bb cu aa ss ww w',FX (Xh (Xf X w.heap.size (w.alloc (insO 10 ia ib ic ii (.slice A0 n0 k0))).heap.size) (.slice A1 cur.stk.length c1)) (hdW (w.alloc (insO 10 ia ib ic ii (.slice A0 n0 k0))) g (.slice A1 cur.stk.length c1)) w1 g bb w' cu aa ss ww→w'.heap[w.heap.size]?=some (.cells #[.int .i64 10,.int .i64 ia,.int .i64 ib,.int .i64 ic,.int .i64 ii,.slice A0 n0 k0] 58 (0,0))):=fun bb cu aa ss ww w' ⟨rv,vw,sp,h⟩=>(h.kept.blk _ (Or.inl (Or.inr ⟨Nat.le_refl _,hwlt⟩))).2.trans ZH.out
 have EX:Hid (∀b,X b→b≠g.q→(hdW (w.alloc (insO 10 ia ib ic ii (.slice A0 n0 k0))) g (.slice A1 cur.stk.length c1)).heap[b]?=wx.heap[b]?):=fun b hb hn=>by
  obtain ⟨rv,vw,sp,h⟩:=HH.out
  obtain ⟨x1,x2⟩:=h.kept.blk b hb
  rw [E2.out b (Or.inl hb) hn,HB.out.block b (Nat.lt_of_lt_of_le x1 h.kept.size)]
  exact x2
 have QX:Hid (Qx X (hdW (w.alloc (insO 10 ia ib ic ii (.slice A0 n0 k0))) g (.slice A1 cur.stk.length c1)) w0 g f (.slice A1 cur.stk.length c1)):=by
  obtain ⟨Aq2,cq2,x1,x2⟩:=Q2.out.blk
  exact ⟨QXX.out,Aq2,cq2,x1,x2⟩
 clear E2 HB HH ZH W1 Q1
 generalize Xh (Xf X w.heap.size (w.alloc (insO 10 ia ib ic ii (.slice A0 n0 k0))).heap.size) (.slice A1 cur.stk.length c1)=XX at *
 obtain ⟨Wh,hWh⟩:∃Wh,Wh=hdW (w.alloc (insO 10 ia ib ic ii (.slice A0 n0 k0))) g (.slice A1 cur.stk.length c1):=⟨_,rfl⟩
 rw [←hWh] at FXL FEL BXF EX QX F2 Q2 D2 KT
 replace hWh:=hid hWh
 go_enter Tryz.func157,Tryz.ntmps157
 go_wp2
 generalize (w.alloc (insO 10 ia ib ic ii (.slice A0 n0 k0)))=V at *
 refine wp_region_held_drew (S:=fun w'=>w'.cell? ⟨g.q,0,none⟩=some (.pointer (some ⟨g.p,0,none⟩))) (by kernel_rfl) ?_ (fun hHeld0=>?_)
 ·exact q0
 iterate 12 (refine tn rfl (by kernel_rfl) (fun _ _ _ h=>h) (by intro _ h;go_split_ands;go_simp<;>with_reducible rfl) hHeld0 ?_;try simp only [aZ])
 refine rd1 (i:=12) (by kernel_rfl) rfl fun K hK=>?_
 go_simp
 refine hK.out _ _ hHeld0 (fun hHeld1=>?_)
 try simp only [aZ]
 clear hK hHeld1
 iterate 2 (refine tn rfl (by kernel_rfl) (fun _ _ _ h=>h) (by intro _ h;go_split_ands;go_simp<;>with_reducible rfl) hHeld0 ?_;try simp only [aZ])
 refine rd1 (i:=15) (by kernel_rfl) rfl fun K hK=>?_
 go_simp
 have qcb:(V.drew.setCell ⟨g.q,2,none⟩ (.slice A1 cur.stk.length c1)).cell? ⟨g.q,0,none⟩=some (.pointer (some ⟨g.p,0,none⟩)):=(cell_blk (block_set HQB.out _)).trans rfl
 refine hK.out _ _ qcb (fun hHeld1=>?_)
 try simp only [aZ]
 clear hK
 iterate 3 (refine tn rfl (by kernel_rfl) (fun _ _ _ h=>h) (by intro _ h;go_split_ands;go_simp<;>with_reducible rfl) hHeld1 ?_;try simp only [aZ])
 have p1b:(V.setCell ⟨g.q,2,none⟩ (.slice A1 cur.stk.length c1)).cell? ⟨g.p,1,none⟩=some (.slice A1 cur.stk.length c1):=by rw [World.cell?_of_block (block_far npq' _)];exact p1
 have fpb:∀i,(V.setCell ⟨g.q,2,none⟩ (.slice A1 cur.stk.length c1)).frozen? ⟨g.p,i,none⟩=false:=free_blk ((block_far npq' _).trans HPB.out)
 refine rd1 (i:=19) (by kernel_rfl) rfl fun K hK=>?_
 go_simp
 refine hK.out _ _ (by rw [World.cell?_of_block (block_far npq _)];exact qcb) (fun hHeld2=>?_)
 try simp only [aZ]
 clear hK
 refine wpAnyH_done (by kernel_rfl) ?_ _
 have hw:(V.setCell ⟨g.q,2,none⟩ (.slice A1 cur.stk.length c1)).setCell ⟨g.p,1,none⟩ (.slice none 0 0)=Wh:=by rw [hWh.out]
 rw [hw]
 clear hw hHeld0 hHeld1 hHeld2 qcb p1b fpb p1 fp fq q2 q0 hlp hlq
 go_wp2_with (first
  | (go_at_call 219;refine KT.out.mono ?_;rintro e w4 (⟨rfl,q⟩|⟨st1,wt1,rfl,f4,g4,l4,h4⟩);exact ⟨rfl,Wh,EX.out,Or.inl ⟨rfl,FEL.out _ q⟩⟩;have z0:w4.cell? ⟨w.heap.size,0,none⟩=some (.int .i64 10):=((cell_blk (BXF.out _ _ _ _ _ _ f4)).trans rfl);have z1:w4.cell? ⟨w.heap.size,1,none⟩=some (.int .i64 ia):=((cell_blk (BXF.out _ _ _ _ _ _ f4)).trans rfl);have z2:w4.cell? ⟨w.heap.size,2,none⟩=some (.int .i64 ib):=((cell_blk (BXF.out _ _ _ _ _ _ f4)).trans rfl);have z3:w4.cell? ⟨w.heap.size,3,none⟩=some (.int .i64 ic):=((cell_blk (BXF.out _ _ _ _ _ _ f4)).trans rfl);have z4:w4.cell? ⟨w.heap.size,4,none⟩=some (.int .i64 ii):=((cell_blk (BXF.out _ _ _ _ _ _ f4)).trans rfl);have z5:w4.cell? ⟨w.heap.size,5,none⟩=some (.slice A0 n0 k0):=((cell_blk (BXF.out _ _ _ _ _ _ f4)).trans rfl);have hz0:=cell_lt z0;have F4:=hid f4;have G4:=hid g4;have L4:=hid l4;have H4:=hid h4;have qq:=Q2.out.q0 f4;have hqq:=cell_lt qq;clear f4 g4 l4 h4 KT))
 clear z0 z1 z2 z3 z4 z5 hz0 qq hqq
 have SS:Hid (∀bb cu aa ss ww w',FX XX Wh w1 g bb w' cu aa ss ww→w'.cell? ⟨g.q,0,none⟩=some (.pointer (some ⟨g.p,0,none⟩))∧w'.cell? ⟨w.heap.size,1,none⟩=some (.int .i64 ia)):=fun bb cu aa ss ww w' h=>⟨Q2.out.q0 h,(cell_blk (BXF.out _ _ _ _ _ _ h)).trans rfl⟩
 refine wp_region_held_drew (S:=fun w'=>w'.cell? ⟨g.q,0,none⟩=some (.pointer (some ⟨g.p,0,none⟩))∧w'.cell? ⟨w.heap.size,1,none⟩=some (.int .i64 ia)) (by kernel_rfl) ?_ (fun hHeld0=>?_)
 ·exact SS.out _ _ _ _ _ _ (F4.out.bl (Bl.refl _).drew)
 have lq:=cell_lt hHeld0.1
 have lz:=cell_lt hHeld0.2
 iterate 6 (refine tn rfl (by kernel_rfl) (fun _ _ _ h=>h) (by intro _ h;go_split_ands;go_simp<;>with_reducible rfl) hHeld0 ?_;try simp only [aZ])
 refine rd1 (i:=6) (by kernel_rfl) rfl fun K hK=>?_
 go_simp
 go_at_call 216
 refine (flead_any HC.out ia (F4.out.bl (Bl.refl w4).drew) G4.out HW.out.clr).mono ?_
 rintro e w5 (⟨rfl,q⟩|⟨st2,wt2,rfl,f5,g5,l5,p5⟩)
 ·exact ⟨rfl,Wh,EX.out,Or.inl ⟨rfl,FEL.out _ q⟩⟩
 have N5:=hid (And.intro f5 (And.intro g5 (And.intro l5 p5)))
 refine hK.out _ _ (SS.out _ _ _ _ _ _ f5) (fun hHeld1=>?_)
 try simp only [aZ]
 clear hK hHeld0 hHeld1 f5 g5 l5 p5 lq lz
 refine wpAnyH_done (by kernel_rfl) ?_ _
 go_wp2
 go_end0
 exact ⟨Wh,EX.out,Or.inr ⟨_,_,_,_,rfl,FXL.out _ _ _ _ _ _ N5.out.1,QX.out,N5.out.2.1,L4.out.trans HT.out N5.out.2.2.1,fun x hx=>(H4.out x hx).led' HT.out N5.out.2.2.1,N5.out.2.2.2⟩⟩
theorem qdo11 (Z:Dx f m X wx w0 w1 g b0 w cur at' st wt) (ia ib:Int) (ic:Nat) (ii:Int) (A0:Option Addr) (n0 k0:Nat) (hreg:(ic:Int)<m.regs) :
  Calls Tryz.prog 157 #[.pointer (some ⟨g.q,0,none⟩),insV 11 ia ib ic ii (.slice A0 n0 k0)] w fun e w'=>DQ f m X wx w0 w1 g b0 at' st wt cur.slots (fun st'=>(∃v,rdT 1 ic ⟨cur.slots,cur.stk⟩=some v)∧Leads f.classes st' ia ⟨cur.slots,[]⟩∧Leads f.classes st' (at'+1) ⟨cur.slots,[]⟩) e w':=by
 have HB:Hid (Bl w (w.alloc (insO 11 ia ib ic ii (.slice A0 n0 k0)))):=(Bl.refl w).alloc _
 have ZB:=hid (mblk (w:=w) (cs:=#[.int .i64 11,.int .i64 ia,.int .i64 ib,.int .i64 ic,.int .i64 ii,.slice A0 n0 k0]) (t:=58) rfl)
 have HC:=hid Z.C
 have HT:=hid (may_tree Z.C.may).1
 have HA:=hid Z.ha
 have HW:=hid Z.hc
 have HB0:=hid Z.hb0
 have HG:=hid Z.G
 have hr:=(smeP Z.C.me).1
 have hr9:=(smeP Z.C.me).2.1
 have HR:=hid (show 1≤m.regs∧m.regs≤90 from ⟨hr,hr9⟩)
 have HLS:Hid ((cur.slots.length:Int)=m.regs):=Z.hc.wq.wf.len
 have hwlt:=lt_some ZB.out
 have hq1:=Z.hq1
 obtain ⟨hv,Q⟩:=Z.Q
 have HH:=hid Z.H
 have W1:=hid (Z.H.wide HB.out)
 have Q1:=hid (Q.wide Z.H HB.out)
 have QXX:=hid Q.x
 obtain ⟨rv,vw,sp,F1⟩:=id W1.out
 obtain ⟨xf2,xq2,xd2,xe2⟩:=F1.hand Q1.out hq1 (by have:=Z.hc.wq.len;omega)
 have KT:=hid (qthrow_any Z.C xq2 (xf2.bl (Bl.refl _).drew) Z.G Z.hc.clr Z.hl Z.ho)
 have q0:=Q1.out.q0 W1.out
 have p1:(w.alloc (insO 11 ia ib ic ii (.slice A0 n0 k0))).drew.cell? ⟨g.p,1,none⟩=some (rv 1):=by show (w.alloc (insO 11 ia ib ic ii (.slice A0 n0 k0))).cell? _=_;rw [cell_blk F1.blk];rfl
 have HPB:=hid (show (w.alloc (insO 11 ia ib ic ii (.slice A0 n0 k0))).drew.heap[g.p]?=_ from F1.blk)
 have fp:=free_blk (show (w.alloc (insO 11 ia ib ic ii (.slice A0 n0 k0))).drew.heap[g.p]?=_ from F1.blk)
 obtain ⟨Aq,cq,hqb,-⟩:=Q1.out.at W1.out
 have hqb:(w.alloc (insO 11 ia ib ic ii (.slice A0 n0 k0))).drew.heap[g.q]?=_:=hqb
 have HQB:=hid hqb
 have fq:=free_blk hqb
 have q2:(w.alloc (insO 11 ia ib ic ii (.slice A0 n0 k0))).drew.cell? ⟨g.q,2,none⟩=some hv:=(cell_blk hqb).trans rfl
 have npq:g.q≠g.p:=(F1.far _ Q1.out.x).p
 have npq':g.p≠g.q:=fun e=>npq e.symm
 obtain ⟨A1,c1,e1,-,-⟩:=own_formT F1.row1
 have hlp:=lt_some F1.blk
 have hlq:=lt_some hqb
 -- what lies of the instruction behind the swap
 have nq:w.heap.size≠g.q:=fun e=>by
  have:=(F1.far w.heap.size (Or.inr ⟨Nat.le_refl _,hwlt⟩)).p
  have h2:=hqb
  have h3:(w.alloc (insO 11 ia ib ic ii (.slice A0 n0 k0))).drew.heap[w.heap.size]?=_:=ZB.out
  rw [←e,h3] at h2
  simp at h2
 have np:w.heap.size≠g.p:=(F1.far w.heap.size (Or.inr ⟨Nat.le_refl _,hwlt⟩)).p
 have ZH:Hid ((hdW (w.alloc (insO 11 ia ib ic ii (.slice A0 n0 k0))) g (rv 1)).heap[w.heap.size]?=some (.cells #[.int .i64 11,.int .i64 ia,.int .i64 ib,.int .i64 ic,.int .i64 ii,.slice A0 n0 k0] 58 (0,0))):=by
  show _=_
  rw [block_far np,block_far nq];exact ZB.out
 have F2:=hid xf2
 have Q2:=hid xq2
 have D2:=hid xd2
 have E2:=hid xe2
 clear xf2 xq2 xd2 xe2
 rw [e1] at F2 Q2 D2 E2 KT ZH p1
 clear Z Q hqb F1 e1 hr hr9 hq1
 have FXL:Hid (∀bb cu aa ss ww w',FX (Xh (Xf X w.heap.size (w.alloc (insO 11 ia ib ic ii (.slice A0 n0 k0))).heap.size) (.slice A1 cur.stk.length c1)) (hdW (w.alloc (insO 11 ia ib ic ii (.slice A0 n0 k0))) g (.slice A1 cur.stk.length c1)) w1 g bb w' cu aa ss ww→FX X (hdW (w.alloc (insO 11 ia ib ic ii (.slice A0 n0 k0))) g (.slice A1 cur.stk.length c1)) w1 g bb w' cu aa ss ww):=fun bb cu aa ss ww w' h=>h.less (fun b hb=>Or.inl (Or.inl hb))
 have FEL:Hid (∀w',FE (Xh (Xf X w.heap.size (w.alloc (insO 11 ia ib ic ii (.slice A0 n0 k0))).heap.size) (.slice A1 cur.stk.length c1)) (hdW (w.alloc (insO 11 ia ib ic ii (.slice A0 n0 k0))) g (.slice A1 cur.stk.length c1)) w1 g w'→FE X (hdW (w.alloc (insO 11 ia ib ic ii (.slice A0 n0 k0))) g (.slice A1 cur.stk.length c1)) w1 g w'):=fun w' ⟨a,b,c,d,e,h⟩=>⟨a,b,c,d,e,h.less (fun b hb=>Or.inl (Or.inl hb))⟩
 have BXF:Hid (∀bb cu aa ss ww w',FX (Xh (Xf X w.heap.size (w.alloc (insO 11 ia ib ic ii (.slice A0 n0 k0))).heap.size) (.slice A1 cur.stk.length c1)) (hdW (w.alloc (insO 11 ia ib ic ii (.slice A0 n0 k0))) g (.slice A1 cur.stk.length c1)) w1 g bb w' cu aa ss ww→w'.heap[w.heap.size]?=some (.cells #[.int .i64 11,.int .i64 ia,.int .i64 ib,.int .i64 ic,.int .i64 ii,.slice A0 n0 k0] 58 (0,0))):=fun bb cu aa ss ww w' ⟨rv,vw,sp,h⟩=>(h.kept.blk _ (Or.inl (Or.inr ⟨Nat.le_refl _,hwlt⟩))).2.trans ZH.out
 have EX:Hid (∀b,X b→b≠g.q→(hdW (w.alloc (insO 11 ia ib ic ii (.slice A0 n0 k0))) g (.slice A1 cur.stk.length c1)).heap[b]?=wx.heap[b]?):=fun b hb hn=>by
  obtain ⟨rv,vw,sp,h⟩:=HH.out
  obtain ⟨x1,x2⟩:=h.kept.blk b hb
  rw [E2.out b (Or.inl hb) hn,HB.out.block b (Nat.lt_of_lt_of_le x1 h.kept.size)]
  exact x2
 have QX:Hid (Qx X (hdW (w.alloc (insO 11 ia ib ic ii (.slice A0 n0 k0))) g (.slice A1 cur.stk.length c1)) w0 g f (.slice A1 cur.stk.length c1)):=by
  obtain ⟨Aq2,cq2,x1,x2⟩:=Q2.out.blk
  exact ⟨QXX.out,Aq2,cq2,x1,x2⟩
 clear E2 HB HH ZH W1 Q1
 generalize Xh (Xf X w.heap.size (w.alloc (insO 11 ia ib ic ii (.slice A0 n0 k0))).heap.size) (.slice A1 cur.stk.length c1)=XX at *
 obtain ⟨Wh,hWh⟩:∃Wh,Wh=hdW (w.alloc (insO 11 ia ib ic ii (.slice A0 n0 k0))) g (.slice A1 cur.stk.length c1):=⟨_,rfl⟩
 rw [←hWh] at FXL FEL BXF EX QX F2 Q2 D2 KT
 replace hWh:=hid hWh
 have HREG:=hid hreg
 clear hreg
 go_enter Tryz.func157,Tryz.ntmps157
 go_wp2
 generalize (w.alloc (insO 11 ia ib ic ii (.slice A0 n0 k0)))=V at *
 refine wp_region_held_drew (S:=fun w'=>w'.cell? ⟨g.q,0,none⟩=some (.pointer (some ⟨g.p,0,none⟩))) (by kernel_rfl) ?_ (fun hHeld0=>?_)
 ·exact q0
 iterate 12 (refine tn rfl (by kernel_rfl) (fun _ _ _ h=>h) (by intro _ h;go_split_ands;go_simp<;>with_reducible rfl) hHeld0 ?_;try simp only [aZ])
 refine rd1 (i:=12) (by kernel_rfl) rfl fun K hK=>?_
 go_simp
 refine hK.out _ _ hHeld0 (fun hHeld1=>?_)
 try simp only [aZ]
 clear hK hHeld1
 iterate 2 (refine tn rfl (by kernel_rfl) (fun _ _ _ h=>h) (by intro _ h;go_split_ands;go_simp<;>with_reducible rfl) hHeld0 ?_;try simp only [aZ])
 refine rd1 (i:=15) (by kernel_rfl) rfl fun K hK=>?_
 go_simp
 have qcb:(V.drew.setCell ⟨g.q,2,none⟩ (.slice A1 cur.stk.length c1)).cell? ⟨g.q,0,none⟩=some (.pointer (some ⟨g.p,0,none⟩)):=(cell_blk (block_set HQB.out _)).trans rfl
 refine hK.out _ _ qcb (fun hHeld1=>?_)
 try simp only [aZ]
 clear hK
 iterate 3 (refine tn rfl (by kernel_rfl) (fun _ _ _ h=>h) (by intro _ h;go_split_ands;go_simp<;>with_reducible rfl) hHeld1 ?_;try simp only [aZ])
 have p1b:(V.setCell ⟨g.q,2,none⟩ (.slice A1 cur.stk.length c1)).cell? ⟨g.p,1,none⟩=some (.slice A1 cur.stk.length c1):=by rw [World.cell?_of_block (block_far npq' _)];exact p1
 have fpb:∀i,(V.setCell ⟨g.q,2,none⟩ (.slice A1 cur.stk.length c1)).frozen? ⟨g.p,i,none⟩=false:=free_blk ((block_far npq' _).trans HPB.out)
 refine rd1 (i:=19) (by kernel_rfl) rfl fun K hK=>?_
 go_simp
 refine hK.out _ _ (by rw [World.cell?_of_block (block_far npq _)];exact qcb) (fun hHeld2=>?_)
 try simp only [aZ]
 clear hK
 refine wpAnyH_done (by kernel_rfl) ?_ _
 have hw:(V.setCell ⟨g.q,2,none⟩ (.slice A1 cur.stk.length c1)).setCell ⟨g.p,1,none⟩ (.slice none 0 0)=Wh:=by rw [hWh.out]
 rw [hw]
 clear hw hHeld0 hHeld1 hHeld2 qcb p1b fpb p1 fp fq q2 q0 hlp hlq
 go_wp2_with (first
  | (go_at_call 219;refine KT.out.mono ?_;rintro e w4 (⟨rfl,q⟩|⟨st1,wt1,rfl,f4,g4,l4,h4⟩);exact ⟨rfl,Wh,EX.out,Or.inl ⟨rfl,FEL.out _ q⟩⟩;have z0:w4.cell? ⟨w.heap.size,0,none⟩=some (.int .i64 11):=((cell_blk (BXF.out _ _ _ _ _ _ f4)).trans rfl);have z1:w4.cell? ⟨w.heap.size,1,none⟩=some (.int .i64 ia):=((cell_blk (BXF.out _ _ _ _ _ _ f4)).trans rfl);have z2:w4.cell? ⟨w.heap.size,2,none⟩=some (.int .i64 ib):=((cell_blk (BXF.out _ _ _ _ _ _ f4)).trans rfl);have z3:w4.cell? ⟨w.heap.size,3,none⟩=some (.int .i64 ic):=((cell_blk (BXF.out _ _ _ _ _ _ f4)).trans rfl);have z4:w4.cell? ⟨w.heap.size,4,none⟩=some (.int .i64 ii):=((cell_blk (BXF.out _ _ _ _ _ _ f4)).trans rfl);have z5:w4.cell? ⟨w.heap.size,5,none⟩=some (.slice A0 n0 k0):=((cell_blk (BXF.out _ _ _ _ _ _ f4)).trans rfl);have hz0:=cell_lt z0;have F4:=hid f4;have G4:=hid g4;have L4:=hid l4;have H4:=hid h4;have qq:=Q2.out.q0 f4;have hqq:=cell_lt qq;clear f4 g4 l4 h4 KT))
 clear z0 z1 z2 z3 z4 z5 hz0 qq hqq
 have SS:Hid (∀bb cu aa ss ww w',FX XX Wh w1 g bb w' cu aa ss ww→w'.cell? ⟨g.q,0,none⟩=some (.pointer (some ⟨g.p,0,none⟩))∧w'.cell? ⟨w.heap.size,3,none⟩=some (.int .i64 ic)):=fun bb cu aa ss ww w' h=>⟨Q2.out.q0 h,(cell_blk (BXF.out _ _ _ _ _ _ h)).trans rfl⟩
 have SS2:Hid (∀bb cu aa ss ww w',FX XX Wh w1 g bb w' cu aa ss ww→w'.cell? ⟨g.q,0,none⟩=some (.pointer (some ⟨g.p,0,none⟩))∧w'.cell? ⟨w.heap.size,1,none⟩=some (.int .i64 ia)):=fun bb cu aa ss ww w' h=>⟨Q2.out.q0 h,(cell_blk (BXF.out _ _ _ _ _ _ h)).trans rfl⟩
 have hl5:ic<cur.slots.length:=by have:=HREG.out;have:=HLS.out;omega
 have HL5:=hid hl5
 clear hl5
 refine wp_region_held_drew (S:=fun w'=>w'.cell? ⟨g.q,0,none⟩=some (.pointer (some ⟨g.p,0,none⟩))∧w'.cell? ⟨w.heap.size,3,none⟩=some (.int .i64 ic)) (by kernel_rfl) ?_ (fun hHeld0=>?_)
 ·exact SS.out _ _ _ _ _ _ (F4.out.bl (Bl.refl _).drew)
 have lq:=cell_lt hHeld0.1
 have lz:=cell_lt hHeld0.2
 iterate 8 (refine tn rfl (by kernel_rfl) (fun _ _ _ h=>h) (by intro _ h;go_split_ands;go_simp<;>with_reducible rfl) hHeld0 ?_;try simp only [aZ])
 refine rd1 (i:=8) (by kernel_rfl) rfl fun K hK=>?_
 go_simp
 go_at_call 220
 have R5:=hid ((F4.out.bl (Bl.refl w4).drew).rc HC.out Q2.out D2.out HW.out.wq.clr HR.out.1)
 refine (qread_any R5.out ic 1 HL5.out).mono ?_
 rintro e w5 ⟨he,b5⟩
 have F5:=hid ((F4.out.bl (Bl.refl w4).drew).bl b5)
 clear b5
 cases hv1:rdT 1 ic (⟨cur.slots,cur.stk⟩:As) with
 | none =>
  rw [hv1] at he
  have he:e=upE:=he
  subst he
  exact ⟨rfl,Wh,EX.out,Or.inl ⟨rfl,FEL.out _ F5.out.fe⟩⟩
 | some v =>
  rw [hv1] at he
  have he:e=.returned (fvV v):=he
  subst he
  have HV1:=hid hv1
  clear hv1
  refine hK.out _ _ (SS.out _ _ _ _ _ _ F5.out) (fun hHeld1=>?_)
  try simp only [aZ]
  clear hK hHeld0 hHeld1 lq lz
  refine wpAnyH_done (by kernel_rfl) ?_ _
  go_wp2
  refine wp_region_held_drew (S:=fun w'=>w'.cell? ⟨g.q,0,none⟩=some (.pointer (some ⟨g.p,0,none⟩))∧w'.cell? ⟨w.heap.size,1,none⟩=some (.int .i64 ia)) (by kernel_rfl) ?_ (fun hHeld0=>?_)
  ·exact SS2.out _ _ _ _ _ _ (F5.out.bl (Bl.refl _).drew)
  have lq:=cell_lt hHeld0.1
  have lz:=cell_lt hHeld0.2
  iterate 6 (refine tn rfl (by kernel_rfl) (fun _ _ _ h=>h) (by intro _ h;go_split_ands;go_simp<;>with_reducible rfl) hHeld0 ?_;try simp only [aZ])
  refine rd1 (i:=6) (by kernel_rfl) rfl fun K hK=>?_
  go_simp
  go_at_call 221
  refine (fbranch_any HC.out ia (F5.out.bl (Bl.refl w5).drew) G4.out HW.out.clr HA.out).mono ?_
  rintro e w6 (⟨rfl,q⟩|⟨st2,wt2,rfl,f6,g6,l6,p6⟩)
  ·exact ⟨rfl,Wh,EX.out,Or.inl ⟨rfl,FEL.out _ q⟩⟩
  have N6:=hid (And.intro f6 (And.intro g6 (And.intro l6 p6)))
  refine hK.out _ _ (SS2.out _ _ _ _ _ _ f6) (fun hHeld1=>?_)
  try simp only [aZ]
  clear hK hHeld0 hHeld1 f6 g6 l6 p6 lq lz
  refine wpAnyH_done (by kernel_rfl) ?_ _
  go_wp2
  go_end0
  exact ⟨Wh,EX.out,Or.inr ⟨_,_,_,_,rfl,FXL.out _ _ _ _ _ _ N6.out.1,QX.out,N6.out.2.1,L4.out.trans HT.out N6.out.2.2.1,fun x hx=>(H4.out x hx).led' HT.out N6.out.2.2.1,⟨⟨v,HV1.out⟩,N6.out.2.2.2⟩⟩⟩
theorem qdo12 (Z:Dx f m X wx w0 w1 g b0 w cur at' st wt) (ia ib:Int) (ic:Nat) (ii:Int) (A0:Option Addr) (n0 k0:Nat) (hreg:(ic:Int)<m.regs) :
  Calls Tryz.prog 157 #[.pointer (some ⟨g.q,0,none⟩),insV 12 ia ib ic ii (.slice A0 n0 k0)] w fun e w'=>DQ f m X wx w0 w1 g b0 at' st wt cur.slots (fun st'=>(∃v,rdT 3 ic ⟨cur.slots,cur.stk⟩=some v)∧Leads f.classes st' ia ⟨cur.slots,[]⟩∧Leads f.classes st' (at'+1) ⟨cur.slots,[]⟩) e w':=by
 have HB:Hid (Bl w (w.alloc (insO 12 ia ib ic ii (.slice A0 n0 k0)))):=(Bl.refl w).alloc _
 have ZB:=hid (mblk (w:=w) (cs:=#[.int .i64 12,.int .i64 ia,.int .i64 ib,.int .i64 ic,.int .i64 ii,.slice A0 n0 k0]) (t:=58) rfl)
 have HC:=hid Z.C
 have HT:=hid (may_tree Z.C.may).1
 have HA:=hid Z.ha
 have HW:=hid Z.hc
 have HB0:=hid Z.hb0
 have HG:=hid Z.G
 have hr:=(smeP Z.C.me).1
 have hr9:=(smeP Z.C.me).2.1
 have HR:=hid (show 1≤m.regs∧m.regs≤90 from ⟨hr,hr9⟩)
 have HLS:Hid ((cur.slots.length:Int)=m.regs):=Z.hc.wq.wf.len
 have hwlt:=lt_some ZB.out
 have hq1:=Z.hq1
 obtain ⟨hv,Q⟩:=Z.Q
 have HH:=hid Z.H
 have W1:=hid (Z.H.wide HB.out)
 have Q1:=hid (Q.wide Z.H HB.out)
 have QXX:=hid Q.x
 obtain ⟨rv,vw,sp,F1⟩:=id W1.out
 obtain ⟨xf2,xq2,xd2,xe2⟩:=F1.hand Q1.out hq1 (by have:=Z.hc.wq.len;omega)
 have KT:=hid (qthrow_any Z.C xq2 (xf2.bl (Bl.refl _).drew) Z.G Z.hc.clr Z.hl Z.ho)
 have q0:=Q1.out.q0 W1.out
 have p1:(w.alloc (insO 12 ia ib ic ii (.slice A0 n0 k0))).drew.cell? ⟨g.p,1,none⟩=some (rv 1):=by show (w.alloc (insO 12 ia ib ic ii (.slice A0 n0 k0))).cell? _=_;rw [cell_blk F1.blk];rfl
 have HPB:=hid (show (w.alloc (insO 12 ia ib ic ii (.slice A0 n0 k0))).drew.heap[g.p]?=_ from F1.blk)
 have fp:=free_blk (show (w.alloc (insO 12 ia ib ic ii (.slice A0 n0 k0))).drew.heap[g.p]?=_ from F1.blk)
 obtain ⟨Aq,cq,hqb,-⟩:=Q1.out.at W1.out
 have hqb:(w.alloc (insO 12 ia ib ic ii (.slice A0 n0 k0))).drew.heap[g.q]?=_:=hqb
 have HQB:=hid hqb
 have fq:=free_blk hqb
 have q2:(w.alloc (insO 12 ia ib ic ii (.slice A0 n0 k0))).drew.cell? ⟨g.q,2,none⟩=some hv:=(cell_blk hqb).trans rfl
 have npq:g.q≠g.p:=(F1.far _ Q1.out.x).p
 have npq':g.p≠g.q:=fun e=>npq e.symm
 obtain ⟨A1,c1,e1,-,-⟩:=own_formT F1.row1
 have hlp:=lt_some F1.blk
 have hlq:=lt_some hqb
 -- what lies of the instruction behind the swap
 have nq:w.heap.size≠g.q:=fun e=>by
  have:=(F1.far w.heap.size (Or.inr ⟨Nat.le_refl _,hwlt⟩)).p
  have h2:=hqb
  have h3:(w.alloc (insO 12 ia ib ic ii (.slice A0 n0 k0))).drew.heap[w.heap.size]?=_:=ZB.out
  rw [←e,h3] at h2
  simp at h2
 have np:w.heap.size≠g.p:=(F1.far w.heap.size (Or.inr ⟨Nat.le_refl _,hwlt⟩)).p
 have ZH:Hid ((hdW (w.alloc (insO 12 ia ib ic ii (.slice A0 n0 k0))) g (rv 1)).heap[w.heap.size]?=some (.cells #[.int .i64 12,.int .i64 ia,.int .i64 ib,.int .i64 ic,.int .i64 ii,.slice A0 n0 k0] 58 (0,0))):=by
  show _=_
  rw [block_far np,block_far nq];exact ZB.out
 have F2:=hid xf2
 have Q2:=hid xq2
 have D2:=hid xd2
 have E2:=hid xe2
 clear xf2 xq2 xd2 xe2
 rw [e1] at F2 Q2 D2 E2 KT ZH p1
 clear Z Q hqb F1 e1 hr hr9 hq1
 have FXL:Hid (∀bb cu aa ss ww w',FX (Xh (Xf X w.heap.size (w.alloc (insO 12 ia ib ic ii (.slice A0 n0 k0))).heap.size) (.slice A1 cur.stk.length c1)) (hdW (w.alloc (insO 12 ia ib ic ii (.slice A0 n0 k0))) g (.slice A1 cur.stk.length c1)) w1 g bb w' cu aa ss ww→FX X (hdW (w.alloc (insO 12 ia ib ic ii (.slice A0 n0 k0))) g (.slice A1 cur.stk.length c1)) w1 g bb w' cu aa ss ww):=fun bb cu aa ss ww w' h=>h.less (fun b hb=>Or.inl (Or.inl hb))
 have FEL:Hid (∀w',FE (Xh (Xf X w.heap.size (w.alloc (insO 12 ia ib ic ii (.slice A0 n0 k0))).heap.size) (.slice A1 cur.stk.length c1)) (hdW (w.alloc (insO 12 ia ib ic ii (.slice A0 n0 k0))) g (.slice A1 cur.stk.length c1)) w1 g w'→FE X (hdW (w.alloc (insO 12 ia ib ic ii (.slice A0 n0 k0))) g (.slice A1 cur.stk.length c1)) w1 g w'):=fun w' ⟨a,b,c,d,e,h⟩=>⟨a,b,c,d,e,h.less (fun b hb=>Or.inl (Or.inl hb))⟩
 have BXF:Hid (∀bb cu aa ss ww w',FX (Xh (Xf X w.heap.size (w.alloc (insO 12 ia ib ic ii (.slice A0 n0 k0))).heap.size) (.slice A1 cur.stk.length c1)) (hdW (w.alloc (insO 12 ia ib ic ii (.slice A0 n0 k0))) g (.slice A1 cur.stk.length c1)) w1 g bb w' cu aa ss ww→w'.heap[w.heap.size]?=some (.cells #[.int .i64 12,.int .i64 ia,.int .i64 ib,.int .i64 ic,.int .i64 ii,.slice A0 n0 k0] 58 (0,0))):=fun bb cu aa ss ww w' ⟨rv,vw,sp,h⟩=>(h.kept.blk _ (Or.inl (Or.inr ⟨Nat.le_refl _,hwlt⟩))).2.trans ZH.out
 have EX:Hid (∀b,X b→b≠g.q→(hdW (w.alloc (insO 12 ia ib ic ii (.slice A0 n0 k0))) g (.slice A1 cur.stk.length c1)).heap[b]?=wx.heap[b]?):=fun b hb hn=>by
  obtain ⟨rv,vw,sp,h⟩:=HH.out
  obtain ⟨x1,x2⟩:=h.kept.blk b hb
  rw [E2.out b (Or.inl hb) hn,HB.out.block b (Nat.lt_of_lt_of_le x1 h.kept.size)]
  exact x2
 have QX:Hid (Qx X (hdW (w.alloc (insO 12 ia ib ic ii (.slice A0 n0 k0))) g (.slice A1 cur.stk.length c1)) w0 g f (.slice A1 cur.stk.length c1)):=by
  obtain ⟨Aq2,cq2,x1,x2⟩:=Q2.out.blk
  exact ⟨QXX.out,Aq2,cq2,x1,x2⟩
 clear E2 HB HH ZH W1 Q1
 generalize Xh (Xf X w.heap.size (w.alloc (insO 12 ia ib ic ii (.slice A0 n0 k0))).heap.size) (.slice A1 cur.stk.length c1)=XX at *
 obtain ⟨Wh,hWh⟩:∃Wh,Wh=hdW (w.alloc (insO 12 ia ib ic ii (.slice A0 n0 k0))) g (.slice A1 cur.stk.length c1):=⟨_,rfl⟩
 rw [←hWh] at FXL FEL BXF EX QX F2 Q2 D2 KT
 replace hWh:=hid hWh
 have HREG:=hid hreg
 clear hreg
 go_enter Tryz.func157,Tryz.ntmps157
 go_wp2
 generalize (w.alloc (insO 12 ia ib ic ii (.slice A0 n0 k0)))=V at *
 refine wp_region_held_drew (S:=fun w'=>w'.cell? ⟨g.q,0,none⟩=some (.pointer (some ⟨g.p,0,none⟩))) (by kernel_rfl) ?_ (fun hHeld0=>?_)
 ·exact q0
 iterate 12 (refine tn rfl (by kernel_rfl) (fun _ _ _ h=>h) (by intro _ h;go_split_ands;go_simp<;>with_reducible rfl) hHeld0 ?_;try simp only [aZ])
 refine rd1 (i:=12) (by kernel_rfl) rfl fun K hK=>?_
 go_simp
 refine hK.out _ _ hHeld0 (fun hHeld1=>?_)
 try simp only [aZ]
 clear hK hHeld1
 iterate 2 (refine tn rfl (by kernel_rfl) (fun _ _ _ h=>h) (by intro _ h;go_split_ands;go_simp<;>with_reducible rfl) hHeld0 ?_;try simp only [aZ])
 refine rd1 (i:=15) (by kernel_rfl) rfl fun K hK=>?_
 go_simp
 have qcb:(V.drew.setCell ⟨g.q,2,none⟩ (.slice A1 cur.stk.length c1)).cell? ⟨g.q,0,none⟩=some (.pointer (some ⟨g.p,0,none⟩)):=(cell_blk (block_set HQB.out _)).trans rfl
 refine hK.out _ _ qcb (fun hHeld1=>?_)
 try simp only [aZ]
 clear hK
 iterate 3 (refine tn rfl (by kernel_rfl) (fun _ _ _ h=>h) (by intro _ h;go_split_ands;go_simp<;>with_reducible rfl) hHeld1 ?_;try simp only [aZ])
 have p1b:(V.setCell ⟨g.q,2,none⟩ (.slice A1 cur.stk.length c1)).cell? ⟨g.p,1,none⟩=some (.slice A1 cur.stk.length c1):=by rw [World.cell?_of_block (block_far npq' _)];exact p1
 have fpb:∀i,(V.setCell ⟨g.q,2,none⟩ (.slice A1 cur.stk.length c1)).frozen? ⟨g.p,i,none⟩=false:=free_blk ((block_far npq' _).trans HPB.out)
 refine rd1 (i:=19) (by kernel_rfl) rfl fun K hK=>?_
 go_simp
 refine hK.out _ _ (by rw [World.cell?_of_block (block_far npq _)];exact qcb) (fun hHeld2=>?_)
 try simp only [aZ]
 clear hK
 refine wpAnyH_done (by kernel_rfl) ?_ _
 have hw:(V.setCell ⟨g.q,2,none⟩ (.slice A1 cur.stk.length c1)).setCell ⟨g.p,1,none⟩ (.slice none 0 0)=Wh:=by rw [hWh.out]
 rw [hw]
 clear hw hHeld0 hHeld1 hHeld2 qcb p1b fpb p1 fp fq q2 q0 hlp hlq
 go_wp2_with (first
  | (go_at_call 219;refine KT.out.mono ?_;rintro e w4 (⟨rfl,q⟩|⟨st1,wt1,rfl,f4,g4,l4,h4⟩);exact ⟨rfl,Wh,EX.out,Or.inl ⟨rfl,FEL.out _ q⟩⟩;have z0:w4.cell? ⟨w.heap.size,0,none⟩=some (.int .i64 12):=((cell_blk (BXF.out _ _ _ _ _ _ f4)).trans rfl);have z1:w4.cell? ⟨w.heap.size,1,none⟩=some (.int .i64 ia):=((cell_blk (BXF.out _ _ _ _ _ _ f4)).trans rfl);have z2:w4.cell? ⟨w.heap.size,2,none⟩=some (.int .i64 ib):=((cell_blk (BXF.out _ _ _ _ _ _ f4)).trans rfl);have z3:w4.cell? ⟨w.heap.size,3,none⟩=some (.int .i64 ic):=((cell_blk (BXF.out _ _ _ _ _ _ f4)).trans rfl);have z4:w4.cell? ⟨w.heap.size,4,none⟩=some (.int .i64 ii):=((cell_blk (BXF.out _ _ _ _ _ _ f4)).trans rfl);have z5:w4.cell? ⟨w.heap.size,5,none⟩=some (.slice A0 n0 k0):=((cell_blk (BXF.out _ _ _ _ _ _ f4)).trans rfl);have hz0:=cell_lt z0;have F4:=hid f4;have G4:=hid g4;have L4:=hid l4;have H4:=hid h4;have qq:=Q2.out.q0 f4;have hqq:=cell_lt qq;clear f4 g4 l4 h4 KT))
 clear z0 z1 z2 z3 z4 z5 hz0 qq hqq
 have SS:Hid (∀bb cu aa ss ww w',FX XX Wh w1 g bb w' cu aa ss ww→w'.cell? ⟨g.q,0,none⟩=some (.pointer (some ⟨g.p,0,none⟩))∧w'.cell? ⟨w.heap.size,3,none⟩=some (.int .i64 ic)):=fun bb cu aa ss ww w' h=>⟨Q2.out.q0 h,(cell_blk (BXF.out _ _ _ _ _ _ h)).trans rfl⟩
 have SS2:Hid (∀bb cu aa ss ww w',FX XX Wh w1 g bb w' cu aa ss ww→w'.cell? ⟨g.q,0,none⟩=some (.pointer (some ⟨g.p,0,none⟩))∧w'.cell? ⟨w.heap.size,1,none⟩=some (.int .i64 ia)):=fun bb cu aa ss ww w' h=>⟨Q2.out.q0 h,(cell_blk (BXF.out _ _ _ _ _ _ h)).trans rfl⟩
 have hl5:ic<cur.slots.length:=by have:=HREG.out;have:=HLS.out;omega
 have HL5:=hid hl5
 clear hl5
 refine wp_region_held_drew (S:=fun w'=>w'.cell? ⟨g.q,0,none⟩=some (.pointer (some ⟨g.p,0,none⟩))∧w'.cell? ⟨w.heap.size,3,none⟩=some (.int .i64 ic)) (by kernel_rfl) ?_ (fun hHeld0=>?_)
 ·exact SS.out _ _ _ _ _ _ (F4.out.bl (Bl.refl _).drew)
 have lq:=cell_lt hHeld0.1
 have lz:=cell_lt hHeld0.2
 iterate 8 (refine tn rfl (by kernel_rfl) (fun _ _ _ h=>h) (by intro _ h;go_split_ands;go_simp<;>with_reducible rfl) hHeld0 ?_;try simp only [aZ])
 refine rd1 (i:=8) (by kernel_rfl) rfl fun K hK=>?_
 go_simp
 go_at_call 220
 have R5:=hid ((F4.out.bl (Bl.refl w4).drew).rc HC.out Q2.out D2.out HW.out.wq.clr HR.out.1)
 refine (qread_any R5.out ic 3 HL5.out).mono ?_
 rintro e w5 ⟨he,b5⟩
 have F5:=hid ((F4.out.bl (Bl.refl w4).drew).bl b5)
 clear b5
 cases hv1:rdT 3 ic (⟨cur.slots,cur.stk⟩:As) with
 | none =>
  rw [hv1] at he
  have he:e=upE:=he
  subst he
  exact ⟨rfl,Wh,EX.out,Or.inl ⟨rfl,FEL.out _ F5.out.fe⟩⟩
 | some v =>
  rw [hv1] at he
  have he:e=.returned (fvV v):=he
  subst he
  have HV1:=hid hv1
  clear hv1
  refine hK.out _ _ (SS.out _ _ _ _ _ _ F5.out) (fun hHeld1=>?_)
  try simp only [aZ]
  clear hK hHeld0 hHeld1 lq lz
  refine wpAnyH_done (by kernel_rfl) ?_ _
  go_wp2
  refine wp_region_held_drew (S:=fun w'=>w'.cell? ⟨g.q,0,none⟩=some (.pointer (some ⟨g.p,0,none⟩))∧w'.cell? ⟨w.heap.size,1,none⟩=some (.int .i64 ia)) (by kernel_rfl) ?_ (fun hHeld0=>?_)
  ·exact SS2.out _ _ _ _ _ _ (F5.out.bl (Bl.refl _).drew)
  have lq:=cell_lt hHeld0.1
  have lz:=cell_lt hHeld0.2
  iterate 6 (refine tn rfl (by kernel_rfl) (fun _ _ _ h=>h) (by intro _ h;go_split_ands;go_simp<;>with_reducible rfl) hHeld0 ?_;try simp only [aZ])
  refine rd1 (i:=6) (by kernel_rfl) rfl fun K hK=>?_
  go_simp
  go_at_call 221
  refine (fbranch_any HC.out ia (F5.out.bl (Bl.refl w5).drew) G4.out HW.out.clr HA.out).mono ?_
  rintro e w6 (⟨rfl,q⟩|⟨st2,wt2,rfl,f6,g6,l6,p6⟩)
  ·exact ⟨rfl,Wh,EX.out,Or.inl ⟨rfl,FEL.out _ q⟩⟩
  have N6:=hid (And.intro f6 (And.intro g6 (And.intro l6 p6)))
  refine hK.out _ _ (SS2.out _ _ _ _ _ _ f6) (fun hHeld1=>?_)
  try simp only [aZ]
  clear hK hHeld0 hHeld1 f6 g6 l6 p6 lq lz
  refine wpAnyH_done (by kernel_rfl) ?_ _
  go_wp2
  go_end0
  exact ⟨Wh,EX.out,Or.inr ⟨_,_,_,_,rfl,FXL.out _ _ _ _ _ _ N6.out.1,QX.out,N6.out.2.1,L4.out.trans HT.out N6.out.2.2.1,fun x hx=>(H4.out x hx).led' HT.out N6.out.2.2.1,⟨⟨v,HV1.out⟩,N6.out.2.2.2⟩⟩⟩
theorem qdo21 (Z:Dx f m X wx w0 w1 g b0 w cur at' st wt) (ia:Nat) (ib ic ii:Int) (A0:Option Addr) (n0 k0:Nat) (hreg:(ia:Int)<m.regs) :
  Calls Tryz.prog 157 #[.pointer (some ⟨g.q,0,none⟩),insV 21 ia ib ic ii (.slice A0 n0 k0)] w fun e w'=>DQ f m X wx w0 w1 g b0 at' st wt cur.slots (fun st'=>∃v,rdT 3 ia ⟨cur.slots,cur.stk⟩=some v) e w':=by
 have HB:Hid (Bl w (w.alloc (insO 21 ia ib ic ii (.slice A0 n0 k0)))):=(Bl.refl w).alloc _
 have ZB:=hid (mblk (w:=w) (cs:=#[.int .i64 21,.int .i64 ia,.int .i64 ib,.int .i64 ic,.int .i64 ii,.slice A0 n0 k0]) (t:=58) rfl)
 have HC:=hid Z.C
 have HT:=hid (may_tree Z.C.may).1
 have HA:=hid Z.ha
 have HW:=hid Z.hc
 have HB0:=hid Z.hb0
 have HG:=hid Z.G
 have hr:=(smeP Z.C.me).1
 have hr9:=(smeP Z.C.me).2.1
 have HR:=hid (show 1≤m.regs∧m.regs≤90 from ⟨hr,hr9⟩)
 have HLS:Hid ((cur.slots.length:Int)=m.regs):=Z.hc.wq.wf.len
 have hwlt:=lt_some ZB.out
 have hq1:=Z.hq1
 obtain ⟨hv,Q⟩:=Z.Q
 have HH:=hid Z.H
 have W1:=hid (Z.H.wide HB.out)
 have Q1:=hid (Q.wide Z.H HB.out)
 have QXX:=hid Q.x
 obtain ⟨rv,vw,sp,F1⟩:=id W1.out
 obtain ⟨xf2,xq2,xd2,xe2⟩:=F1.hand Q1.out hq1 (by have:=Z.hc.wq.len;omega)
 have KT:=hid (qthrow_any Z.C xq2 (xf2.bl (Bl.refl _).drew) Z.G Z.hc.clr Z.hl Z.ho)
 have q0:=Q1.out.q0 W1.out
 have p1:(w.alloc (insO 21 ia ib ic ii (.slice A0 n0 k0))).drew.cell? ⟨g.p,1,none⟩=some (rv 1):=by show (w.alloc (insO 21 ia ib ic ii (.slice A0 n0 k0))).cell? _=_;rw [cell_blk F1.blk];rfl
 have HPB:=hid (show (w.alloc (insO 21 ia ib ic ii (.slice A0 n0 k0))).drew.heap[g.p]?=_ from F1.blk)
 have fp:=free_blk (show (w.alloc (insO 21 ia ib ic ii (.slice A0 n0 k0))).drew.heap[g.p]?=_ from F1.blk)
 obtain ⟨Aq,cq,hqb,-⟩:=Q1.out.at W1.out
 have hqb:(w.alloc (insO 21 ia ib ic ii (.slice A0 n0 k0))).drew.heap[g.q]?=_:=hqb
 have HQB:=hid hqb
 have fq:=free_blk hqb
 have q2:(w.alloc (insO 21 ia ib ic ii (.slice A0 n0 k0))).drew.cell? ⟨g.q,2,none⟩=some hv:=(cell_blk hqb).trans rfl
 have npq:g.q≠g.p:=(F1.far _ Q1.out.x).p
 have npq':g.p≠g.q:=fun e=>npq e.symm
 obtain ⟨A1,c1,e1,-,-⟩:=own_formT F1.row1
 have hlp:=lt_some F1.blk
 have hlq:=lt_some hqb
 -- what lies of the instruction behind the swap
 have nq:w.heap.size≠g.q:=fun e=>by
  have:=(F1.far w.heap.size (Or.inr ⟨Nat.le_refl _,hwlt⟩)).p
  have h2:=hqb
  have h3:(w.alloc (insO 21 ia ib ic ii (.slice A0 n0 k0))).drew.heap[w.heap.size]?=_:=ZB.out
  rw [←e,h3] at h2
  simp at h2
 have np:w.heap.size≠g.p:=(F1.far w.heap.size (Or.inr ⟨Nat.le_refl _,hwlt⟩)).p
 have ZH:Hid ((hdW (w.alloc (insO 21 ia ib ic ii (.slice A0 n0 k0))) g (rv 1)).heap[w.heap.size]?=some (.cells #[.int .i64 21,.int .i64 ia,.int .i64 ib,.int .i64 ic,.int .i64 ii,.slice A0 n0 k0] 58 (0,0))):=by
  show _=_
  rw [block_far np,block_far nq];exact ZB.out
 have F2:=hid xf2
 have Q2:=hid xq2
 have D2:=hid xd2
 have E2:=hid xe2
 clear xf2 xq2 xd2 xe2
 rw [e1] at F2 Q2 D2 E2 KT ZH p1
 clear Z Q hqb F1 e1 hr hr9 hq1
 have FXL:Hid (∀bb cu aa ss ww w',FX (Xh (Xf X w.heap.size (w.alloc (insO 21 ia ib ic ii (.slice A0 n0 k0))).heap.size) (.slice A1 cur.stk.length c1)) (hdW (w.alloc (insO 21 ia ib ic ii (.slice A0 n0 k0))) g (.slice A1 cur.stk.length c1)) w1 g bb w' cu aa ss ww→FX X (hdW (w.alloc (insO 21 ia ib ic ii (.slice A0 n0 k0))) g (.slice A1 cur.stk.length c1)) w1 g bb w' cu aa ss ww):=fun bb cu aa ss ww w' h=>h.less (fun b hb=>Or.inl (Or.inl hb))
 have FEL:Hid (∀w',FE (Xh (Xf X w.heap.size (w.alloc (insO 21 ia ib ic ii (.slice A0 n0 k0))).heap.size) (.slice A1 cur.stk.length c1)) (hdW (w.alloc (insO 21 ia ib ic ii (.slice A0 n0 k0))) g (.slice A1 cur.stk.length c1)) w1 g w'→FE X (hdW (w.alloc (insO 21 ia ib ic ii (.slice A0 n0 k0))) g (.slice A1 cur.stk.length c1)) w1 g w'):=fun w' ⟨a,b,c,d,e,h⟩=>⟨a,b,c,d,e,h.less (fun b hb=>Or.inl (Or.inl hb))⟩
 have BXF:Hid (∀bb cu aa ss ww w',FX (Xh (Xf X w.heap.size (w.alloc (insO 21 ia ib ic ii (.slice A0 n0 k0))).heap.size) (.slice A1 cur.stk.length c1)) (hdW (w.alloc (insO 21 ia ib ic ii (.slice A0 n0 k0))) g (.slice A1 cur.stk.length c1)) w1 g bb w' cu aa ss ww→w'.heap[w.heap.size]?=some (.cells #[.int .i64 21,.int .i64 ia,.int .i64 ib,.int .i64 ic,.int .i64 ii,.slice A0 n0 k0] 58 (0,0))):=fun bb cu aa ss ww w' ⟨rv,vw,sp,h⟩=>(h.kept.blk _ (Or.inl (Or.inr ⟨Nat.le_refl _,hwlt⟩))).2.trans ZH.out
 have EX:Hid (∀b,X b→b≠g.q→(hdW (w.alloc (insO 21 ia ib ic ii (.slice A0 n0 k0))) g (.slice A1 cur.stk.length c1)).heap[b]?=wx.heap[b]?):=fun b hb hn=>by
  obtain ⟨rv,vw,sp,h⟩:=HH.out
  obtain ⟨x1,x2⟩:=h.kept.blk b hb
  rw [E2.out b (Or.inl hb) hn,HB.out.block b (Nat.lt_of_lt_of_le x1 h.kept.size)]
  exact x2
 have QX:Hid (Qx X (hdW (w.alloc (insO 21 ia ib ic ii (.slice A0 n0 k0))) g (.slice A1 cur.stk.length c1)) w0 g f (.slice A1 cur.stk.length c1)):=by
  obtain ⟨Aq2,cq2,x1,x2⟩:=Q2.out.blk
  exact ⟨QXX.out,Aq2,cq2,x1,x2⟩
 clear E2 HB HH ZH W1 Q1
 generalize Xh (Xf X w.heap.size (w.alloc (insO 21 ia ib ic ii (.slice A0 n0 k0))).heap.size) (.slice A1 cur.stk.length c1)=XX at *
 obtain ⟨Wh,hWh⟩:∃Wh,Wh=hdW (w.alloc (insO 21 ia ib ic ii (.slice A0 n0 k0))) g (.slice A1 cur.stk.length c1):=⟨_,rfl⟩
 rw [←hWh] at FXL FEL BXF EX QX F2 Q2 D2 KT
 replace hWh:=hid hWh
 have HREG:=hid hreg
 clear hreg
 go_enter Tryz.func157,Tryz.ntmps157
 go_wp2
 generalize (w.alloc (insO 21 ia ib ic ii (.slice A0 n0 k0)))=V at *
 refine wp_region_held_drew (S:=fun w'=>w'.cell? ⟨g.q,0,none⟩=some (.pointer (some ⟨g.p,0,none⟩))) (by kernel_rfl) ?_ (fun hHeld0=>?_)
 ·exact q0
 iterate 12 (refine tn rfl (by kernel_rfl) (fun _ _ _ h=>h) (by intro _ h;go_split_ands;go_simp<;>with_reducible rfl) hHeld0 ?_;try simp only [aZ])
 refine rd1 (i:=12) (by kernel_rfl) rfl fun K hK=>?_
 go_simp
 refine hK.out _ _ hHeld0 (fun hHeld1=>?_)
 try simp only [aZ]
 clear hK hHeld1
 iterate 2 (refine tn rfl (by kernel_rfl) (fun _ _ _ h=>h) (by intro _ h;go_split_ands;go_simp<;>with_reducible rfl) hHeld0 ?_;try simp only [aZ])
 refine rd1 (i:=15) (by kernel_rfl) rfl fun K hK=>?_
 go_simp
 have qcb:(V.drew.setCell ⟨g.q,2,none⟩ (.slice A1 cur.stk.length c1)).cell? ⟨g.q,0,none⟩=some (.pointer (some ⟨g.p,0,none⟩)):=(cell_blk (block_set HQB.out _)).trans rfl
 refine hK.out _ _ qcb (fun hHeld1=>?_)
 try simp only [aZ]
 clear hK
 iterate 3 (refine tn rfl (by kernel_rfl) (fun _ _ _ h=>h) (by intro _ h;go_split_ands;go_simp<;>with_reducible rfl) hHeld1 ?_;try simp only [aZ])
 have p1b:(V.setCell ⟨g.q,2,none⟩ (.slice A1 cur.stk.length c1)).cell? ⟨g.p,1,none⟩=some (.slice A1 cur.stk.length c1):=by rw [World.cell?_of_block (block_far npq' _)];exact p1
 have fpb:∀i,(V.setCell ⟨g.q,2,none⟩ (.slice A1 cur.stk.length c1)).frozen? ⟨g.p,i,none⟩=false:=free_blk ((block_far npq' _).trans HPB.out)
 refine rd1 (i:=19) (by kernel_rfl) rfl fun K hK=>?_
 go_simp
 refine hK.out _ _ (by rw [World.cell?_of_block (block_far npq _)];exact qcb) (fun hHeld2=>?_)
 try simp only [aZ]
 clear hK
 refine wpAnyH_done (by kernel_rfl) ?_ _
 have hw:(V.setCell ⟨g.q,2,none⟩ (.slice A1 cur.stk.length c1)).setCell ⟨g.p,1,none⟩ (.slice none 0 0)=Wh:=by rw [hWh.out]
 rw [hw]
 clear hw hHeld0 hHeld1 hHeld2 qcb p1b fpb p1 fp fq q2 q0 hlp hlq
 go_wp2_with (first
  | (go_at_call 219;refine KT.out.mono ?_;rintro e w4 (⟨rfl,q⟩|⟨st1,wt1,rfl,f4,g4,l4,h4⟩);exact ⟨rfl,Wh,EX.out,Or.inl ⟨rfl,FEL.out _ q⟩⟩;have z0:w4.cell? ⟨w.heap.size,0,none⟩=some (.int .i64 21):=((cell_blk (BXF.out _ _ _ _ _ _ f4)).trans rfl);have z1:w4.cell? ⟨w.heap.size,1,none⟩=some (.int .i64 ia):=((cell_blk (BXF.out _ _ _ _ _ _ f4)).trans rfl);have z2:w4.cell? ⟨w.heap.size,2,none⟩=some (.int .i64 ib):=((cell_blk (BXF.out _ _ _ _ _ _ f4)).trans rfl);have z3:w4.cell? ⟨w.heap.size,3,none⟩=some (.int .i64 ic):=((cell_blk (BXF.out _ _ _ _ _ _ f4)).trans rfl);have z4:w4.cell? ⟨w.heap.size,4,none⟩=some (.int .i64 ii):=((cell_blk (BXF.out _ _ _ _ _ _ f4)).trans rfl);have z5:w4.cell? ⟨w.heap.size,5,none⟩=some (.slice A0 n0 k0):=((cell_blk (BXF.out _ _ _ _ _ _ f4)).trans rfl);have hz0:=cell_lt z0;have F4:=hid f4;have G4:=hid g4;have L4:=hid l4;have H4:=hid h4;have qq:=Q2.out.q0 f4;have hqq:=cell_lt qq;clear f4 g4 l4 h4 KT))
 clear z0 z1 z2 z3 z4 z5 hz0 qq hqq
 have SS:Hid (∀bb cu aa ss ww w',FX XX Wh w1 g bb w' cu aa ss ww→w'.cell? ⟨g.q,0,none⟩=some (.pointer (some ⟨g.p,0,none⟩))∧w'.cell? ⟨w.heap.size,1,none⟩=some (.int .i64 ia)):=fun bb cu aa ss ww w' h=>⟨Q2.out.q0 h,(cell_blk (BXF.out _ _ _ _ _ _ h)).trans rfl⟩
 have hl5:ia<cur.slots.length:=by have:=HREG.out;have:=HLS.out;omega
 have HL5:=hid hl5
 clear hl5
 refine wp_region_held_drew (S:=fun w'=>w'.cell? ⟨g.q,0,none⟩=some (.pointer (some ⟨g.p,0,none⟩))∧w'.cell? ⟨w.heap.size,1,none⟩=some (.int .i64 ia)) (by kernel_rfl) ?_ (fun hHeld0=>?_)
 ·exact SS.out _ _ _ _ _ _ (F4.out.bl (Bl.refl _).drew)
 have lq:=cell_lt hHeld0.1
 have lz:=cell_lt hHeld0.2
 iterate 8 (refine tn rfl (by kernel_rfl) (fun _ _ _ h=>h) (by intro _ h;go_split_ands;go_simp<;>with_reducible rfl) hHeld0 ?_;try simp only [aZ])
 refine rd1 (i:=8) (by kernel_rfl) rfl fun K hK=>?_
 go_simp
 go_at_call 220
 have R5:=hid ((F4.out.bl (Bl.refl w4).drew).rc HC.out Q2.out D2.out HW.out.wq.clr HR.out.1)
 refine (qread_any R5.out ia 3 HL5.out).mono ?_
 rintro e w5 ⟨he,b5⟩
 have F5:=hid ((F4.out.bl (Bl.refl w4).drew).bl b5)
 clear b5
 cases hv1:rdT 3 ia (⟨cur.slots,cur.stk⟩:As) with
 | none =>
  rw [hv1] at he
  have he:e=upE:=he
  subst he
  exact ⟨rfl,Wh,EX.out,Or.inl ⟨rfl,FEL.out _ F5.out.fe⟩⟩
 | some v =>
  rw [hv1] at he
  have he:e=.returned (fvV v):=he
  subst he
  have HV1:=hid hv1
  clear hv1
  refine hK.out _ _ (SS.out _ _ _ _ _ _ F5.out) (fun hHeld1=>?_)
  try simp only [aZ]
  clear hK hHeld0 hHeld1 lq lz
  refine wpAnyH_done (by kernel_rfl) ?_ _
  go_wp2
  go_end0
  exact ⟨Wh,EX.out,Or.inr ⟨_,_,_,_,rfl,FXL.out _ _ _ _ _ _ F5.out,QX.out,G4.out,L4.out.trans HT.out (Led.refl _ _ wt1),fun x hx=>(H4.out x hx).led' HT.out (Led.refl _ _ wt1),⟨v,HV1.out⟩⟩⟩
theorem qdo20 (Z:Dx f m X wx w0 w1 g b0 w cur at' st wt) (ia ib ic ii:Int) (A0:Option Addr) (n0 k0:Nat) (hreg:m.ret.kind≠0→0≤ia∧ia<m.regs) :
  Calls Tryz.prog 157 #[.pointer (some ⟨g.q,0,none⟩),insV 20 ia ib ic ii (.slice A0 n0 k0)] w fun e w'=>DQ f m X wx w0 w1 g b0 at' st wt cur.slots (fun st'=>m.ret.kind≠0→∃v,rdY f.classes m.ret ia ⟨cur.slots,cur.stk⟩=some v) e w':=by
 have HB:Hid (Bl w (w.alloc (insO 20 ia ib ic ii (.slice A0 n0 k0)))):=(Bl.refl w).alloc _
 have ZB:=hid (mblk (w:=w) (cs:=#[.int .i64 20,.int .i64 ia,.int .i64 ib,.int .i64 ic,.int .i64 ii,.slice A0 n0 k0]) (t:=58) rfl)
 have HC:=hid Z.C
 have HT:=hid (may_tree Z.C.may).1
 have HA:=hid Z.ha
 have HW:=hid Z.hc
 have HB0:=hid Z.hb0
 have HG:=hid Z.G
 have hr:=(smeP Z.C.me).1
 have hr9:=(smeP Z.C.me).2.1
 have HR:=hid (show 1≤m.regs∧m.regs≤90 from ⟨hr,hr9⟩)
 have HLS:Hid ((cur.slots.length:Int)=m.regs):=Z.hc.wq.wf.len
 have hwlt:=lt_some ZB.out
 have hq1:=Z.hq1
 obtain ⟨hv,Q⟩:=Z.Q
 have HH:=hid Z.H
 have W1:=hid (Z.H.wide HB.out)
 have Q1:=hid (Q.wide Z.H HB.out)
 have QXX:=hid Q.x
 have HRB:=hid ((smeP Z.C.me).2.2.2.2.2.2.2.2.2)
 obtain ⟨rv,vw,sp,F1⟩:=id W1.out
 obtain ⟨xf2,xq2,xd2,xe2⟩:=F1.hand Q1.out hq1 (by have:=Z.hc.wq.len;omega)
 have KT:=hid (qthrow_any Z.C xq2 (xf2.bl (Bl.refl _).drew) Z.G Z.hc.clr Z.hl Z.ho)
 have q0:=Q1.out.q0 W1.out
 have p1:(w.alloc (insO 20 ia ib ic ii (.slice A0 n0 k0))).drew.cell? ⟨g.p,1,none⟩=some (rv 1):=by show (w.alloc (insO 20 ia ib ic ii (.slice A0 n0 k0))).cell? _=_;rw [cell_blk F1.blk];rfl
 have HPB:=hid (show (w.alloc (insO 20 ia ib ic ii (.slice A0 n0 k0))).drew.heap[g.p]?=_ from F1.blk)
 have fp:=free_blk (show (w.alloc (insO 20 ia ib ic ii (.slice A0 n0 k0))).drew.heap[g.p]?=_ from F1.blk)
 obtain ⟨Aq,cq,hqb,-⟩:=Q1.out.at W1.out
 have hqb:(w.alloc (insO 20 ia ib ic ii (.slice A0 n0 k0))).drew.heap[g.q]?=_:=hqb
 have HQB:=hid hqb
 have fq:=free_blk hqb
 have q2:(w.alloc (insO 20 ia ib ic ii (.slice A0 n0 k0))).drew.cell? ⟨g.q,2,none⟩=some hv:=(cell_blk hqb).trans rfl
 have npq:g.q≠g.p:=(F1.far _ Q1.out.x).p
 have npq':g.p≠g.q:=fun e=>npq e.symm
 obtain ⟨A1,c1,e1,-,-⟩:=own_formT F1.row1
 have hlp:=lt_some F1.blk
 have hlq:=lt_some hqb
 -- what lies of the instruction behind the swap
 have nq:w.heap.size≠g.q:=fun e=>by
  have:=(F1.far w.heap.size (Or.inr ⟨Nat.le_refl _,hwlt⟩)).p
  have h2:=hqb
  have h3:(w.alloc (insO 20 ia ib ic ii (.slice A0 n0 k0))).drew.heap[w.heap.size]?=_:=ZB.out
  rw [←e,h3] at h2
  simp at h2
 have np:w.heap.size≠g.p:=(F1.far w.heap.size (Or.inr ⟨Nat.le_refl _,hwlt⟩)).p
 have ZH:Hid ((hdW (w.alloc (insO 20 ia ib ic ii (.slice A0 n0 k0))) g (rv 1)).heap[w.heap.size]?=some (.cells #[.int .i64 20,.int .i64 ia,.int .i64 ib,.int .i64 ic,.int .i64 ii,.slice A0 n0 k0] 58 (0,0))):=by
  show _=_
  rw [block_far np,block_far nq];exact ZB.out
 have F2:=hid xf2
 have Q2:=hid xq2
 have D2:=hid xd2
 have E2:=hid xe2
 clear xf2 xq2 xd2 xe2
 rw [e1] at F2 Q2 D2 E2 KT ZH p1
 clear Z Q hqb F1 e1 hr hr9 hq1
 have FXL:Hid (∀bb cu aa ss ww w',FX (Xh (Xf X w.heap.size (w.alloc (insO 20 ia ib ic ii (.slice A0 n0 k0))).heap.size) (.slice A1 cur.stk.length c1)) (hdW (w.alloc (insO 20 ia ib ic ii (.slice A0 n0 k0))) g (.slice A1 cur.stk.length c1)) w1 g bb w' cu aa ss ww→FX X (hdW (w.alloc (insO 20 ia ib ic ii (.slice A0 n0 k0))) g (.slice A1 cur.stk.length c1)) w1 g bb w' cu aa ss ww):=fun bb cu aa ss ww w' h=>h.less (fun b hb=>Or.inl (Or.inl hb))
 have FEL:Hid (∀w',FE (Xh (Xf X w.heap.size (w.alloc (insO 20 ia ib ic ii (.slice A0 n0 k0))).heap.size) (.slice A1 cur.stk.length c1)) (hdW (w.alloc (insO 20 ia ib ic ii (.slice A0 n0 k0))) g (.slice A1 cur.stk.length c1)) w1 g w'→FE X (hdW (w.alloc (insO 20 ia ib ic ii (.slice A0 n0 k0))) g (.slice A1 cur.stk.length c1)) w1 g w'):=fun w' ⟨a,b,c,d,e,h⟩=>⟨a,b,c,d,e,h.less (fun b hb=>Or.inl (Or.inl hb))⟩
 have BXF:Hid (∀bb cu aa ss ww w',FX (Xh (Xf X w.heap.size (w.alloc (insO 20 ia ib ic ii (.slice A0 n0 k0))).heap.size) (.slice A1 cur.stk.length c1)) (hdW (w.alloc (insO 20 ia ib ic ii (.slice A0 n0 k0))) g (.slice A1 cur.stk.length c1)) w1 g bb w' cu aa ss ww→w'.heap[w.heap.size]?=some (.cells #[.int .i64 20,.int .i64 ia,.int .i64 ib,.int .i64 ic,.int .i64 ii,.slice A0 n0 k0] 58 (0,0))):=fun bb cu aa ss ww w' ⟨rv,vw,sp,h⟩=>(h.kept.blk _ (Or.inl (Or.inr ⟨Nat.le_refl _,hwlt⟩))).2.trans ZH.out
 have EX:Hid (∀b,X b→b≠g.q→(hdW (w.alloc (insO 20 ia ib ic ii (.slice A0 n0 k0))) g (.slice A1 cur.stk.length c1)).heap[b]?=wx.heap[b]?):=fun b hb hn=>by
  obtain ⟨rv,vw,sp,h⟩:=HH.out
  obtain ⟨x1,x2⟩:=h.kept.blk b hb
  rw [E2.out b (Or.inl hb) hn,HB.out.block b (Nat.lt_of_lt_of_le x1 h.kept.size)]
  exact x2
 have QX:Hid (Qx X (hdW (w.alloc (insO 20 ia ib ic ii (.slice A0 n0 k0))) g (.slice A1 cur.stk.length c1)) w0 g f (.slice A1 cur.stk.length c1)):=by
  obtain ⟨Aq2,cq2,x1,x2⟩:=Q2.out.blk
  exact ⟨QXX.out,Aq2,cq2,x1,x2⟩
 clear E2 HB HH ZH W1 Q1
 generalize Xh (Xf X w.heap.size (w.alloc (insO 20 ia ib ic ii (.slice A0 n0 k0))).heap.size) (.slice A1 cur.stk.length c1)=XX at *
 obtain ⟨Wh,hWh⟩:∃Wh,Wh=hdW (w.alloc (insO 20 ia ib ic ii (.slice A0 n0 k0))) g (.slice A1 cur.stk.length c1):=⟨_,rfl⟩
 rw [←hWh] at FXL FEL BXF EX QX F2 Q2 D2 KT
 replace hWh:=hid hWh
 have HREG:=hid hreg
 clear hreg
 go_enter Tryz.func157,Tryz.ntmps157
 go_wp2
 generalize (w.alloc (insO 20 ia ib ic ii (.slice A0 n0 k0)))=V at *
 refine wp_region_held_drew (S:=fun w'=>w'.cell? ⟨g.q,0,none⟩=some (.pointer (some ⟨g.p,0,none⟩))) (by kernel_rfl) ?_ (fun hHeld0=>?_)
 ·exact q0
 iterate 12 (refine tn rfl (by kernel_rfl) (fun _ _ _ h=>h) (by intro _ h;go_split_ands;go_simp<;>with_reducible rfl) hHeld0 ?_;try simp only [aZ])
 refine rd1 (i:=12) (by kernel_rfl) rfl fun K hK=>?_
 go_simp
 refine hK.out _ _ hHeld0 (fun hHeld1=>?_)
 try simp only [aZ]
 clear hK hHeld1
 iterate 2 (refine tn rfl (by kernel_rfl) (fun _ _ _ h=>h) (by intro _ h;go_split_ands;go_simp<;>with_reducible rfl) hHeld0 ?_;try simp only [aZ])
 refine rd1 (i:=15) (by kernel_rfl) rfl fun K hK=>?_
 go_simp
 have qcb:(V.drew.setCell ⟨g.q,2,none⟩ (.slice A1 cur.stk.length c1)).cell? ⟨g.q,0,none⟩=some (.pointer (some ⟨g.p,0,none⟩)):=(cell_blk (block_set HQB.out _)).trans rfl
 refine hK.out _ _ qcb (fun hHeld1=>?_)
 try simp only [aZ]
 clear hK
 iterate 3 (refine tn rfl (by kernel_rfl) (fun _ _ _ h=>h) (by intro _ h;go_split_ands;go_simp<;>with_reducible rfl) hHeld1 ?_;try simp only [aZ])
 have p1b:(V.setCell ⟨g.q,2,none⟩ (.slice A1 cur.stk.length c1)).cell? ⟨g.p,1,none⟩=some (.slice A1 cur.stk.length c1):=by rw [World.cell?_of_block (block_far npq' _)];exact p1
 have fpb:∀i,(V.setCell ⟨g.q,2,none⟩ (.slice A1 cur.stk.length c1)).frozen? ⟨g.p,i,none⟩=false:=free_blk ((block_far npq' _).trans HPB.out)
 refine rd1 (i:=19) (by kernel_rfl) rfl fun K hK=>?_
 go_simp
 refine hK.out _ _ (by rw [World.cell?_of_block (block_far npq _)];exact qcb) (fun hHeld2=>?_)
 try simp only [aZ]
 clear hK
 refine wpAnyH_done (by kernel_rfl) ?_ _
 have hw:(V.setCell ⟨g.q,2,none⟩ (.slice A1 cur.stk.length c1)).setCell ⟨g.p,1,none⟩ (.slice none 0 0)=Wh:=by rw [hWh.out]
 rw [hw]
 clear hw hHeld0 hHeld1 hHeld2 qcb p1b fpb p1 fp fq q2 q0 hlp hlq
 by_cases hk:m.ret.kind=0
 ·have HK:=hid hk
  clear hk
  go_wp2_with (first
   | (go_at_call 219;refine KT.out.mono ?_;rintro e w4 (⟨rfl,q⟩|⟨st1,wt1,rfl,f4,g4,l4,h4⟩);exact ⟨rfl,Wh,EX.out,Or.inl ⟨rfl,FEL.out _ q⟩⟩;have z0:w4.cell? ⟨w.heap.size,0,none⟩=some (.int .i64 20):=((cell_blk (BXF.out _ _ _ _ _ _ f4)).trans rfl);have z1:w4.cell? ⟨w.heap.size,1,none⟩=some (.int .i64 ia):=((cell_blk (BXF.out _ _ _ _ _ _ f4)).trans rfl);have z2:w4.cell? ⟨w.heap.size,2,none⟩=some (.int .i64 ib):=((cell_blk (BXF.out _ _ _ _ _ _ f4)).trans rfl);have z3:w4.cell? ⟨w.heap.size,3,none⟩=some (.int .i64 ic):=((cell_blk (BXF.out _ _ _ _ _ _ f4)).trans rfl);have z4:w4.cell? ⟨w.heap.size,4,none⟩=some (.int .i64 ii):=((cell_blk (BXF.out _ _ _ _ _ _ f4)).trans rfl);have z5:w4.cell? ⟨w.heap.size,5,none⟩=some (.slice A0 n0 k0):=((cell_blk (BXF.out _ _ _ _ _ _ f4)).trans rfl);have hz0:=cell_lt z0;have F4:=hid f4;have G4:=hid g4;have L4:=hid l4;have H4:=hid h4;have qq:=Q2.out.q0 f4;have hqq:=cell_lt qq;clear f4 g4 l4 h4 KT)
   | (go_at_call 223;have GG:=qgive_any HC.out Q2.out D2.out HW.out.wq.clr HR.out.1 F4.out ia HREG.out HRB.out;rw [if_pos HK.out] at GG;refine GG.mono ?_;rintro e w5 ⟨he,b5⟩;have he:e=.returned (.tuple #[]):=he;subst he;have F5:=hid (F4.out.bl b5);clear b5 GG))
  go_end0
  exact ⟨Wh,EX.out,Or.inr ⟨_,_,_,_,rfl,FXL.out _ _ _ _ _ _ F5.out,QX.out,G4.out,L4.out.trans HT.out (Led.refl _ _ wt1),fun x hx=>(H4.out x hx).led' HT.out (Led.refl _ _ wt1),fun h=>absurd HK.out h⟩⟩
 ·have HK:=hid hk
  clear hk
  cases hv1:rdY f.classes m.ret ia (⟨cur.slots,cur.stk⟩:As) with
  | none =>
   have HV1:=hid hv1
   clear hv1
   go_wp2_with (first
    | (go_at_call 219;refine KT.out.mono ?_;rintro e w4 (⟨rfl,q⟩|⟨st1,wt1,rfl,f4,g4,l4,h4⟩);exact ⟨rfl,Wh,EX.out,Or.inl ⟨rfl,FEL.out _ q⟩⟩;have z0:w4.cell? ⟨w.heap.size,0,none⟩=some (.int .i64 20):=((cell_blk (BXF.out _ _ _ _ _ _ f4)).trans rfl);have z1:w4.cell? ⟨w.heap.size,1,none⟩=some (.int .i64 ia):=((cell_blk (BXF.out _ _ _ _ _ _ f4)).trans rfl);have z2:w4.cell? ⟨w.heap.size,2,none⟩=some (.int .i64 ib):=((cell_blk (BXF.out _ _ _ _ _ _ f4)).trans rfl);have z3:w4.cell? ⟨w.heap.size,3,none⟩=some (.int .i64 ic):=((cell_blk (BXF.out _ _ _ _ _ _ f4)).trans rfl);have z4:w4.cell? ⟨w.heap.size,4,none⟩=some (.int .i64 ii):=((cell_blk (BXF.out _ _ _ _ _ _ f4)).trans rfl);have z5:w4.cell? ⟨w.heap.size,5,none⟩=some (.slice A0 n0 k0):=((cell_blk (BXF.out _ _ _ _ _ _ f4)).trans rfl);have hz0:=cell_lt z0;have F4:=hid f4;have G4:=hid g4;have L4:=hid l4;have H4:=hid h4;have qq:=Q2.out.q0 f4;have hqq:=cell_lt qq;clear f4 g4 l4 h4 KT)
    | (go_at_call 223;have GG:=qgive_any HC.out Q2.out D2.out HW.out.wq.clr HR.out.1 F4.out ia HREG.out HRB.out;rw [if_neg HK.out,HV1.out] at GG;refine GG.mono ?_;rintro e w5 ⟨he,b5⟩;have he:e=upE:=he;subst he;exact ⟨rfl,Wh,EX.out,Or.inl ⟨rfl,FEL.out _ (F4.out.bl b5).fe⟩⟩))
  | some v =>
   have HV1:=hid hv1
   clear hv1
   go_wp2_with (first
    | (go_at_call 219;refine KT.out.mono ?_;rintro e w4 (⟨rfl,q⟩|⟨st1,wt1,rfl,f4,g4,l4,h4⟩);exact ⟨rfl,Wh,EX.out,Or.inl ⟨rfl,FEL.out _ q⟩⟩;have z0:w4.cell? ⟨w.heap.size,0,none⟩=some (.int .i64 20):=((cell_blk (BXF.out _ _ _ _ _ _ f4)).trans rfl);have z1:w4.cell? ⟨w.heap.size,1,none⟩=some (.int .i64 ia):=((cell_blk (BXF.out _ _ _ _ _ _ f4)).trans rfl);have z2:w4.cell? ⟨w.heap.size,2,none⟩=some (.int .i64 ib):=((cell_blk (BXF.out _ _ _ _ _ _ f4)).trans rfl);have z3:w4.cell? ⟨w.heap.size,3,none⟩=some (.int .i64 ic):=((cell_blk (BXF.out _ _ _ _ _ _ f4)).trans rfl);have z4:w4.cell? ⟨w.heap.size,4,none⟩=some (.int .i64 ii):=((cell_blk (BXF.out _ _ _ _ _ _ f4)).trans rfl);have z5:w4.cell? ⟨w.heap.size,5,none⟩=some (.slice A0 n0 k0):=((cell_blk (BXF.out _ _ _ _ _ _ f4)).trans rfl);have hz0:=cell_lt z0;have F4:=hid f4;have G4:=hid g4;have L4:=hid l4;have H4:=hid h4;have qq:=Q2.out.q0 f4;have hqq:=cell_lt qq;clear f4 g4 l4 h4 KT)
    | (go_at_call 223;have GG:=qgive_any HC.out Q2.out D2.out HW.out.wq.clr HR.out.1 F4.out ia HREG.out HRB.out;rw [if_neg HK.out,HV1.out] at GG;refine GG.mono ?_;rintro e w5 ⟨he,b5⟩;have he:e=.returned (.tuple #[]):=he;subst he;have F5:=hid (F4.out.bl b5);clear b5 GG))
   go_end0
   exact ⟨Wh,EX.out,Or.inr ⟨_,_,_,_,rfl,FXL.out _ _ _ _ _ _ F5.out,QX.out,G4.out,L4.out.trans HT.out (Led.refl _ _ wt1),fun x hx=>(H4.out x hx).led' HT.out (Led.refl _ _ wt1),fun _=>⟨v,HV1.out⟩⟩⟩
theorem qdoW (Z:Dx f m X wx w0 w1 g b0 w cur at' st wt) (op ia ib ic ii:Int) (args:List Int) (A0:Option Addr) (n0 k0:Nat) {rt:Int} (ok:InOk f.classes f.methods m.code.length m.regs rt ⟨op,ia,ib,ic,ii,args⟩) (hop:op≠10∧op≠11∧op≠12∧op≠18∧op≠20∧op≠21) :
  Calls Tryz.prog 157 #[.pointer (some ⟨g.q,0,none⟩),insV op ia ib ic ii (.slice A0 n0 k0)] w fun e w'=>DQ f m X wx w0 w1 g b0 at' st wt cur.slots (fun st'=>∃s1,workT f.classes ⟨op,ia,ib,ic,ii,args⟩ ⟨cur.slots,cur.stk⟩=some s1∧Leads f.classes st' (at'+1) s1) e w':=by
 have HB:Hid (Bl w (w.alloc (insO op ia ib ic ii (.slice A0 n0 k0)))):=(Bl.refl w).alloc _
 have ZB:=hid (mblk (w:=w) (cs:=#[.int .i64 op,.int .i64 ia,.int .i64 ib,.int .i64 ic,.int .i64 ii,.slice A0 n0 k0]) (t:=58) rfl)
 have HC:=hid Z.C
 have HT:=hid (may_tree Z.C.may).1
 have HA:=hid Z.ha
 have HW:=hid Z.hc
 have HB0:=hid Z.hb0
 have HG:=hid Z.G
 have hr:=(smeP Z.C.me).1
 have hr9:=(smeP Z.C.me).2.1
 have HR:=hid (show 1≤m.regs∧m.regs≤90 from ⟨hr,hr9⟩)
 have HLS:Hid ((cur.slots.length:Int)=m.regs):=Z.hc.wq.wf.len
 have hwlt:=lt_some ZB.out
 have hq1:=Z.hq1
 obtain ⟨hv,Q⟩:=Z.Q
 have HH:=hid Z.H
 have W1:=hid (Z.H.wide HB.out)
 have Q1:=hid (Q.wide Z.H HB.out)
 have QXX:=hid Q.x
 have HWK:Hid (∀s1,workT f.classes ⟨op,ia,ib,ic,ii,args⟩ ⟨cur.slots,cur.stk⟩=some s1→Wn f m s1):=fun s1 h=>⟨Z.hc.wq.work Z.C.may ok hop h,Z.hc.nr.work Z.hc.wq.wf.len Z.C.may ok h⟩
 obtain ⟨rv,vw,sp,F1⟩:=id W1.out
 obtain ⟨xf2,xq2,xd2,xe2⟩:=F1.hand Q1.out hq1 (by have:=Z.hc.wq.len;omega)
 have KT:=hid (qthrow_any Z.C xq2 (xf2.bl (Bl.refl _).drew) Z.G Z.hc.clr Z.hl Z.ho)
 have q0:=Q1.out.q0 W1.out
 have p1:(w.alloc (insO op ia ib ic ii (.slice A0 n0 k0))).drew.cell? ⟨g.p,1,none⟩=some (rv 1):=by show (w.alloc (insO op ia ib ic ii (.slice A0 n0 k0))).cell? _=_;rw [cell_blk F1.blk];rfl
 have HPB:=hid (show (w.alloc (insO op ia ib ic ii (.slice A0 n0 k0))).drew.heap[g.p]?=_ from F1.blk)
 have fp:=free_blk (show (w.alloc (insO op ia ib ic ii (.slice A0 n0 k0))).drew.heap[g.p]?=_ from F1.blk)
 obtain ⟨Aq,cq,hqb,-⟩:=Q1.out.at W1.out
 have hqb:(w.alloc (insO op ia ib ic ii (.slice A0 n0 k0))).drew.heap[g.q]?=_:=hqb
 have HQB:=hid hqb
 have fq:=free_blk hqb
 have q2:(w.alloc (insO op ia ib ic ii (.slice A0 n0 k0))).drew.cell? ⟨g.q,2,none⟩=some hv:=(cell_blk hqb).trans rfl
 have npq:g.q≠g.p:=(F1.far _ Q1.out.x).p
 have npq':g.p≠g.q:=fun e=>npq e.symm
 obtain ⟨A1,c1,e1,-,-⟩:=own_formT F1.row1
 have hlp:=lt_some F1.blk
 have hlq:=lt_some hqb
 -- what lies of the instruction behind the swap
 have nq:w.heap.size≠g.q:=fun e=>by
  have:=(F1.far w.heap.size (Or.inr ⟨Nat.le_refl _,hwlt⟩)).p
  have h2:=hqb
  have h3:(w.alloc (insO op ia ib ic ii (.slice A0 n0 k0))).drew.heap[w.heap.size]?=_:=ZB.out
  rw [←e,h3] at h2
  simp at h2
 have np:w.heap.size≠g.p:=(F1.far w.heap.size (Or.inr ⟨Nat.le_refl _,hwlt⟩)).p
 have ZH:Hid ((hdW (w.alloc (insO op ia ib ic ii (.slice A0 n0 k0))) g (rv 1)).heap[w.heap.size]?=some (.cells #[.int .i64 op,.int .i64 ia,.int .i64 ib,.int .i64 ic,.int .i64 ii,.slice A0 n0 k0] 58 (0,0))):=by
  show _=_
  rw [block_far np,block_far nq];exact ZB.out
 have F2:=hid xf2
 have Q2:=hid xq2
 have D2:=hid xd2
 have E2:=hid xe2
 clear xf2 xq2 xd2 xe2
 rw [e1] at F2 Q2 D2 E2 KT ZH p1
 clear Z Q hqb F1 e1 hr hr9 hq1
 have FXL:Hid (∀bb cu aa ss ww w',FX (Xh (Xf X w.heap.size (w.alloc (insO op ia ib ic ii (.slice A0 n0 k0))).heap.size) (.slice A1 cur.stk.length c1)) (hdW (w.alloc (insO op ia ib ic ii (.slice A0 n0 k0))) g (.slice A1 cur.stk.length c1)) w1 g bb w' cu aa ss ww→FX X (hdW (w.alloc (insO op ia ib ic ii (.slice A0 n0 k0))) g (.slice A1 cur.stk.length c1)) w1 g bb w' cu aa ss ww):=fun bb cu aa ss ww w' h=>h.less (fun b hb=>Or.inl (Or.inl hb))
 have FEL:Hid (∀w',FE (Xh (Xf X w.heap.size (w.alloc (insO op ia ib ic ii (.slice A0 n0 k0))).heap.size) (.slice A1 cur.stk.length c1)) (hdW (w.alloc (insO op ia ib ic ii (.slice A0 n0 k0))) g (.slice A1 cur.stk.length c1)) w1 g w'→FE X (hdW (w.alloc (insO op ia ib ic ii (.slice A0 n0 k0))) g (.slice A1 cur.stk.length c1)) w1 g w'):=fun w' ⟨a,b,c,d,e,h⟩=>⟨a,b,c,d,e,h.less (fun b hb=>Or.inl (Or.inl hb))⟩
 have BXF:Hid (∀bb cu aa ss ww w',FX (Xh (Xf X w.heap.size (w.alloc (insO op ia ib ic ii (.slice A0 n0 k0))).heap.size) (.slice A1 cur.stk.length c1)) (hdW (w.alloc (insO op ia ib ic ii (.slice A0 n0 k0))) g (.slice A1 cur.stk.length c1)) w1 g bb w' cu aa ss ww→w'.heap[w.heap.size]?=some (.cells #[.int .i64 op,.int .i64 ia,.int .i64 ib,.int .i64 ic,.int .i64 ii,.slice A0 n0 k0] 58 (0,0))):=fun bb cu aa ss ww w' ⟨rv,vw,sp,h⟩=>(h.kept.blk _ (Or.inl (Or.inr ⟨Nat.le_refl _,hwlt⟩))).2.trans ZH.out
 have EX:Hid (∀b,X b→b≠g.q→(hdW (w.alloc (insO op ia ib ic ii (.slice A0 n0 k0))) g (.slice A1 cur.stk.length c1)).heap[b]?=wx.heap[b]?):=fun b hb hn=>by
  obtain ⟨rv,vw,sp,h⟩:=HH.out
  obtain ⟨x1,x2⟩:=h.kept.blk b hb
  rw [E2.out b (Or.inl hb) hn,HB.out.block b (Nat.lt_of_lt_of_le x1 h.kept.size)]
  exact x2
 have QX:Hid (Qx X (hdW (w.alloc (insO op ia ib ic ii (.slice A0 n0 k0))) g (.slice A1 cur.stk.length c1)) w0 g f (.slice A1 cur.stk.length c1)):=by
  obtain ⟨Aq2,cq2,x1,x2⟩:=Q2.out.blk
  exact ⟨QXX.out,Aq2,cq2,x1,x2⟩
 clear E2 HB HH ZH W1 Q1
 generalize Xh (Xf X w.heap.size (w.alloc (insO op ia ib ic ii (.slice A0 n0 k0))).heap.size) (.slice A1 cur.stk.length c1)=XX at *
 obtain ⟨Wh,hWh⟩:∃Wh,Wh=hdW (w.alloc (insO op ia ib ic ii (.slice A0 n0 k0))) g (.slice A1 cur.stk.length c1):=⟨_,rfl⟩
 rw [←hWh] at FXL FEL BXF EX QX F2 Q2 D2 KT
 replace hWh:=hid hWh
 have t10:(op==10)=false:=by simpa using hop.1
 have t11:(op==11)=false:=by simpa using hop.2.1
 have t12:(op==12)=false:=by simpa using hop.2.2.1
 have t18:(op==18)=false:=by simpa using hop.2.2.2.1
 have t20:(op==20)=false:=by simpa using hop.2.2.2.2.1
 have t21:(op==21)=false:=by simpa using hop.2.2.2.2.2
 have OK:=hid ok
 have HOP:=hid hop
 clear ok hop
 go_enter Tryz.func157,Tryz.ntmps157
 go_wp2
 generalize (w.alloc (insO op ia ib ic ii (.slice A0 n0 k0)))=V at *
 refine wp_region_held_drew (S:=fun w'=>w'.cell? ⟨g.q,0,none⟩=some (.pointer (some ⟨g.p,0,none⟩))) (by kernel_rfl) ?_ (fun hHeld0=>?_)
 ·exact q0
 iterate 12 (refine tn rfl (by kernel_rfl) (fun _ _ _ h=>h) (by intro _ h;go_split_ands;go_simp<;>with_reducible rfl) hHeld0 ?_;try simp only [aZ])
 refine rd1 (i:=12) (by kernel_rfl) rfl fun K hK=>?_
 go_simp
 refine hK.out _ _ hHeld0 (fun hHeld1=>?_)
 try simp only [aZ]
 clear hK hHeld1
 iterate 2 (refine tn rfl (by kernel_rfl) (fun _ _ _ h=>h) (by intro _ h;go_split_ands;go_simp<;>with_reducible rfl) hHeld0 ?_;try simp only [aZ])
 refine rd1 (i:=15) (by kernel_rfl) rfl fun K hK=>?_
 go_simp
 have qcb:(V.drew.setCell ⟨g.q,2,none⟩ (.slice A1 cur.stk.length c1)).cell? ⟨g.q,0,none⟩=some (.pointer (some ⟨g.p,0,none⟩)):=(cell_blk (block_set HQB.out _)).trans rfl
 refine hK.out _ _ qcb (fun hHeld1=>?_)
 try simp only [aZ]
 clear hK
 iterate 3 (refine tn rfl (by kernel_rfl) (fun _ _ _ h=>h) (by intro _ h;go_split_ands;go_simp<;>with_reducible rfl) hHeld1 ?_;try simp only [aZ])
 have p1b:(V.setCell ⟨g.q,2,none⟩ (.slice A1 cur.stk.length c1)).cell? ⟨g.p,1,none⟩=some (.slice A1 cur.stk.length c1):=by rw [World.cell?_of_block (block_far npq' _)];exact p1
 have fpb:∀i,(V.setCell ⟨g.q,2,none⟩ (.slice A1 cur.stk.length c1)).frozen? ⟨g.p,i,none⟩=false:=free_blk ((block_far npq' _).trans HPB.out)
 refine rd1 (i:=19) (by kernel_rfl) rfl fun K hK=>?_
 go_simp
 refine hK.out _ _ (by rw [World.cell?_of_block (block_far npq _)];exact qcb) (fun hHeld2=>?_)
 try simp only [aZ]
 clear hK
 refine wpAnyH_done (by kernel_rfl) ?_ _
 have hw:(V.setCell ⟨g.q,2,none⟩ (.slice A1 cur.stk.length c1)).setCell ⟨g.p,1,none⟩ (.slice none 0 0)=Wh:=by rw [hWh.out]
 rw [hw]
 clear hw hHeld0 hHeld1 hHeld2 qcb p1b fpb p1 fp fq q2 q0 hlp hlq
 cases hv1:workT f.classes ⟨op,ia,ib,ic,ii,args⟩ (⟨cur.slots,cur.stk⟩:As) with
 | none =>
  have HV1:=hid hv1
  clear hv1
  go_wp2_with (first
   | (go_at_call 219;refine KT.out.mono ?_;rintro e w4 (⟨rfl,q⟩|⟨st1,wt1,rfl,f4,g4,l4,h4⟩);exact ⟨rfl,Wh,EX.out,Or.inl ⟨rfl,FEL.out _ q⟩⟩;have z0:w4.cell? ⟨w.heap.size,0,none⟩=some (.int .i64 op):=((cell_blk (BXF.out _ _ _ _ _ _ f4)).trans rfl);have z1:w4.cell? ⟨w.heap.size,1,none⟩=some (.int .i64 ia):=((cell_blk (BXF.out _ _ _ _ _ _ f4)).trans rfl);have z2:w4.cell? ⟨w.heap.size,2,none⟩=some (.int .i64 ib):=((cell_blk (BXF.out _ _ _ _ _ _ f4)).trans rfl);have z3:w4.cell? ⟨w.heap.size,3,none⟩=some (.int .i64 ic):=((cell_blk (BXF.out _ _ _ _ _ _ f4)).trans rfl);have z4:w4.cell? ⟨w.heap.size,4,none⟩=some (.int .i64 ii):=((cell_blk (BXF.out _ _ _ _ _ _ f4)).trans rfl);have z5:w4.cell? ⟨w.heap.size,5,none⟩=some (.slice A0 n0 k0):=((cell_blk (BXF.out _ _ _ _ _ _ f4)).trans rfl);have hz0:=cell_lt z0;have F4:=hid f4;have G4:=hid g4;have L4:=hid l4;have H4:=hid h4;have qq:=Q2.out.q0 f4;have hqq:=cell_lt qq;clear f4 g4 l4 h4 KT)
   | (go_at_call 224;have GG:=qwork_any HC.out Q2.out D2.out HW.out.wq.clr HW.out.wq HR.out HB0.out F4.out ⟨op,ia,ib,ic,ii,args⟩ A0 n0 k0 OK.out HOP.out;rw [HV1.out] at GG;refine GG.mono ?_;rintro e w5 ⟨rfl,q⟩;exact ⟨rfl,Wh,EX.out,Or.inl ⟨rfl,FEL.out _ q⟩⟩))
 | some s1 =>
  have HV1:=hid hv1
  have WS:=hid (HWK.out s1 hv1)
  clear hv1
  go_wp2_with (first
   | (go_at_call 219;refine KT.out.mono ?_;rintro e w4 (⟨rfl,q⟩|⟨st1,wt1,rfl,f4,g4,l4,h4⟩);exact ⟨rfl,Wh,EX.out,Or.inl ⟨rfl,FEL.out _ q⟩⟩;have z0:w4.cell? ⟨w.heap.size,0,none⟩=some (.int .i64 op):=((cell_blk (BXF.out _ _ _ _ _ _ f4)).trans rfl);have z1:w4.cell? ⟨w.heap.size,1,none⟩=some (.int .i64 ia):=((cell_blk (BXF.out _ _ _ _ _ _ f4)).trans rfl);have z2:w4.cell? ⟨w.heap.size,2,none⟩=some (.int .i64 ib):=((cell_blk (BXF.out _ _ _ _ _ _ f4)).trans rfl);have z3:w4.cell? ⟨w.heap.size,3,none⟩=some (.int .i64 ic):=((cell_blk (BXF.out _ _ _ _ _ _ f4)).trans rfl);have z4:w4.cell? ⟨w.heap.size,4,none⟩=some (.int .i64 ii):=((cell_blk (BXF.out _ _ _ _ _ _ f4)).trans rfl);have z5:w4.cell? ⟨w.heap.size,5,none⟩=some (.slice A0 n0 k0):=((cell_blk (BXF.out _ _ _ _ _ _ f4)).trans rfl);have hz0:=cell_lt z0;have F4:=hid f4;have G4:=hid g4;have L4:=hid l4;have H4:=hid h4;have qq:=Q2.out.q0 f4;have hqq:=cell_lt qq;clear f4 g4 l4 h4 KT)
   | (go_at_call 224;have GG:=qwork_any HC.out Q2.out D2.out HW.out.wq.clr HW.out.wq HR.out HB0.out F4.out ⟨op,ia,ib,ic,ii,args⟩ A0 n0 k0 OK.out HOP.out;rw [HV1.out] at GG;refine GG.mono ?_;rintro e w5 ⟨rfl,f5⟩;have F5:=hid f5;have q5:=Q2.out.q0 f5;have hq5:=cell_lt q5;clear f5 GG)
   | (go_at_call 225;refine (fnext_any HC.out F5.out G4.out WS.out HA.out).mono ?_;rintro e w6 (⟨rfl,q⟩|⟨st2,wt2,rfl,f6,g6,l6,p6⟩);exact ⟨rfl,Wh,EX.out,Or.inl ⟨rfl,FEL.out _ q⟩⟩;have N6:=hid (And.intro f6 (And.intro g6 (And.intro l6 p6)));clear f6 g6 l6 p6))
  go_end0
  exact ⟨Wh,EX.out,Or.inr ⟨_,_,_,_,rfl,FXL.out _ _ _ _ _ _ N6.out.1,QX.out,N6.out.2.1,L4.out.trans HT.out N6.out.2.2.1,fun x hx=>(H4.out x hx).led' HT.out N6.out.2.2.1,⟨s1,HV1.out,N6.out.2.2.2⟩⟩⟩
theorem qdo18 (Z:Dx f m X wx w0 w1 g b0 w cur at' st wt) (ia:Nat) (ib ic ii:Int) (args:List Int) (A0:Option Addr) (k0:Nat) (hI:IntsAt w0 A0 args) (ha:ia<f.methods.length) (hlen:args.length=(nth me0 f.methods ia).params.length) (hrg:∀j,j<args.length→0≤nth (0:Int) args j∧nth (0:Int) args j<m.regs) :
  Calls Tryz.prog 157 #[.pointer (some ⟨g.q,0,none⟩),insV 18 ia ib ic ii (.slice A0 args.length k0)] w fun e w'=>DQ f m X wx w0 w1 g b0 at' st wt cur.slots (fun st'=>rdsOk f.classes (nth me0 f.methods ia).params args ⟨cur.slots,cur.stk⟩∧((nth me0 f.methods ia).ret.kind=0→Leads f.classes st' (at'+1) ⟨cur.slots,[]⟩)∧((nth me0 f.methods ia).ret.kind≠0→LeadH f.classes m st' (at'+1) 19 (nth me0 f.methods ia).ret cur.slots)) e w':=by
 have HB:Hid (Bl w (w.alloc (insO 18 ia ib ic ii (.slice A0 args.length k0)))):=(Bl.refl w).alloc _
 have ZB:=hid (mblk (w:=w) (cs:=#[.int .i64 18,.int .i64 ia,.int .i64 ib,.int .i64 ic,.int .i64 ii,.slice A0 args.length k0]) (t:=58) rfl)
 have HC:=hid Z.C
 have HT:=hid (may_tree Z.C.may).1
 have HA:=hid Z.ha
 have HW:=hid Z.hc
 have HB0:=hid Z.hb0
 have HG:=hid Z.G
 have hr:=(smeP Z.C.me).1
 have hr9:=(smeP Z.C.me).2.1
 have HR:=hid (show 1≤m.regs∧m.regs≤90 from ⟨hr,hr9⟩)
 have HLS:Hid ((cur.slots.length:Int)=m.regs):=Z.hc.wq.wf.len
 have hwlt:=lt_some ZB.out
 have hq1:=Z.hq1
 obtain ⟨hv,Q⟩:=Z.Q
 have HH:=hid Z.H
 have W1:=hid (Z.H.wide HB.out)
 have Q1:=hid (Q.wide Z.H HB.out)
 have QXX:=hid Q.x
 have HME:=hid (Z.C.mes _ (nth_mem (d:=me0) ha))
 obtain ⟨rv,vw,sp,F1⟩:=id W1.out
 obtain ⟨xf2,xq2,xd2,xe2⟩:=F1.hand Q1.out hq1 (by have:=Z.hc.wq.len;omega)
 have KT:=hid (qthrow_any Z.C xq2 (xf2.bl (Bl.refl _).drew) Z.G Z.hc.clr Z.hl Z.ho)
 have q0:=Q1.out.q0 W1.out
 have p1:(w.alloc (insO 18 ia ib ic ii (.slice A0 args.length k0))).drew.cell? ⟨g.p,1,none⟩=some (rv 1):=by show (w.alloc (insO 18 ia ib ic ii (.slice A0 args.length k0))).cell? _=_;rw [cell_blk F1.blk];rfl
 have HPB:=hid (show (w.alloc (insO 18 ia ib ic ii (.slice A0 args.length k0))).drew.heap[g.p]?=_ from F1.blk)
 have fp:=free_blk (show (w.alloc (insO 18 ia ib ic ii (.slice A0 args.length k0))).drew.heap[g.p]?=_ from F1.blk)
 obtain ⟨Aq,cq,hqb,-⟩:=Q1.out.at W1.out
 have hqb:(w.alloc (insO 18 ia ib ic ii (.slice A0 args.length k0))).drew.heap[g.q]?=_:=hqb
 have HQB:=hid hqb
 have fq:=free_blk hqb
 have q2:(w.alloc (insO 18 ia ib ic ii (.slice A0 args.length k0))).drew.cell? ⟨g.q,2,none⟩=some hv:=(cell_blk hqb).trans rfl
 have npq:g.q≠g.p:=(F1.far _ Q1.out.x).p
 have npq':g.p≠g.q:=fun e=>npq e.symm
 obtain ⟨A1,c1,e1,-,-⟩:=own_formT F1.row1
 have hlp:=lt_some F1.blk
 have hlq:=lt_some hqb
 -- what lies of the instruction behind the swap
 have nq:w.heap.size≠g.q:=fun e=>by
  have:=(F1.far w.heap.size (Or.inr ⟨Nat.le_refl _,hwlt⟩)).p
  have h2:=hqb
  have h3:(w.alloc (insO 18 ia ib ic ii (.slice A0 args.length k0))).drew.heap[w.heap.size]?=_:=ZB.out
  rw [←e,h3] at h2
  simp at h2
 have np:w.heap.size≠g.p:=(F1.far w.heap.size (Or.inr ⟨Nat.le_refl _,hwlt⟩)).p
 have ZH:Hid ((hdW (w.alloc (insO 18 ia ib ic ii (.slice A0 args.length k0))) g (rv 1)).heap[w.heap.size]?=some (.cells #[.int .i64 18,.int .i64 ia,.int .i64 ib,.int .i64 ic,.int .i64 ii,.slice A0 args.length k0] 58 (0,0))):=by
  show _=_
  rw [block_far np,block_far nq];exact ZB.out
 have F2:=hid xf2
 have Q2:=hid xq2
 have D2:=hid xd2
 have E2:=hid xe2
 clear xf2 xq2 xd2 xe2
 rw [e1] at F2 Q2 D2 E2 KT ZH p1
 clear Z Q hqb F1 e1 hr hr9 hq1
 have FXL:Hid (∀bb cu aa ss ww w',FX (Xh (Xf X w.heap.size (w.alloc (insO 18 ia ib ic ii (.slice A0 args.length k0))).heap.size) (.slice A1 cur.stk.length c1)) (hdW (w.alloc (insO 18 ia ib ic ii (.slice A0 args.length k0))) g (.slice A1 cur.stk.length c1)) w1 g bb w' cu aa ss ww→FX X (hdW (w.alloc (insO 18 ia ib ic ii (.slice A0 args.length k0))) g (.slice A1 cur.stk.length c1)) w1 g bb w' cu aa ss ww):=fun bb cu aa ss ww w' h=>h.less (fun b hb=>Or.inl (Or.inl hb))
 have FEL:Hid (∀w',FE (Xh (Xf X w.heap.size (w.alloc (insO 18 ia ib ic ii (.slice A0 args.length k0))).heap.size) (.slice A1 cur.stk.length c1)) (hdW (w.alloc (insO 18 ia ib ic ii (.slice A0 args.length k0))) g (.slice A1 cur.stk.length c1)) w1 g w'→FE X (hdW (w.alloc (insO 18 ia ib ic ii (.slice A0 args.length k0))) g (.slice A1 cur.stk.length c1)) w1 g w'):=fun w' ⟨a,b,c,d,e,h⟩=>⟨a,b,c,d,e,h.less (fun b hb=>Or.inl (Or.inl hb))⟩
 have BXF:Hid (∀bb cu aa ss ww w',FX (Xh (Xf X w.heap.size (w.alloc (insO 18 ia ib ic ii (.slice A0 args.length k0))).heap.size) (.slice A1 cur.stk.length c1)) (hdW (w.alloc (insO 18 ia ib ic ii (.slice A0 args.length k0))) g (.slice A1 cur.stk.length c1)) w1 g bb w' cu aa ss ww→w'.heap[w.heap.size]?=some (.cells #[.int .i64 18,.int .i64 ia,.int .i64 ib,.int .i64 ic,.int .i64 ii,.slice A0 args.length k0] 58 (0,0))):=fun bb cu aa ss ww w' ⟨rv,vw,sp,h⟩=>(h.kept.blk _ (Or.inl (Or.inr ⟨Nat.le_refl _,hwlt⟩))).2.trans ZH.out
 have EX:Hid (∀b,X b→b≠g.q→(hdW (w.alloc (insO 18 ia ib ic ii (.slice A0 args.length k0))) g (.slice A1 cur.stk.length c1)).heap[b]?=wx.heap[b]?):=fun b hb hn=>by
  obtain ⟨rv,vw,sp,h⟩:=HH.out
  obtain ⟨x1,x2⟩:=h.kept.blk b hb
  rw [E2.out b (Or.inl hb) hn,HB.out.block b (Nat.lt_of_lt_of_le x1 h.kept.size)]
  exact x2
 have QX:Hid (Qx X (hdW (w.alloc (insO 18 ia ib ic ii (.slice A0 args.length k0))) g (.slice A1 cur.stk.length c1)) w0 g f (.slice A1 cur.stk.length c1)):=by
  obtain ⟨Aq2,cq2,x1,x2⟩:=Q2.out.blk
  exact ⟨QXX.out,Aq2,cq2,x1,x2⟩
 clear E2 HB HH ZH W1 Q1
 generalize Xh (Xf X w.heap.size (w.alloc (insO 18 ia ib ic ii (.slice A0 args.length k0))).heap.size) (.slice A1 cur.stk.length c1)=XX at *
 obtain ⟨Wh,hWh⟩:∃Wh,Wh=hdW (w.alloc (insO 18 ia ib ic ii (.slice A0 args.length k0))) g (.slice A1 cur.stk.length c1):=⟨_,rfl⟩
 rw [←hWh] at FXL FEL BXF EX QX F2 Q2 D2 KT
 replace hWh:=hid hWh
 have HI:=hid hI
 have HLN:=hid hlen
 have HRG:=hid hrg
 have HAA:=hid ha
 clear hI hlen hrg ha
 go_enter Tryz.func157,Tryz.ntmps157
 go_wp2
 generalize (w.alloc (insO 18 ia ib ic ii (.slice A0 args.length k0)))=V at *
 refine wp_region_held_drew (S:=fun w'=>w'.cell? ⟨g.q,0,none⟩=some (.pointer (some ⟨g.p,0,none⟩))) (by kernel_rfl) ?_ (fun hHeld0=>?_)
 ·exact q0
 iterate 12 (refine tn rfl (by kernel_rfl) (fun _ _ _ h=>h) (by intro _ h;go_split_ands;go_simp<;>with_reducible rfl) hHeld0 ?_;try simp only [aZ])
 refine rd1 (i:=12) (by kernel_rfl) rfl fun K hK=>?_
 go_simp
 refine hK.out _ _ hHeld0 (fun hHeld1=>?_)
 try simp only [aZ]
 clear hK hHeld1
 iterate 2 (refine tn rfl (by kernel_rfl) (fun _ _ _ h=>h) (by intro _ h;go_split_ands;go_simp<;>with_reducible rfl) hHeld0 ?_;try simp only [aZ])
 refine rd1 (i:=15) (by kernel_rfl) rfl fun K hK=>?_
 go_simp
 have qcb:(V.drew.setCell ⟨g.q,2,none⟩ (.slice A1 cur.stk.length c1)).cell? ⟨g.q,0,none⟩=some (.pointer (some ⟨g.p,0,none⟩)):=(cell_blk (block_set HQB.out _)).trans rfl
 refine hK.out _ _ qcb (fun hHeld1=>?_)
 try simp only [aZ]
 clear hK
 iterate 3 (refine tn rfl (by kernel_rfl) (fun _ _ _ h=>h) (by intro _ h;go_split_ands;go_simp<;>with_reducible rfl) hHeld1 ?_;try simp only [aZ])
 have p1b:(V.setCell ⟨g.q,2,none⟩ (.slice A1 cur.stk.length c1)).cell? ⟨g.p,1,none⟩=some (.slice A1 cur.stk.length c1):=by rw [World.cell?_of_block (block_far npq' _)];exact p1
 have fpb:∀i,(V.setCell ⟨g.q,2,none⟩ (.slice A1 cur.stk.length c1)).frozen? ⟨g.p,i,none⟩=false:=free_blk ((block_far npq' _).trans HPB.out)
 refine rd1 (i:=19) (by kernel_rfl) rfl fun K hK=>?_
 go_simp
 refine hK.out _ _ (by rw [World.cell?_of_block (block_far npq _)];exact qcb) (fun hHeld2=>?_)
 try simp only [aZ]
 clear hK
 refine wpAnyH_done (by kernel_rfl) ?_ _
 have hw:(V.setCell ⟨g.q,2,none⟩ (.slice A1 cur.stk.length c1)).setCell ⟨g.p,1,none⟩ (.slice none 0 0)=Wh:=by rw [hWh.out]
 rw [hw]
 clear hw hHeld0 hHeld1 hHeld2 qcb p1b fpb p1 fp fq q2 q0 hlp hlq
 go_wp2_with (first
  | (go_at_call 219;refine KT.out.mono ?_;rintro e w4 (⟨rfl,q⟩|⟨st1,wt1,rfl,f4,g4,l4,h4⟩);exact ⟨rfl,Wh,EX.out,Or.inl ⟨rfl,FEL.out _ q⟩⟩;have z0:w4.cell? ⟨w.heap.size,0,none⟩=some (.int .i64 18):=((cell_blk (BXF.out _ _ _ _ _ _ f4)).trans rfl);have z1:w4.cell? ⟨w.heap.size,1,none⟩=some (.int .i64 ia):=((cell_blk (BXF.out _ _ _ _ _ _ f4)).trans rfl);have z2:w4.cell? ⟨w.heap.size,2,none⟩=some (.int .i64 ib):=((cell_blk (BXF.out _ _ _ _ _ _ f4)).trans rfl);have z3:w4.cell? ⟨w.heap.size,3,none⟩=some (.int .i64 ic):=((cell_blk (BXF.out _ _ _ _ _ _ f4)).trans rfl);have z4:w4.cell? ⟨w.heap.size,4,none⟩=some (.int .i64 ii):=((cell_blk (BXF.out _ _ _ _ _ _ f4)).trans rfl);have z5:w4.cell? ⟨w.heap.size,5,none⟩=some (.slice A0 args.length k0):=((cell_blk (BXF.out _ _ _ _ _ _ f4)).trans rfl);have hz0:=cell_lt z0;have F4:=hid f4;have G4:=hid g4;have L4:=hid l4;have H4:=hid h4;have qq:=Q2.out.q0 f4;have hqq:=cell_lt qq;clear f4 g4 l4 h4 KT))
 clear z0 z1 z2 z3 z4 z5 hz0 qq hqq
 obtain ⟨Aq3,cq3,hb3,hM3⟩:=Q2.out.blk
 have haa:=HAA.out
 rcases hM3.2 with h0|⟨mb,mo,eA3,hcell⟩
 ·omega
 subst eA3
 obtain ⟨P,Cd,Kh,pc,cc,kc,y0,y1,y2,y3,y4,y5,y6,y7,hMe⟩:=hcell ia haa
 have SS:Hid (∀bb cu aa ss ww w',FX XX Wh w1 g bb w' cu aa ss ww→w'.cell? ⟨g.q,1,none⟩=some (.slice (some ⟨mb,mo,none⟩) f.methods.length cq3)∧w'.cell? ⟨w.heap.size,1,none⟩=some (.int .i64 ia)∧w'.cell? ⟨w.heap.size,5,none⟩=some (.slice A0 args.length k0)∧w'.cell? ⟨mb,mo+ia*8,none⟩=some (.slice P (nth me0 f.methods ia).params.length pc)∧w'.cell? ⟨mb,mo+ia*8+1,none⟩=some (.int .i64 (nth me0 f.methods ia).ret.kind)∧w'.cell? ⟨mb,mo+ia*8+2,none⟩=some (.int .i64 (nth me0 f.methods ia).ret.cls)∧w'.cell? ⟨mb,mo+ia*8+3,none⟩=some (.int .i64 (nth me0 f.methods ia).stack)∧w'.cell? ⟨mb,mo+ia*8+4,none⟩=some (.int .i64 (nth me0 f.methods ia).locs)∧w'.cell? ⟨mb,mo+ia*8+5,none⟩=some (.int .i64 (nth me0 f.methods ia).regs)∧w'.cell? ⟨mb,mo+ia*8+6,none⟩=some (.slice Cd (nth me0 f.methods ia).code.length cc)∧w'.cell? ⟨mb,mo+ia*8+7,none⟩=some (.slice Kh (nth me0 f.methods ia).hands.length kc)):=fun bb cu aa ss ww w' h=>by
  have bl:=HC.out.bl0 h
  have e:=BXF.out _ _ _ _ _ _ h
  have eq:w'.heap[g.q]?=_:=(by obtain ⟨rv,vw,sp,k⟩:=h;exact (k.kept.blk _ Q2.out.x).2.trans hb3)
  exact ⟨(cell_blk eq).trans rfl,(cell_blk e).trans rfl,(cell_blk e).trans rfl,bl.cell y0,bl.cell y1,bl.cell y2,bl.cell y3,bl.cell y4,bl.cell y5,bl.cell y6,bl.cell y7⟩
 have KC:=hid (qcall_any HC.out Q2.out D2.out HW.out.clr HR.out.1 (F4.out.bl (Bl.refl w4).drew) G4.out HA.out (nth me0 f.methods ia) HME.out P Cd Kh A0 pc cc kc k0 args hMe.1 HI.out HLN.out HRG.out)
 have i0:¬(ia:Int)<0:=by omega
 have i1:(ia:Int)<(f.methods.length:Int):=by omega
 clear y0 y1 y2 y3 y4 y5 y6 y7 hcell hMe hb3 hM3
 refine wp_region_held_drew (S:=fun w'=>w'.cell? ⟨g.q,1,none⟩=some (.slice (some ⟨mb,mo,none⟩) f.methods.length cq3)∧w'.cell? ⟨w.heap.size,1,none⟩=some (.int .i64 ia)∧w'.cell? ⟨w.heap.size,5,none⟩=some (.slice A0 args.length k0)∧w'.cell? ⟨mb,mo+ia*8,none⟩=some (.slice P (nth me0 f.methods ia).params.length pc)∧w'.cell? ⟨mb,mo+ia*8+1,none⟩=some (.int .i64 (nth me0 f.methods ia).ret.kind)∧w'.cell? ⟨mb,mo+ia*8+2,none⟩=some (.int .i64 (nth me0 f.methods ia).ret.cls)∧w'.cell? ⟨mb,mo+ia*8+3,none⟩=some (.int .i64 (nth me0 f.methods ia).stack)∧w'.cell? ⟨mb,mo+ia*8+4,none⟩=some (.int .i64 (nth me0 f.methods ia).locs)∧w'.cell? ⟨mb,mo+ia*8+5,none⟩=some (.int .i64 (nth me0 f.methods ia).regs)∧w'.cell? ⟨mb,mo+ia*8+6,none⟩=some (.slice Cd (nth me0 f.methods ia).code.length cc)∧w'.cell? ⟨mb,mo+ia*8+7,none⟩=some (.slice Kh (nth me0 f.methods ia).hands.length kc)) (by kernel_rfl) ?_ (fun hHeld0=>?_)
 ·exact SS.out _ _ _ _ _ _ (F4.out.bl (Bl.refl _).drew)
 have lq:=cell_lt hHeld0.1
 have lz:=cell_lt hHeld0.2.1
 have lm:=cell_lt hHeld0.2.2.2.1
 iterate 11 (refine tn rfl (by kernel_rfl) (fun _ _ _ h=>h) (by intro _ h;go_split_ands;go_simp<;>with_reducible rfl) hHeld0 ?_;try simp only [aZ])
 refine rd1 (i:=11) (by kernel_rfl) rfl fun K hK=>?_
 go_simp
 go_at_call 222
 refine KC.out.mono ?_
 rintro e w5 (⟨rfl,q⟩|⟨st2,wt2,rfl,f5,g5,l5,p5⟩)
 ·exact ⟨rfl,Wh,EX.out,Or.inl ⟨rfl,FEL.out _ q⟩⟩
 have N5:=hid (And.intro f5 (And.intro g5 (And.intro l5 p5)))
 refine hK.out _ _ (SS.out _ _ _ _ _ _ f5) (fun hHeld1=>?_)
 try simp only [aZ]
 clear hK hHeld0 hHeld1 f5 g5 l5 p5 lq lz lm
 refine wpAnyH_done (by kernel_rfl) ?_ _
 go_wp2
 go_end0
 exact ⟨Wh,EX.out,Or.inr ⟨_,_,_,_,rfl,FXL.out _ _ _ _ _ _ N5.out.1,QX.out,N5.out.2.1,L4.out.trans HT.out N5.out.2.2.1,fun x hx=>(H4.out x hx).led' HT.out N5.out.2.2.1,N5.out.2.2.2⟩⟩
end
end
end Go.Proofs.YtgiiapenmjollabGreat
