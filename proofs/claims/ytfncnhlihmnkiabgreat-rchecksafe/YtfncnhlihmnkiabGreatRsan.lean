import Derived.Test.YtfncnhlihmnkiabGreatRsam
import Derived.Deep.Upon
namespace Go.Proofs.YtfncnhlihmnkiabGreat
set_option linter.all false
set_option maxHeartbeats 40000000
set_option maxRecDepth 100000
open Go.RowKit
theorem dqpre {w0:World} {g:Ad} {p:Nat} {h:Hp} {a:Ca} {c:Cal} {w:World} (k ia ib ic ii:Int) (Q:Option Addr) (nl q:Nat) (hH:Hs w0 g w p h) (hC:CalAt w0 w a c) (C:Cq w0 g h) :
  Hid (Fr w0.heap.size g.T w (w.alloc (.cells #[.int .i64 k,.int .i64 ia,.int .i64 ib,.int .i64 ic,.int .i64 ii,.slice Q nl q] 68)))∧Hid (Hs w0 g (w.alloc (.cells #[.int .i64 k,.int .i64 ia,.int .i64 ib,.int .i64 ic,.int .i64 ii,.slice Q nl q] 68)) p h)∧Hid (CalAt w0 (w.alloc (.cells #[.int .i64 k,.int .i64 ia,.int .i64 ib,.int .i64 ic,.int .i64 ii,.slice Q nl q] 68)) a c)∧Hid (IBox (w.alloc (.cells #[.int .i64 k,.int .i64 ia,.int .i64 ib,.int .i64 ic,.int .i64 ii,.slice Q nl q] 68)) w.heap.size k ia ib ic ii Q nl q)∧Hid (Cq w0 g h)∧(w.alloc (.cells #[.int .i64 k,.int .i64 ia,.int .i64 ib,.int .i64 ic,.int .i64 ii,.slice Q nl q] 68)).cell? ⟨a.q,13,none⟩=some (.int .i64 c.pc)∧w0.heap.size≤w.heap.size∧a.q<w.heap.size∧a.lb<w.heap.size:=by
 have hb:=hH.base
 have F0:Fr w0.heap.size g.T w (w.alloc (.cells #[.int .i64 k,.int .i64 ia,.int .i64 ib,.int .i64 ic,.int .i64 ii,.slice Q nl q] 68)):=(Fr.refl _ _ w).alloc hb _
 have A0:=hC.fr C.k C.n7 F0
 exact ⟨F0,hH.cf ((Cf.refl _ _ w).alloc hb _),A0,⟨blk_new _ _ _⟩,C,A0.cells.c13,hb,lt_some hC.blk,lt_some hC.loc.blk⟩
theorem qdoes_op10 (w0:World) (g:Ad) (p:Nat) (h:Hp) (a:Ca) (c:Cal) (ia ib ic ii:Int) (Q:Option Addr) (nl q:Nat) (w:World) (hH:Hs w0 g w p h) (hC:CalAt w0 w a c) (C:Cq w0 g h) (hp:0≤c.pc∧c.pc≤100000) :
  Calls Tryz.prog 85 #[.pointer (some ⟨p,0,none⟩),.pointer (some ⟨a.q,0,none⟩),.agg #[.int .i64 10,.int .i64 ia,.int .i64 ib,.int .i64 ic,.int .i64 ii,.slice Q nl q]] w fun e w'=>e=.returned (.int .i64 (ia))∧Hs w0 g w' p (h)∧Fr w0.heap.size g.T w w':=by
 obtain ⟨HF,HH,HA,HI,HC,d13,hb,hq,hl⟩:=dqpre 10 ia ib ic ii Q nl q hH hC C
 clear hH hC C
 go_enter Tryz.func85,Tryz.ntmps85
 go_wp2
 go_ret
 exact ⟨rfl,HH.out,HF.out⟩
theorem qdoes_op11y (w0:World) (g:Ad) (p:Nat) (h:Hp) (a:Ca) (c:Cal) (ia ib ic ii:Int) (Q:Option Addr) (nl q:Nat) (w:World) (hH:Hs w0 g w p h) (hC:CalAt w0 w a c) (C:Cq w0 g h) (hp:0≤c.pc∧c.pc≤100000) (hr:0≤ic∧ic<c.locs.length) (hh:hldB ib (c.rd ic).n=true) :
  Calls Tryz.prog 85 #[.pointer (some ⟨p,0,none⟩),.pointer (some ⟨a.q,0,none⟩),.agg #[.int .i64 11,.int .i64 ia,.int .i64 ib,.int .i64 ic,.int .i64 ii,.slice Q nl q]] w fun e w'=>e=.returned (.int .i64 (ia))∧Hs w0 g w' p (h.rdH c ic 1)∧Fr w0.heap.size g.T w w':=by
 obtain ⟨HF,HH,HA,HI,HC,d13,hb,hq,hl⟩:=dqpre 11 ia ib ic ii Q nl q hH hC C
 clear hH hC C
 go_enter Tryz.func85,Tryz.ntmps85
 go_wp2_with (first
  | (go_at_call 82;refine (yread_any w0 g p h a c ic 1 _ HH.out HA.out HC.out hr).mono ?_;rintro e w1 ⟨rfl,H1,F1⟩;have hb1:=H1.base;have I1:=HI.out.keep HC.out.k F1;obtain ⟨i0,i1,i2,i3,i4,i5⟩:=I1.cs;have hw1:=lt_some I1.blk;have I2:Hid (IBox (w1.alloc (vaO (c.rd ic))) w.heap.size 11 ia ib ic ii Q nl q):=⟨(Below.heap_alloc _ _ _ hw1).trans I1.blk⟩;replace I1:=hid I1;obtain ⟨j0,j1,j2,j3,j4,j5⟩:=I2.out.cs;have U2:Hid (VaBox (w1.alloc (vaO (c.rd ic))) w1.heap.size (c.rd ic)):=⟨blk_new _ _ _⟩;have u0:=U2.out.c0;have u1:=U2.out.c1;have H2:=hid (H1.cf ((Cf.refl _ _ _).alloc hb1 (vaO (c.rd ic))));have F2:=hid ((HF.out.trans F1).alloc hb1 (vaO (c.rd ic)));clear H1 F1)
  | (go_at_call 151;refine (rholds_any _ _ _).mono ?_;rintro e w2 ⟨he,hw⟩;rw [hh] at he;subst he;rw [hw];clear hw w2))
 go_ret
 exact ⟨rfl,H2.out,F2.out⟩
theorem qdoes_op12y (w0:World) (g:Ad) (p:Nat) (h:Hp) (a:Ca) (c:Cal) (ia ib ic ii:Int) (Q:Option Addr) (nl q:Nat) (w:World) (hH:Hs w0 g w p h) (hC:CalAt w0 w a c) (C:Cq w0 g h) (hp:0≤c.pc∧c.pc≤100000) (hr:0≤ic∧ic<c.locs.length) (hh:decide ((c.rd ic).n<0)=true) :
  Calls Tryz.prog 85 #[.pointer (some ⟨p,0,none⟩),.pointer (some ⟨a.q,0,none⟩),.agg #[.int .i64 12,.int .i64 ia,.int .i64 ib,.int .i64 ic,.int .i64 ii,.slice Q nl q]] w fun e w'=>e=.returned (.int .i64 (ia))∧Hs w0 g w' p (h.rdH c ic 3)∧Fr w0.heap.size g.T w w':=by
 obtain ⟨HF,HH,HA,HI,HC,d13,hb,hq,hl⟩:=dqpre 12 ia ib ic ii Q nl q hH hC C
 clear hH hC C
 go_enter Tryz.func85,Tryz.ntmps85
 go_wp2_with (go_at_call 82;refine (yread_any w0 g p h a c ic 3 _ HH.out HA.out HC.out hr).mono ?_;rintro e w1 ⟨rfl,H1,F1⟩;have hb1:=H1.base;have I1:=HI.out.keep HC.out.k F1;obtain ⟨i0,i1,i2,i3,i4,i5⟩:=I1.cs;have hw1:=lt_some I1.blk;have I2:Hid (IBox (w1.alloc (vaO (c.rd ic))) w.heap.size 12 ia ib ic ii Q nl q):=⟨(Below.heap_alloc _ _ _ hw1).trans I1.blk⟩;replace I1:=hid I1;obtain ⟨j0,j1,j2,j3,j4,j5⟩:=I2.out.cs;have U2:Hid (VaBox (w1.alloc (vaO (c.rd ic))) w1.heap.size (c.rd ic)):=⟨blk_new _ _ _⟩;have u0:=U2.out.c0;have u1:=U2.out.c1;have H2:=hid (H1.cf ((Cf.refl _ _ _).alloc hb1 (vaO (c.rd ic))));have F2:=hid ((HF.out.trans F1).alloc hb1 (vaO (c.rd ic)));clear H1 F1)
 go_ret
 exact ⟨rfl,H2.out,F2.out⟩
theorem qdoes_op11n (w0:World) (g:Ad) (p:Nat) (h:Hp) (a:Ca) (c:Cal) (ia ib ic ii:Int) (Q:Option Addr) (nl q:Nat) (w:World) (hH:Hs w0 g w p h) (hC:CalAt w0 w a c) (C:Cq w0 g h) (hp:0≤c.pc∧c.pc≤100000) (hr:0≤ic∧ic<c.locs.length) (hh:hldB ib (c.rd ic).n=false) :
  Calls Tryz.prog 85 #[.pointer (some ⟨p,0,none⟩),.pointer (some ⟨a.q,0,none⟩),.agg #[.int .i64 11,.int .i64 ia,.int .i64 ib,.int .i64 ic,.int .i64 ii,.slice Q nl q]] w fun e w'=>e=.returned (.int .i64 (c.pc+1))∧Hs w0 g w' p (h.rdH c ic 1)∧Fr w0.heap.size g.T w w':=by
 obtain ⟨HF,HH,HA,HI,HC,d13,hb,hq,hl⟩:=dqpre 11 ia ib ic ii Q nl q hH hC C
 clear hH hC C
 go_enter Tryz.func85,Tryz.ntmps85
 go_wp2_with (first
  | (go_at_call 82;refine (yread_any w0 g p h a c ic 1 _ HH.out HA.out HC.out hr).mono ?_;rintro e w1 ⟨rfl,H1,F1⟩;have hb1:=H1.base;have I1:=HI.out.keep HC.out.k F1;obtain ⟨i0,i1,i2,i3,i4,i5⟩:=I1.cs;have hw1:=lt_some I1.blk;have I2:Hid (IBox (w1.alloc (vaO (c.rd ic))) w.heap.size 11 ia ib ic ii Q nl q):=⟨(Below.heap_alloc _ _ _ hw1).trans I1.blk⟩;replace I1:=hid I1;obtain ⟨j0,j1,j2,j3,j4,j5⟩:=I2.out.cs;have U2:Hid (VaBox (w1.alloc (vaO (c.rd ic))) w1.heap.size (c.rd ic)):=⟨blk_new _ _ _⟩;have u0:=U2.out.c0;have u1:=U2.out.c1;have H2:=hid (H1.cf ((Cf.refl _ _ _).alloc hb1 (vaO (c.rd ic))));have F2:=hid ((HF.out.trans F1).alloc hb1 (vaO (c.rd ic)));clear H1 F1)
  | (go_at_call 151;refine (rholds_any _ _ _).mono ?_;rintro e w2 ⟨he,hw⟩;rw [hh] at he;subst he;rw [hw];clear hw w2))
 go_ret
 exact ⟨rfl,H2.out,F2.out⟩
theorem qdoes_op12n (w0:World) (g:Ad) (p:Nat) (h:Hp) (a:Ca) (c:Cal) (ia ib ic ii:Int) (Q:Option Addr) (nl q:Nat) (w:World) (hH:Hs w0 g w p h) (hC:CalAt w0 w a c) (C:Cq w0 g h) (hp:0≤c.pc∧c.pc≤100000) (hr:0≤ic∧ic<c.locs.length) (hh:decide ((c.rd ic).n<0)=false) :
  Calls Tryz.prog 85 #[.pointer (some ⟨p,0,none⟩),.pointer (some ⟨a.q,0,none⟩),.agg #[.int .i64 12,.int .i64 ia,.int .i64 ib,.int .i64 ic,.int .i64 ii,.slice Q nl q]] w fun e w'=>e=.returned (.int .i64 (c.pc+1))∧Hs w0 g w' p (h.rdH c ic 3)∧Fr w0.heap.size g.T w w':=by
 obtain ⟨HF,HH,HA,HI,HC,d13,hb,hq,hl⟩:=dqpre 12 ia ib ic ii Q nl q hH hC C
 clear hH hC C
 go_enter Tryz.func85,Tryz.ntmps85
 go_wp2_with (go_at_call 82;refine (yread_any w0 g p h a c ic 3 _ HH.out HA.out HC.out hr).mono ?_;rintro e w1 ⟨rfl,H1,F1⟩;have hb1:=H1.base;have I1:=HI.out.keep HC.out.k F1;obtain ⟨i0,i1,i2,i3,i4,i5⟩:=I1.cs;have hw1:=lt_some I1.blk;have I2:Hid (IBox (w1.alloc (vaO (c.rd ic))) w.heap.size 12 ia ib ic ii Q nl q):=⟨(Below.heap_alloc _ _ _ hw1).trans I1.blk⟩;replace I1:=hid I1;obtain ⟨j0,j1,j2,j3,j4,j5⟩:=I2.out.cs;have U2:Hid (VaBox (w1.alloc (vaO (c.rd ic))) w1.heap.size (c.rd ic)):=⟨blk_new _ _ _⟩;have u0:=U2.out.c0;have u1:=U2.out.c1;have H2:=hid (H1.cf ((Cf.refl _ _ _).alloc hb1 (vaO (c.rd ic))));have F2:=hid ((HF.out.trans F1).alloc hb1 (vaO (c.rd ic)));clear H1 F1)
 go_ret
 exact ⟨rfl,H2.out,F2.out⟩
theorem qdoes_op21o (w0:World) (g:Ad) (p:Nat) (h:Hp) (a:Ca) (c:Cal) (ia ib ic ii:Int) (Q:Option Addr) (nl q:Nat) (w:World) (hH:Hs w0 g w p h) (hC:CalAt w0 w a c) (C:Cq w0 g h) (hp:0≤c.pc∧c.pc≤100000) (hr:0≤ia∧ia<c.locs.length) (ho:(h.rdH c ia 3).over=true) :
  Calls Tryz.prog 85 #[.pointer (some ⟨p,0,none⟩),.pointer (some ⟨a.q,0,none⟩),.agg #[.int .i64 21,.int .i64 ia,.int .i64 ib,.int .i64 ic,.int .i64 ii,.slice Q nl q]] w fun e w'=>e=.returned (.int .i64 (c.pc+1))∧Hs w0 g w' p (h.rdH c ia 3)∧Fr w0.heap.size g.T w w':=by
 obtain ⟨HF,HH,HA,HI,HC,d13,hb,hq,hl⟩:=dqpre 21 ia ib ic ii Q nl q hH hC C
 clear hH hC C
 go_enter Tryz.func85,Tryz.ntmps85
 go_wp2_with (go_at_call 82;refine (yread_any w0 g p h a c ia 3 _ HH.out HA.out HC.out hr).mono ?_;rintro e w1 ⟨rfl,H1,F1⟩;have hb1:=H1.base;have I1:=HI.out.keep HC.out.k F1;obtain ⟨i0,i1,i2,i3,i4,i5⟩:=I1.cs;have hw1:=lt_some I1.blk;have I2:Hid (IBox (w1.alloc (vaO (c.rd ia))) w.heap.size 21 ia ib ic ii Q nl q):=⟨(Below.heap_alloc _ _ _ hw1).trans I1.blk⟩;replace I1:=hid I1;obtain ⟨j0,j1,j2,j3,j4,j5⟩:=I2.out.cs;have U2:Hid (VaBox (w1.alloc (vaO (c.rd ia))) w1.heap.size (c.rd ia)):=⟨blk_new _ _ _⟩;have u0:=U2.out.c0;have u1:=U2.out.c1;have o12:w1.cell? ⟨p,12,none⟩=some (.bool true):=(by obtain ⟨vo,vx,hv,X⟩:=H1;rw [X.cells.c12,ho]);have o12a:=((Bl.refl w1).alloc (vaO (c.rd ia))).cell o12;have H2:=hid (H1.cf ((Cf.refl _ _ _).alloc hb1 (vaO (c.rd ia))));have F2:=hid ((HF.out.trans F1).alloc hb1 (vaO (c.rd ia)));clear H1 F1)
 go_ret
 exact ⟨rfl,H2.out,F2.out⟩
theorem qdoes_op21 (w0:World) (g:Ad) (p:Nat) (h:Hp) (a:Ca) (c:Cal) (ia ib ic ii:Int) (Q:Option Addr) (nl q:Nat) (w:World) (hH:Hs w0 g w p h) (hC:CalAt w0 w a c) (C:Cq w0 g h) (hp:0≤c.pc∧c.pc≤100000) (hr:0≤ia∧ia<c.locs.length) (ho:(h.rdH c ia 3).over=false) :
  Calls Tryz.prog 85 #[.pointer (some ⟨p,0,none⟩),.pointer (some ⟨a.q,0,none⟩),.agg #[.int .i64 21,.int .i64 ia,.int .i64 ib,.int .i64 ic,.int .i64 ii,.slice Q nl q]] w fun e w'=>e=.returned (.int .i64 (c.pc+1))∧Hs w0 g w' p ((h.rdH c ia 3).throw (c.rd ia))∧Fr w0.heap.size g.T w w':=by
 obtain ⟨HF,HH,HA,HI,HC,d13,hb,hq,hl⟩:=dqpre 21 ia ib ic ii Q nl q hH hC C
 clear hH hC C
 go_enter Tryz.func85,Tryz.ntmps85
 go_wp2_with (go_at_call 82;refine (yread_any w0 g p h a c ia 3 _ HH.out HA.out HC.out hr).mono ?_;rintro e w1 ⟨rfl,H1,F1⟩;have hb1:=H1.base;have I1:=HI.out.keep HC.out.k F1;obtain ⟨i0,i1,i2,i3,i4,i5⟩:=I1.cs;have hw1:=lt_some I1.blk;have I2:Hid (IBox (w1.alloc (vaO (c.rd ia))) w.heap.size 21 ia ib ic ii Q nl q):=⟨(Below.heap_alloc _ _ _ hw1).trans I1.blk⟩;replace I1:=hid I1;obtain ⟨j0,j1,j2,j3,j4,j5⟩:=I2.out.cs;have U2:Hid (VaBox (w1.alloc (vaO (c.rd ia))) w1.heap.size (c.rd ia)):=⟨blk_new _ _ _⟩;have u0:=U2.out.c0;have u1:=U2.out.c1;have o12:w1.cell? ⟨p,12,none⟩=some (.bool false):=(by obtain ⟨vo,vx,hv,X⟩:=H1;rw [X.cells.c12,ho]);have o12a:=((Bl.refl w1).alloc (vaO (c.rd ia))).cell o12;have H2:=hid (H1.cf ((Cf.refl _ _ _).alloc hb1 (vaO (c.rd ia))));have F2:=hid ((HF.out.trans F1).alloc hb1 (vaO (c.rd ia)));clear H1 F1)
 have z2:=hid (And.intro U2.out.c0 (And.intro U2.out.c1 I2.out.cs.2.2.1))
 refine wp_region_held_drew (S:=fun w'=>w'.cell? ⟨w1.heap.size,0,none⟩=some (.int .i64 (c.rd ia).kind)∧w'.cell? ⟨w1.heap.size,1,none⟩=some (.int .i64 (c.rd ia).n)∧w'.cell? ⟨w.heap.size,2,none⟩=some (.int .i64 ib)) (by kernel_rfl) ?_ (fun hHeld0=>?_)
 ·exact z2.out
 iterate 4 (refine tn rfl (by kernel_rfl) (fun _ _ _ h=>h) (by intro _ h;go_split_ands;go_simp<;>with_reducible rfl) hHeld0 ?_;try simp only [aS,aN,aT,a0,a1])
 refine rd1 (i:=4) (by kernel_rfl) rfl fun K hK=>?_
 go_simp
 go_at_call 152
 refine (throw_any w0 g p (h.rdH c ia 3) (c.rd ia) _ (H2.out.drewN 1) (HC.out.same (rdH_file h c ia 3)).cw).mono ?_
 rintro e w2 ⟨rfl,H3,F3⟩
 have I3:=hid ((IBox.mk I2.out.blk:IBox ((w1.alloc (vaO (c.rd ia))).drew) _ _ _ _ _ _ _ _ _).keep HC.out.k F3)
 have U3:=hid ((U2.out.drewN 1).keep HC.out.k F3)
 have d8:=hid (And.intro U3.out.c0 (And.intro U3.out.c1 I3.out.cs.2.2.1))
 replace H3:=hid H3
 replace F3:=hid ((F2.out.drewN 1).trans F3)
 go_wp2_with fail
 refine hK.out _ _ (d8.out) (fun hHeld1=>?_)
 try simp only [aS,aN,aT,a0,a1]
 refine wpAnyH_done (by kernel_rfl) ?_ _
 go_wp2
 go_ret
 exact ⟨rfl,H3.out,F3.out⟩
theorem qdoes_op16o (w0:World) (g:Ad) (p:Nat) (h:Hp) (a:Ca) (c:Cal) (ia ib ic ii:Int) (Q:Option Addr) (nl q:Nat) (w:World) (hH:Hs w0 g w p h) (hC:CalAt w0 w a c) (C:Cq w0 g h) (hp:0≤c.pc∧c.pc≤100000) (hr:0≤ia∧ia<c.locs.length) (ho:(h.rdH c ia 3).over=true) :
  Calls Tryz.prog 85 #[.pointer (some ⟨p,0,none⟩),.pointer (some ⟨a.q,0,none⟩),.agg #[.int .i64 16,.int .i64 ia,.int .i64 ib,.int .i64 ic,.int .i64 ii,.slice Q nl q]] w fun e w'=>e=.returned (.int .i64 (c.pc+1))∧Hs w0 g w' p (h.rdH c ia 3)∧Fr w0.heap.size g.T w w':=by
 obtain ⟨HF,HH,HA,HI,HC,d13,hb,hq,hl⟩:=dqpre 16 ia ib ic ii Q nl q hH hC C
 clear hH hC C
 go_enter Tryz.func85,Tryz.ntmps85
 go_wp2_with (go_at_call 82;refine (yread_any w0 g p h a c ia 3 _ HH.out HA.out HC.out hr).mono ?_;rintro e w1 ⟨rfl,H1,F1⟩;have hb1:=H1.base;have I1:=HI.out.keep HC.out.k F1;obtain ⟨i0,i1,i2,i3,i4,i5⟩:=I1.cs;have hw1:=lt_some I1.blk;have I2:Hid (IBox (w1.alloc (vaO (c.rd ia))) w.heap.size 16 ia ib ic ii Q nl q):=⟨(Below.heap_alloc _ _ _ hw1).trans I1.blk⟩;replace I1:=hid I1;obtain ⟨j0,j1,j2,j3,j4,j5⟩:=I2.out.cs;have U2:Hid (VaBox (w1.alloc (vaO (c.rd ia))) w1.heap.size (c.rd ia)):=⟨blk_new _ _ _⟩;have u0:=U2.out.c0;have u1:=U2.out.c1;have o12:w1.cell? ⟨p,12,none⟩=some (.bool true):=(by obtain ⟨vo,vx,hv,X⟩:=H1;rw [X.cells.c12,ho]);have o12a:=((Bl.refl w1).alloc (vaO (c.rd ia))).cell o12;have H2:=hid (H1.cf ((Cf.refl _ _ _).alloc hb1 (vaO (c.rd ia))));have F2:=hid ((HF.out.trans F1).alloc hb1 (vaO (c.rd ia)));clear H1 F1)
 go_ret
 exact ⟨rfl,H2.out,F2.out⟩
theorem qdoes_op16 (w0:World) (g:Ad) (p:Nat) (h:Hp) (a:Ca) (c:Cal) (ia ib ic ii:Int) (Q:Option Addr) (nl q:Nat) (w:World) (hH:Hs w0 g w p h) (hC:CalAt w0 w a c) (C:Cq w0 g h) (hp:0≤c.pc∧c.pc≤100000) (hr:0≤ia∧ia<c.locs.length) (ho:(h.rdH c ia 3).over=false) (h3:(c.rd ia).kind=3→(c.rd ia).n<(h.rdH c ia 3).objs.length) :
  Calls Tryz.prog 85 #[.pointer (some ⟨p,0,none⟩),.pointer (some ⟨a.q,0,none⟩),.agg #[.int .i64 16,.int .i64 ia,.int .i64 ib,.int .i64 ic,.int .i64 ii,.slice Q nl q]] w fun e w'=>e=.returned (.int .i64 (c.pc+1))∧Hs w0 g w' p ((h.rdH c ia 3).cast (c.rd ia) ib)∧Fr w0.heap.size g.T w w':=by
 obtain ⟨HF,HH,HA,HI,HC,d13,hb,hq,hl⟩:=dqpre 16 ia ib ic ii Q nl q hH hC C
 clear hH hC C
 go_enter Tryz.func85,Tryz.ntmps85
 go_wp2_with (go_at_call 82;refine (yread_any w0 g p h a c ia 3 _ HH.out HA.out HC.out hr).mono ?_;rintro e w1 ⟨rfl,H1,F1⟩;have hb1:=H1.base;have I1:=HI.out.keep HC.out.k F1;obtain ⟨i0,i1,i2,i3,i4,i5⟩:=I1.cs;have hw1:=lt_some I1.blk;have I2:Hid (IBox (w1.alloc (vaO (c.rd ia))) w.heap.size 16 ia ib ic ii Q nl q):=⟨(Below.heap_alloc _ _ _ hw1).trans I1.blk⟩;replace I1:=hid I1;obtain ⟨j0,j1,j2,j3,j4,j5⟩:=I2.out.cs;have U2:Hid (VaBox (w1.alloc (vaO (c.rd ia))) w1.heap.size (c.rd ia)):=⟨blk_new _ _ _⟩;have u0:=U2.out.c0;have u1:=U2.out.c1;have o12:w1.cell? ⟨p,12,none⟩=some (.bool false):=(by obtain ⟨vo,vx,hv,X⟩:=H1;rw [X.cells.c12,ho]);have o12a:=((Bl.refl w1).alloc (vaO (c.rd ia))).cell o12;have H2:=hid (H1.cf ((Cf.refl _ _ _).alloc hb1 (vaO (c.rd ia))));have F2:=hid ((HF.out.trans F1).alloc hb1 (vaO (c.rd ia)));clear H1 F1)
 have z2:=hid (And.intro U2.out.c0 (And.intro U2.out.c1 I2.out.cs.2.2.1))
 refine wp_region_held_drew (S:=fun w'=>w'.cell? ⟨w1.heap.size,0,none⟩=some (.int .i64 (c.rd ia).kind)∧w'.cell? ⟨w1.heap.size,1,none⟩=some (.int .i64 (c.rd ia).n)∧w'.cell? ⟨w.heap.size,2,none⟩=some (.int .i64 ib)) (by kernel_rfl) ?_ (fun hHeld0=>?_)
 ·exact z2.out
 iterate 6 (refine tn rfl (by kernel_rfl) (fun _ _ _ h=>h) (by intro _ h;go_split_ands;go_simp<;>with_reducible rfl) hHeld0 ?_;try simp only [aS,aN,aT,a0,a1])
 refine rd1 (i:=6) (by kernel_rfl) rfl fun K hK=>?_
 go_simp
 go_at_call 154
 refine (cast_any w0 g p (h.rdH c ia 3) (c.rd ia) ib _ (H2.out.drewN 1) (HC.out.same (rdH_file h c ia 3)).cw h3).mono ?_
 rintro e w2 ⟨rfl,H3,F3⟩
 have I3:=hid ((IBox.mk I2.out.blk:IBox ((w1.alloc (vaO (c.rd ia))).drew) _ _ _ _ _ _ _ _ _).keep HC.out.k F3)
 have U3:=hid ((U2.out.drewN 1).keep HC.out.k F3)
 have d8:=hid (And.intro U3.out.c0 (And.intro U3.out.c1 I3.out.cs.2.2.1))
 replace H3:=hid H3
 replace F3:=hid ((F2.out.drewN 1).trans F3)
 go_wp2_with fail
 refine hK.out _ _ (d8.out) (fun hHeld1=>?_)
 try simp only [aS,aN,aT,a0,a1]
 refine wpAnyH_done (by kernel_rfl) ?_ _
 go_wp2
 go_ret
 exact ⟨rfl,H3.out,F3.out⟩
theorem qdoes_op23o (w0:World) (g:Ad) (p:Nat) (h:Hp) (a:Ca) (c:Cal) (ia ib ic ii:Int) (Q:Option Addr) (nl q:Nat) (w:World) (hH:Hs w0 g w p h) (hC:CalAt w0 w a c) (C:Cq w0 g h) (hp:0≤c.pc∧c.pc≤100000) (hr:0≤ia∧ia<c.locs.length) (ho:(h.rdH c ia ib).over=true) :
  Calls Tryz.prog 85 #[.pointer (some ⟨p,0,none⟩),.pointer (some ⟨a.q,0,none⟩),.agg #[.int .i64 23,.int .i64 ia,.int .i64 ib,.int .i64 ic,.int .i64 ii,.slice Q nl q]] w fun e w'=>e=.returned (.int .i64 (c.pc+1))∧Hs w0 g w' p (h.rdH c ia ib)∧Fr w0.heap.size g.T w w':=by
 obtain ⟨HF,HH,HA,HI,HC,d13,hb,hq,hl⟩:=dqpre 23 ia ib ic ii Q nl q hH hC C
 clear hH hC C
 go_enter Tryz.func85,Tryz.ntmps85
 go_wp2_with (go_at_call 82;refine (yread_any w0 g p h a c ia ib _ HH.out HA.out HC.out hr).mono ?_;rintro e w1 ⟨rfl,H1,F1⟩;have hb1:=H1.base;have I1:=HI.out.keep HC.out.k F1;obtain ⟨i0,i1,i2,i3,i4,i5⟩:=I1.cs;have hw1:=lt_some I1.blk;have I2:Hid (IBox (w1.alloc (vaO (c.rd ia))) w.heap.size 23 ia ib ic ii Q nl q):=⟨(Below.heap_alloc _ _ _ hw1).trans I1.blk⟩;replace I1:=hid I1;obtain ⟨j0,j1,j2,j3,j4,j5⟩:=I2.out.cs;have U2:Hid (VaBox (w1.alloc (vaO (c.rd ia))) w1.heap.size (c.rd ia)):=⟨blk_new _ _ _⟩;have u0:=U2.out.c0;have u1:=U2.out.c1;have o12:w1.cell? ⟨p,12,none⟩=some (.bool true):=(by obtain ⟨vo,vx,hv,X⟩:=H1;rw [X.cells.c12,ho]);have o12a:=((Bl.refl w1).alloc (vaO (c.rd ia))).cell o12;have H2:=hid (H1.cf ((Cf.refl _ _ _).alloc hb1 (vaO (c.rd ia))));have F2:=hid ((HF.out.trans F1).alloc hb1 (vaO (c.rd ia)));clear H1 F1)
 go_ret
 exact ⟨rfl,H2.out,F2.out⟩
theorem qdoes_op23 (w0:World) (g:Ad) (p:Nat) (h:Hp) (a:Ca) (c:Cal) (ia ib ic ii:Int) (Q:Option Addr) (nl q:Nat) (w:World) (hH:Hs w0 g w p h) (hC:CalAt w0 w a c) (C:Cq w0 g h) (hp:0≤c.pc∧c.pc≤100000) (hr:0≤ia∧ia<c.locs.length) (ho:(h.rdH c ia ib).over=false) (h3:(h.rdH c ia ib).sh.out.length≤60000) :
  Calls Tryz.prog 85 #[.pointer (some ⟨p,0,none⟩),.pointer (some ⟨a.q,0,none⟩),.agg #[.int .i64 23,.int .i64 ia,.int .i64 ib,.int .i64 ic,.int .i64 ii,.slice Q nl q]] w fun e w'=>e=.returned (.int .i64 (c.pc+1))∧Hs w0 g w' p ((h.rdH c ia ib).emit (c.rd ia) ib)∧Fr w0.heap.size g.T w w':=by
 obtain ⟨HF,HH,HA,HI,HC,d13,hb,hq,hl⟩:=dqpre 23 ia ib ic ii Q nl q hH hC C
 clear hH hC C
 go_enter Tryz.func85,Tryz.ntmps85
 go_wp2_with (go_at_call 82;refine (yread_any w0 g p h a c ia ib _ HH.out HA.out HC.out hr).mono ?_;rintro e w1 ⟨rfl,H1,F1⟩;have hb1:=H1.base;have I1:=HI.out.keep HC.out.k F1;obtain ⟨i0,i1,i2,i3,i4,i5⟩:=I1.cs;have hw1:=lt_some I1.blk;have I2:Hid (IBox (w1.alloc (vaO (c.rd ia))) w.heap.size 23 ia ib ic ii Q nl q):=⟨(Below.heap_alloc _ _ _ hw1).trans I1.blk⟩;replace I1:=hid I1;obtain ⟨j0,j1,j2,j3,j4,j5⟩:=I2.out.cs;have U2:Hid (VaBox (w1.alloc (vaO (c.rd ia))) w1.heap.size (c.rd ia)):=⟨blk_new _ _ _⟩;have u0:=U2.out.c0;have u1:=U2.out.c1;have o12:w1.cell? ⟨p,12,none⟩=some (.bool false):=(by obtain ⟨vo,vx,hv,X⟩:=H1;rw [X.cells.c12,ho]);have o12a:=((Bl.refl w1).alloc (vaO (c.rd ia))).cell o12;have H2:=hid (H1.cf ((Cf.refl _ _ _).alloc hb1 (vaO (c.rd ia))));have F2:=hid ((HF.out.trans F1).alloc hb1 (vaO (c.rd ia)));clear H1 F1)
 have z2:=hid (And.intro U2.out.c0 (And.intro U2.out.c1 I2.out.cs.2.2.1))
 refine wp_region_held_drew (S:=fun w'=>w'.cell? ⟨w1.heap.size,0,none⟩=some (.int .i64 (c.rd ia).kind)∧w'.cell? ⟨w1.heap.size,1,none⟩=some (.int .i64 (c.rd ia).n)∧w'.cell? ⟨w.heap.size,2,none⟩=some (.int .i64 ib)) (by kernel_rfl) ?_ (fun hHeld0=>?_)
 ·exact z2.out
 iterate 6 (refine tn rfl (by kernel_rfl) (fun _ _ _ h=>h) (by intro _ h;go_split_ands;go_simp<;>with_reducible rfl) hHeld0 ?_;try simp only [aS,aN,aT,a0,a1])
 refine rd1 (i:=6) (by kernel_rfl) rfl fun K hK=>?_
 go_simp
 go_at_call 155
 refine (emit_any w0 g HC.out.k p (h.rdH c ia ib) (c.rd ia) ib _ (H2.out.drewN 1) h3).mono ?_
 rintro e w2 ⟨rfl,H3,F3⟩
 have I3:=hid ((IBox.mk I2.out.blk:IBox ((w1.alloc (vaO (c.rd ia))).drew) _ _ _ _ _ _ _ _ _).keep HC.out.k F3)
 have U3:=hid ((U2.out.drewN 1).keep HC.out.k F3)
 have d8:=hid (And.intro U3.out.c0 (And.intro U3.out.c1 I3.out.cs.2.2.1))
 replace H3:=hid H3
 replace F3:=hid ((F2.out.drewN 1).trans F3)
 go_wp2_with fail
 refine hK.out _ _ (d8.out) (fun hHeld1=>?_)
 try simp only [aS,aN,aT,a0,a1]
 refine wpAnyH_done (by kernel_rfl) ?_ _
 go_wp2
 go_ret
 exact ⟨rfl,H3.out,F3.out⟩
def StkAt (lb:Nat) (w:World) (A:Option Addr) (l:List Va):Prop :=
 l.length=0∨∃b off cs f,A=some ⟨b,off,none⟩∧w.heap[b]?=some (.cells cs 80 f)∧b≠lb ∧
  ∀i,i<l.length→cs[off+i*2]?=some (.int .i64 (nth va0 l i).kind)∧cs[off+i*2+1]?=some (.int .i64 (nth va0 l i).n)
theorem StkAt.keep {lb:Nat} {w w':World} {A:Option Addr} {l:List Va} (h:StkAt lb w A l)
  (k:∀b cs f,w.heap[b]?=some (.cells cs 80 f)→b≠lb→w'.heap[b]?=some (.cells cs 80 f)):StkAt lb w' A l:=by
 rcases h with h|⟨b,off,cs,f,h1,h2,h3,h4⟩
 ·exact Or.inl h
 ·exact Or.inr ⟨b,off,cs,f,h1,k b cs f h2 h3,h3,h4⟩
theorem StkAt.fr {B lb:Nat} {T:TypeId} {w w':World} {A:Option Addr} {l:List Va} (h:StkAt lb w A l) (k:Tk T) (f:Fr B T w w'):StkAt lb w' A l :=
 h.keep fun b cs fz e _=>f.keep b cs _ fz e k.nv
theorem info_va3:(Tryz.prog.info? 80).map (fun i=>(i.zero,i.size,i.bytes))=some (some (.agg #[.int .i64 0,.int .i64 0]),2,16):=by kernel_rfl
theorem rep_at:∀(k j:Nat),j<k*2→(vaCells (List.replicate k va0))[j]?=some (.int .i64 0)
 | 0,j,h=>by omega
 | k+1,0,_=>by rw [List.replicate_succ];rfl
 | k+1,1,_=>by rw [List.replicate_succ];rfl
 | k+1,j+2,h=>by
  rw [List.replicate_succ]
  show (vaCells (List.replicate k va0))[j]?=_
  exact rep_at k j (by omega)
theorem made_va (k:Nat):madeCells #[.int .i64 0,.int .i64 0] (k*2)=(vaCells (List.replicate k va0)).toArray:=by
 apply Array.ext_getElem?
 intro j
 by_cases hj:j<k*2
 ·have h2:=rep_at k j hj
  simp only [List.getElem?_toArray,h2]
  unfold madeCells
  have hm:j%2=0∨j%2=1:=by omega
  rcases hm with hm|hm<;>simp [hj,hm]
 ·rw [Array.getElem?_eq_none (by rw [size_madeCells];omega),Array.getElem?_eq_none (by simp [vaCells_length];omega)]
theorem make_va (n:Nat) (hn:n≤1000000) (u:World):(Instr.makeSlice 70 (.int .i64 (n:Int)) (.int .i64 (n:Int))).run Tryz.prog u=.ok (.slice (some ⟨u.heap.size,0,none⟩) n n) (u.alloc (.cells (vaCells (List.replicate n va0)).toArray 80)):=by
 obtain ⟨i,hi,hz,hs,hb⟩:=info_parts info_va3
 have h:=run_make u 70 80 i _ Tryz.underlying70 hi hz .i64 .i64 (n:Int) (n:Int) (by omega) (Int.le_refl _) (by rw [hb];omega) (by omega)
 rw [hs] at h
 simp only [Int.toNat_natCast] at h
 rw [←made_va]
 exact h
theorem blk_at {w:World} {b:Nat} {cs:Array Value} {t:TypeId} (hb:b=w.heap.size):(w.alloc (.cells cs t)).heap[b]?=some (.cells cs t (0,0)):=by subst hb;exact blk_new _ _ _
theorem blk_up {w:World} {b:Nat} {o o':Obj} (hb:b<w.heap.size) (h:w.heap[b]?=some o):(w.alloc o').heap[b]?=some o:=(Below.heap_alloc _ _ _ hb).trans h
theorem bl_grown {W0 W w1:World} (h:Bl W0 W) {row:Option Nat} (hg:W.grownBy w1 row) (hr:∀k,row=some k→W0.heap.size≤k):Bl W0 w1:=Below.grown h hg h.size hr
theorem Hs.old {w0 w w':World} {g:Ad} {p:Nat} {h:Hp} (H:Hs w0 g w p h) (hb:Bl w w'):Hs w0 g w' p h:=by
 obtain ⟨vo,vx,hv,H⟩:=H
 exact ⟨vo,vx,hv,H.old hb⟩
theorem own_stk {w:World} {base lb n:Nat} {b cap:Nat} {l:List Va} (h:w.ownsRow base 80 2 (.slice (some ⟨b,0,none⟩) n cap) n (vaCells l)) (hl:lb<base) (hn:n=l.length):StkAt lb w (some ⟨b,0,none⟩) l∧l.length≤cap:=by
 subst hn
 rcases h.2 with ⟨h1,h2⟩|⟨gb,cp,cur,h1,h2,h3,h4,h5,h6,h7⟩
 ·simp at h1
 ·simp at h1
  obtain ⟨rfl,rfl⟩:=h1
  refine ⟨Or.inr ⟨b,0,cur,(0,0),rfl,h3,by omega,fun i hi=>?_⟩,h4⟩
  have hv:=va_cells l i hi
  rw [←h7] at hv
  rw [List.getElem?_take,if_pos (by omega),List.getElem?_take,if_pos (by omega)] at hv
  simpa using hv
theorem size_at (A:Option Addr) (c n:Nat) (l:List Va) (w:World) (hl:VasAt w A l) (hb:l.length≤1000000) (hn:n=l.length) :
  Calls Tryz.prog 79 #[.slice A n c] w fun e w'=>e=.returned (.int .i64 (sizP l:Nat))∧w'=w:=by
 subst hn
 exact size_any A c l w hl hb
theorem CalAt.old {w0 w w':World} {a:Ca} {c:Cal} (h:CalAt w0 w a c) (hb:Bl w w'):CalAt w0 w' a c :=
 ⟨h.own,h.ownl,(hb.block _ (lt_some h.blk)).trans h.blk,⟨(hb.block _ (lt_some h.loc.blk)).trans h.loc.blk,h.loc.len⟩,h.me⟩
theorem VaBox.fq {B:Nat} {T:TypeId} {a:Ca} {w w':World} {b:Nat} {v:Va} (h:VaBox w b v) (k:Tk T) (f:Fq B T a w w') (h1:b≠a.q) (h2:b≠a.lb):VaBox w' b v:=⟨f.keep _ _ _ _ h.blk k.nv h1 h2⟩
theorem StkAt.fst {lb:Nat} {w:World} {A:Option Addr} {l:List Va} (h:StkAt lb w A l) (hl:0<l.length):∃b off,A=some ⟨b,off,none⟩∧∀i,i<l.length→w.cell? ⟨b,off+i*2,none⟩=some (.int .i64 (nth va0 l i).kind)∧w.cell? ⟨b,off+i*2+1,none⟩=some (.int .i64 (nth va0 l i).n):=by
 rcases h with h|⟨b,off,cs,f,h1,h2,h3,h4⟩
 ·omega
 ·exact ⟨b,off,h1,fun i hi=>by rw [cell_blk h2,cell_blk h2];exact h4 i hi⟩
theorem mes_cells {w:World} {A:Option Addr} {l:List Me} (h:MesAt w A l) {i:Nat} (hi:i<l.length):∃b off P C K p c k,A=some ⟨b,off,none⟩ ∧
  (w.cell? ⟨b,off+i*8,none⟩=some (.slice P (nth me0 l i).params.length p)∧w.cell? ⟨b,off+i*8+1,none⟩=some (.int .i64 (nth me0 l i).ret.kind)∧w.cell? ⟨b,off+i*8+2,none⟩=some (.int .i64 (nth me0 l i).ret.cls)
  ∧ w.cell? ⟨b,off+i*8+3,none⟩=some (.int .i64 (nth me0 l i).stack)∧w.cell? ⟨b,off+i*8+4,none⟩=some (.int .i64 (nth me0 l i).locs)∧w.cell? ⟨b,off+i*8+5,none⟩=some (.int .i64 (nth me0 l i).regs)
  ∧ w.cell? ⟨b,off+i*8+6,none⟩=some (.slice C (nth me0 l i).code.length c)∧w.cell? ⟨b,off+i*8+7,none⟩=some (.slice K (nth me0 l i).hands.length k))∧MeAt w (nth me0 l i) P C K:=by
 rcases h.2 with h0|⟨b,off,hA,hc⟩
 ·omega
 obtain ⟨P,C,K,p,c,k,h0,h1,h2,h3,h4,h5,h6,h7,h8⟩:=hc i hi
 exact ⟨b,off,P,C,K,p,c,k,hA,⟨h0,h1,h2,h3,h4,h5,h6,h7⟩,h8⟩
structure MthBox (w:World) (b:Nat) (m:Me) (P C K:Option Addr) (p c k:Nat):Prop where
 blk:w.heap[b]?=some (meBO m P C K p c k)
structure MthCells (w:World) (b:Nat) (m:Me) (P C K:Option Addr) (p c k:Nat):Prop where
 c0:w.cell? ⟨b,0,none⟩=some (.slice P m.params.length p)
 c1:w.cell? ⟨b,1,none⟩=some (.int .i64 m.ret.kind)
 c2:w.cell? ⟨b,2,none⟩=some (.int .i64 m.ret.cls)
 c3:w.cell? ⟨b,3,none⟩=some (.int .i64 m.stack)
 c4:w.cell? ⟨b,4,none⟩=some (.int .i64 m.locs)
 c5:w.cell? ⟨b,5,none⟩=some (.int .i64 m.regs)
 c6:w.cell? ⟨b,6,none⟩=some (.slice C m.code.length c)
 c7:w.cell? ⟨b,7,none⟩=some (.slice K m.hands.length k)
theorem MthBox.cells {w:World} {b:Nat} {m:Me} {P C K:Option Addr} {p c k:Nat} (h:MthBox w b m P C K p c k):MthCells w b m P C K p c k:=by
 constructor<;>(rw [cell_blk h.blk];rfl)
theorem MthBox.fr {B:Nat} {T:TypeId} {w w':World} {b:Nat} {m:Me} {P C K:Option Addr} {p c k:Nat} (h:MthBox w b m P C K p c k) (t:Tk T) (f:Fr B T w w'):MthBox w' b m P C K p c k:=⟨f.keep _ _ _ _ h.blk t.nm⟩
theorem MthBox.fq {B:Nat} {T:TypeId} {a:Ca} {w w':World} {b:Nat} {m:Me} {P C K:Option Addr} {p c k:Nat} (h:MthBox w b m P C K p c k) (t:Tk T) (f:Fq B T a w w') (h1:b≠a.q) (h2:b≠a.lb):MthBox w' b m P C K p c k:=⟨f.keep _ _ _ _ h.blk t.nm h1 h2⟩
theorem own_ge {w:World} {base:Nat} {e:TypeId} {size n:Nat} {v:Value} {xs:List Value} (h:w.ownsRow base e size v n xs) {k:Nat} (hk:v.ownBlock=some k):base≤k:=(h.lt k hk).1
theorem make_vaI (k:Int) (h0:0≤k) (hn:k≤1000000) (u:World):(Instr.makeSlice 70 (.int .i64 k) (.int .i64 k)).run Tryz.prog u=.ok (.slice (some ⟨u.heap.size,0,none⟩) k.toNat k.toNat) (u.alloc (.cells (vaCells (List.replicate k.toNat va0)).toArray 80)):=by
 have:=make_va k.toNat (by omega) u
 rw [Int.toNat_of_nonneg h0] at this
 exact this
theorem qdoes_gives (w0:World) (g:Ad) (p:Nat) (h:Hp) (a:Ca) (c:Cal) (k ia ib ic ii:Int) (args:List Int) (Q:Option Addr) (nl q:Nat) (w:World) (hH:Hs w0 g w p h) (hC:CalAt w0 w a c) (C:Cq w0 g h) (hp:0≤c.pc∧c.pc≤100000) (hk:k≠10∧k≠11∧k≠12∧k≠18∧k≠21∧k≠15∧k≠16∧k≠23) (G:GOk w0 g h c k ib ic) (hf:(givesH h c ⟨k,ia,ib,ic,ii,args⟩).file=h.file) (hn:0≤ia∧ia<c.locs.length) (hw:(givesH h c ⟨k,ia,ib,ic,ii,args⟩).stops=false→LocOk c.locs∧((givesV h c ⟨k,ia,ib,ic,ii,args⟩).kind=2→ia+1<c.locs.length)) :
  Calls Tryz.prog 85 #[.pointer (some ⟨p,0,none⟩),.pointer (some ⟨a.q,0,none⟩),.agg #[.int .i64 k,.int .i64 ia,.int .i64 ib,.int .i64 ic,.int .i64 ii,.slice Q nl q]] w fun e w'=>e=.returned (.int .i64 (c.pc+1))∧Hs w0 g w' p (givesH h c ⟨k,ia,ib,ic,ii,args⟩)∧CalAt w0 w' a (wrP (givesH h c ⟨k,ia,ib,ic,ii,args⟩) c ia (givesV h c ⟨k,ia,ib,ic,ii,args⟩))∧Fq w0.heap.size g.T a w w':=by
 obtain ⟨HF,HH,HA,HI,HC,d13,hb,hq,hl⟩:=dqpre k ia ib ic ii Q nl q hH hC C
 obtain ⟨n10,n11,n12,n18,n21,n15,n16,n23⟩:=hk
 have b10:decide (k=10)=false:=decide_eq_false n10
 have c10:(k==10)=false:=beq_eq_false_iff_ne.2 n10
 have b11:decide (k=11)=false:=decide_eq_false n11
 have c11:(k==11)=false:=beq_eq_false_iff_ne.2 n11
 have b12:decide (k=12)=false:=decide_eq_false n12
 have c12:(k==12)=false:=beq_eq_false_iff_ne.2 n12
 have b18:decide (k=18)=false:=decide_eq_false n18
 have c18:(k==18)=false:=beq_eq_false_iff_ne.2 n18
 have b21:decide (k=21)=false:=decide_eq_false n21
 have c21:(k==21)=false:=beq_eq_false_iff_ne.2 n21
 have b15:decide (k=15)=false:=decide_eq_false n15
 have c15:(k==15)=false:=beq_eq_false_iff_ne.2 n15
 have b16:decide (k=16)=false:=decide_eq_false n16
 have c16:(k==16)=false:=beq_eq_false_iff_ne.2 n16
 have b23:decide (k=23)=false:=decide_eq_false n23
 have c23:(k==23)=false:=beq_eq_false_iff_ne.2 n23
 clear hH hC C
 have HG:=hid G
 have HW:=hid hw
 clear G hw
 go_enter Tryz.func85,Tryz.ntmps85
 go_wp2_with (first
  | (go_at_call 156;refine (qgives_any w0 g p h a c k ia ib ic ii args Q nl q _ HH.out HA.out HC.out HG.out).mono ?_;rintro e w1 ⟨rfl,H1,F1⟩;have hb1:=H1.base;have I1:=HI.out.keep HC.out.k F1;have hw1:=lt_some I1.blk;have I2:Hid (IBox (w1.alloc (vaO (givesV h c ⟨k,ia,ib,ic,ii,args⟩))) w.heap.size k ia ib ic ii Q nl q):=⟨(Below.heap_alloc _ _ _ hw1).trans I1.blk⟩;obtain ⟨j0,j1,j2,j3,j4,j5⟩:=I2.out.cs;have U2:Hid (VaBox (w1.alloc (vaO (givesV h c ⟨k,ia,ib,ic,ii,args⟩))) w1.heap.size (givesV h c ⟨k,ia,ib,ic,ii,args⟩)):=⟨blk_new _ _ _⟩;have u0:=U2.out.c0;have u1:=U2.out.c1;have H2:=hid (H1.cf ((Cf.refl _ _ _).alloc hb1 (vaO (givesV h c ⟨k,ia,ib,ic,ii,args⟩))));have F2:=hid ((HF.out.trans F1).alloc hb1 (vaO (givesV h c ⟨k,ia,ib,ic,ii,args⟩)));have A2:=hid (CalAt.fr HA.out HC.out.k HC.out.n7 (F1.alloc hb1 (vaO (givesV h c ⟨k,ia,ib,ic,ii,args⟩))));clear H1 F1 I1)
  | (go_at_call 84;refine (qwrite_any w0 g p (givesH h c ⟨k,ia,ib,ic,ii,args⟩) a c ia (givesV h c ⟨k,ia,ib,ic,ii,args⟩) _ H2.out A2.out (HC.out.same hf) hn HW.out).mono ?_;rintro e w2 ⟨rfl,H3,A3,F3⟩;replace H3:=hid H3;replace A3:=hid A3;replace F3:=hid F3))
 go_ret
 exact ⟨rfl,H3.out,A3.out,F2.out.fq.trans F3.out⟩
theorem qdoes_op15 (w0:World) (g:Ad) (p:Nat) (h:Hp) (a:Ca) (c:Cal) (ia ib ic ii:Int) (Q:Option Addr) (nl q:Nat) (w:World) (hH:Hs w0 g w p h) (hC:CalAt w0 w a c) (C:Cq w0 g h) (hp:0≤c.pc∧c.pc≤100000) (hr:0≤ib∧ib<c.locs.length) (hra:0≤ia∧ia<c.locs.length) (hfl:0≤ic∧ic<h.file.classes.length∧0≤ii∧ii<(nth cl0 h.file.classes ic.toNat).fields.length) (h3:((c.rd ib).kind=3→(c.rd ib).n<h.objs.length)∧((c.rd ia).kind=3→(c.rd ia).n<h.objs.length)) (Hf:Hp) (hY:((h.rdH c ib 3).rdH c ia (fieldT h.file.classes ic ii).kind).over=true→Hf=((h.rdH c ib 3).rdH c ia (fieldT h.file.classes ic ii).kind)) (hN:((h.rdH c ib 3).rdH c ia (fieldT h.file.classes ic ii).kind).over=false→Hf=((h.rdH c ib 3).rdH c ia (fieldT h.file.classes ic ii).kind).put (c.rd ib) ic ii (c.rd ia)) :
  Calls Tryz.prog 85 #[.pointer (some ⟨p,0,none⟩),.pointer (some ⟨a.q,0,none⟩),.agg #[.int .i64 15,.int .i64 ia,.int .i64 ib,.int .i64 ic,.int .i64 ii,.slice Q nl q]] w fun e w'=>e=.returned (.int .i64 (c.pc+1))∧Hs w0 g w' p (Hf)∧Fr w0.heap.size g.T w w':=by
 obtain ⟨HF,HH,HA,HI,HC,d13,hb,hq,hl⟩:=dqpre 15 ia ib ic ii Q nl q hH hC C
 clear hH hC C
 obtain ⟨nc,rfl⟩:∃nc:Nat,ic=nc:=⟨ic.toNat,by omega⟩
 obtain ⟨nf,rfl⟩:∃nf:Nat,ii=nf:=⟨ii.toNat,by omega⟩
 have hft:fieldT h.file.classes (nc:Int) (nf:Int)=nth ty0 (nth cl0 h.file.classes nc).fields nf:=by unfold fieldT;rw [Int.toNat_natCast,Int.toNat_natCast]
 rw [Int.toNat_natCast] at hfl
 rw [hft] at hY hN
 have hc:nc<h.file.classes.length:=by omega
 have hf:nf<(nth cl0 h.file.classes nc).fields.length:=by omega
 obtain ⟨b,off,F,fo,uc,hgA,y0,hcm,hfm,y1,-⟩:=field_cells HC.out.cw.cls hc hf
 unfold maxLen at hcm hfm
 have hc0:(0:Int)≤(nc:Int):=by omega
 have hc1:(nc:Int)<(h.file.classes.length:Int):=by omega
 have hf0:(0:Int)≤(nf:Int):=by omega
 have hf1:(nf:Int)<((nth cl0 h.file.classes nc).fields.length:Int):=by omega
 generalize nth ty0 (nth cl0 h.file.classes nc).fields nf=t at *
 have T8:Hid (∀w' h',IBox w' w.heap.size 15 ia ib (nc:Int) (nf:Int) Q nl q→Hs w0 g w' p h'→h'.file=h.file→(fun w'=>w'.cell? ⟨w.heap.size,1,none⟩=some (.int .i64 ia)∧w'.cell? ⟨w.heap.size,3,none⟩=some (.int .i64 (nc:Int))∧w'.cell? ⟨w.heap.size,4,none⟩=some (.int .i64 (nf:Int))∧w'.cell? ⟨p,0,none⟩=some (.slice (some ⟨b,off,none⟩) h.file.classes.length g.a)∧w'.cell? ⟨b,off+nc*2+1,none⟩=some (.slice (some ⟨F,fo,none⟩) (nth cl0 h.file.classes nc).fields.length uc)∧w'.cell? ⟨F,fo+nf*2,none⟩=some (.int .i64 t.kind)) w'):=fun w' h' I H e=>⟨I.cs.2.1,I.cs.2.2.2.1,I.cs.2.2.2.2.1,by rw [H.c0 e,hgA],H.bl.cell y0,H.bl.cell y1⟩
 clear y0 y1 hft
 have HY:=hid hY
 have HNO:=hid hN
 clear hY hN
 go_enter Tryz.func85,Tryz.ntmps85
 go_wp2_with (go_at_call 82;refine (yread_any w0 g p h a c ib 3 _ HH.out HA.out HC.out hr).mono ?_;rintro e w1 ⟨rfl,H1,F1⟩;have hb1:=H1.base;have I1:=HI.out.keep HC.out.k F1;obtain ⟨i0,i1,i2,i3,i4,i5⟩:=I1.cs;have hw1:=lt_some I1.blk;have I2:Hid (IBox (w1.alloc (vaO (c.rd ib))) w.heap.size 15 ia ib (nc:Int) (nf:Int) Q nl q):=⟨(Below.heap_alloc _ _ _ hw1).trans I1.blk⟩;replace I1:=hid I1;obtain ⟨j0,j1,j2,j3,j4,j5⟩:=I2.out.cs;have U2:Hid (VaBox (w1.alloc (vaO (c.rd ib))) w1.heap.size (c.rd ib)):=⟨blk_new _ _ _⟩;have u0:=U2.out.c0;have u1:=U2.out.c1;have H2:=hid (H1.cf ((Cf.refl _ _ _).alloc hb1 (vaO (c.rd ib))));have F2:=hid ((HF.out.trans F1).alloc hb1 (vaO (c.rd ib)));have A0:Hid (CalAt w0 (w1.alloc (vaO (c.rd ib))) a c):=(CalAt.fr HA.out HC.out.k HC.out.n7 (F1.alloc hb1 (vaO (c.rd ib))));have A2:Hid (CalAt w0 (w1.alloc (vaO (c.rd ib))).drew a c):=(CalAt.fr HA.out HC.out.k HC.out.n7 ((F1.alloc hb1 (vaO (c.rd ib))).drewN 1));clear H1 F1)
 have z2:=hid (T8.out _ _ I2.out H2.out (rdH_file h c ib 3))
 refine wp_region_held_drew (S:=fun w'=>w'.cell? ⟨w.heap.size,1,none⟩=some (.int .i64 ia)∧w'.cell? ⟨w.heap.size,3,none⟩=some (.int .i64 (nc:Int))∧w'.cell? ⟨w.heap.size,4,none⟩=some (.int .i64 (nf:Int))∧w'.cell? ⟨p,0,none⟩=some (.slice (some ⟨b,off,none⟩) h.file.classes.length g.a)∧w'.cell? ⟨b,off+nc*2+1,none⟩=some (.slice (some ⟨F,fo,none⟩) (nth cl0 h.file.classes nc).fields.length uc)∧w'.cell? ⟨F,fo+nf*2,none⟩=some (.int .i64 t.kind)) (by kernel_rfl) ?_ (fun hHeld0=>?_)
 ·exact z2.out
 iterate 20 (refine tn rfl (by kernel_rfl) (fun _ _ _ h=>h) (by intro _ h;go_split_ands;go_simp<;>with_reducible rfl) hHeld0 ?_;try simp only [aS,aN,aT,a0,a1])
 refine wpAnyH_ready (rs:=[20,21]) (by kernel_rfl) (by simp) ?_
 refine AllReadyH.cons rfl (fun K hK=>?_) (AllReadyH.cons rfl (fun K hK=>?_) (AllReadyH.nil))
 ·go_simp
  go_at_call 82
  refine (yread_any w0 g p (h.rdH c ib 3) a c ia t.kind _ (H2.out.drewN 1) A2.out (HC.out.same (rdH_file h c ib 3)) hra).mono ?_
  rintro e w2 ⟨rfl,H3,F3⟩
  have I3:=hid ((IBox.mk I2.out.blk:IBox ((w1.alloc (vaO (c.rd ib))).drew) _ _ _ _ _ _ _ _ _).keep HC.out.k F3)
  have U3:=hid ((U2.out.drewN 1).keep HC.out.k F3)
  have ef:((h.rdH c ib 3).rdH c ia t.kind).file=h.file:=(rdH_file _ _ _ _).trans (rdH_file _ _ _ _)
  have d8:=hid (T8.out _ _ I3.out H3 ef)
  have hb2:=H3.base
  have k1:=lt_some I3.out.blk
  have k2:=lt_some U3.out.blk
  have H4:=hid (H3.cf ((Cf.refl _ _ _).alloc hb2 vzO))
  have F4:=hid (((F2.out.drewN 1).trans F3).alloc hb2 vzO)
  have Z4:Hid (VaBox (w2.alloc vzO) w2.heap.size va0):=VaBox.new w2 va0
  have I4:Hid (IBox (w2.alloc vzO) w.heap.size 15 ia ib (nc:Int) (nf:Int) Q nl q):=⟨(Below.heap_alloc _ _ _ k1).trans I3.out.blk⟩
  have U4:Hid (VaBox (w2.alloc vzO) w1.heap.size (c.rd ib)):=⟨(Below.heap_alloc _ _ _ k2).trans U3.out.blk⟩
  have d9:=hid (T8.out _ _ I4.out H4.out ef)
  have H5:Hid (Hs w0 g (w2.alloc (vaO (c.rd ia))) p ((h.rdH c ib 3).rdH c ia t.kind)):=H3.cf ((Cf.refl _ _ _).alloc hb2 _)
  have F5:Hid (Fr w0.heap.size g.T w (w2.alloc (vaO (c.rd ia)))):=((F2.out.drewN 1).trans F3).alloc hb2 _
  have V5:Hid (VaBox (w2.alloc (vaO (c.rd ia))) w2.heap.size (c.rd ia)):=VaBox.new w2 (c.rd ia)
  have I5:Hid (IBox (w2.alloc (vaO (c.rd ia))) w.heap.size 15 ia ib (nc:Int) (nf:Int) Q nl q):=⟨(Below.heap_alloc _ _ _ k1).trans I3.out.blk⟩
  have U5:Hid (VaBox (w2.alloc (vaO (c.rd ia))) w1.heap.size (c.rd ib)):=⟨(Below.heap_alloc _ _ _ k2).trans U3.out.blk⟩
  have d10:=hid (T8.out _ _ I5.out H5.out ef)
  have s0:=Z4.out.c0
  have s1:=Z4.out.c1
  have sz:=Z4.out.fr
  clear H3 F3
  go_wp2_with fail
  refine hK.out _ _ (d8.out) (fun hHeld1=>?_)
  try simp only [aS,aN,aT,a0,a1]
  refine rd1 (i:=21) (by kernel_rfl) rfl fun K hK=>?_
  go_wp2_with fail
  refine hK.out _ _ (d9.out) (fun hHeld2=>?_)
  try simp only [aS,aN,aT,a0,a1]
  refine rd1 (i:=22) (by kernel_rfl) rfl fun K hK=>?_
  go_simp
  refine hK.out _ _ (d10.out) (fun hHeld3=>?_)
  try simp only [aS,aN,aT,a0,a1]
  refine wpAnyH_done (by kernel_rfl) ?_ _
  cases hov:((h.rdH c ib 3).rdH c ia t.kind).over
  ·have o12:(w2.alloc (vaO (c.rd ia))).cell? ⟨p,12,none⟩=some (.bool false):=(by obtain ⟨vo,vx,hv,X⟩:=H5.out;rw [X.cells.c12,hov])
   have T9:Hid (∀w',VaBox w' w1.heap.size (c.rd ib)→IBox w' w.heap.size 15 ia ib (nc:Int) (nf:Int) Q nl q→VaBox w' w2.heap.size (c.rd ia)→(fun w'=>w'.cell? ⟨w1.heap.size,0,none⟩=some (.int .i64 (c.rd ib).kind)∧w'.cell? ⟨w1.heap.size,1,none⟩=some (.int .i64 (c.rd ib).n)∧w'.cell? ⟨w.heap.size,3,none⟩=some (.int .i64 (nc:Int))∧w'.cell? ⟨w.heap.size,4,none⟩=some (.int .i64 (nf:Int))∧w'.cell? ⟨w2.heap.size,0,none⟩=some (.int .i64 (c.rd ia).kind)∧w'.cell? ⟨w2.heap.size,1,none⟩=some (.int .i64 (c.rd ia).n)) w'):=fun w' U I V=>⟨U.c0,U.c1,I.cs.2.2.2.1,I.cs.2.2.2.2.1,V.c0,V.c1⟩
   have z5:=hid (T9.out _ U5.out I5.out V5.out)
   go_wp2
   refine wp_region_held_drew (S:=fun w'=>w'.cell? ⟨w1.heap.size,0,none⟩=some (.int .i64 (c.rd ib).kind)∧w'.cell? ⟨w1.heap.size,1,none⟩=some (.int .i64 (c.rd ib).n)∧w'.cell? ⟨w.heap.size,3,none⟩=some (.int .i64 (nc:Int))∧w'.cell? ⟨w.heap.size,4,none⟩=some (.int .i64 (nf:Int))∧w'.cell? ⟨w2.heap.size,0,none⟩=some (.int .i64 (c.rd ia).kind)∧w'.cell? ⟨w2.heap.size,1,none⟩=some (.int .i64 (c.rd ia).n)) (by kernel_rfl) ?_ (fun hHeld0=>?_)
   ·exact z5.out
   iterate 9 (refine tn rfl (by kernel_rfl) (fun _ _ _ h=>h) (by intro _ h;go_split_ands;go_simp<;>with_reducible rfl) hHeld0 ?_;try simp only [aS,aN,aT,a0,a1])
   refine rd1 (i:=9) (by kernel_rfl) rfl fun K hK=>?_
   go_simp
   go_at_call 153
   refine (put_any w0 g p ((h.rdH c ib 3).rdH c ia t.kind) (c.rd ib) nc nf (c.rd ia) _ (H5.out.drewN 1) (HC.out.same ef).cw (by rw [rdH_objs,rdH_objs];exact h3.1) (by rw [rdH_objs,rdH_objs];exact h3.2) (by rw [ef];exact hc) (by rw [ef];exact hf)).mono ?_
   rintro e w3 ⟨rfl,H6,F6⟩
   have I6:=hid ((IBox.mk I5.out.blk:IBox ((w2.alloc (vaO (c.rd ia))).drew) _ _ _ _ _ _ _ _ _).keep HC.out.k F6)
   have U6:=hid ((U5.out.drewN 1).keep HC.out.k F6)
   have V6:=hid ((V5.out.drewN 1).keep HC.out.k F6)
   have d11:=hid (T9.out _ U6.out I6.out V6.out)
   replace H6:=hid H6
   replace F6:=hid ((F5.out.drewN 1).trans F6)
   go_wp2_with fail
   refine hK.out _ _ (d11.out) (fun hHeld1=>?_)
   try simp only [aS,aN,aT,a0,a1]
   refine wpAnyH_done (by kernel_rfl) ?_ _
   go_wp2
   go_ret
   rw [HNO.out hov]
   exact ⟨rfl,H6.out,F6.out⟩
  ·have o12:(w2.alloc (vaO (c.rd ia))).cell? ⟨p,12,none⟩=some (.bool true):=(by obtain ⟨vo,vx,hv,X⟩:=H5.out;rw [X.cells.c12,hov])
   go_wp2
   go_ret
   rw [HY.out hov]
   exact ⟨rfl,H5.out,F5.out⟩
 ·have sA:(w1.alloc (vaO (c.rd ib))).heap.size=w1.heap.size+1:=World.size_alloc _ _
  have hbA:w0.heap.size≤(w1.alloc (vaO (c.rd ib))).heap.size:=by omega
  have HD:Hid (Hs w0 g (((w1.alloc (vaO (c.rd ib))).alloc vzO).drew) p (h.rdH c ib 3)):=(H2.out.cf ((Cf.refl _ _ _).alloc hbA vzO)).drewN 1
  have FD:Hid (Fr w0.heap.size g.T w (((w1.alloc (vaO (c.rd ib))).alloc vzO).drew)):=(F2.out.alloc hbA vzO).drewN 1
  have AD:Hid (CalAt w0 (((w1.alloc (vaO (c.rd ib))).alloc vzO).drew) a c):=CalAt.fr A0.out HC.out.k HC.out.n7 (((Fr.refl w0.heap.size g.T _).alloc hbA vzO).drewN 1)
  have ID:Hid (IBox (((w1.alloc (vaO (c.rd ib))).alloc vzO).drew) w.heap.size 15 ia ib (nc:Int) (nf:Int) Q nl q):=⟨(Below.heap_alloc _ _ _ (by omega)).trans I2.out.blk⟩
  have UD:Hid (VaBox (((w1.alloc (vaO (c.rd ib))).alloc vzO).drew) w1.heap.size (c.rd ib)):=⟨(Below.heap_alloc _ _ _ (by omega)).trans U2.out.blk⟩
  have ZD:Hid (VaBox (((w1.alloc (vaO (c.rd ib))).alloc vzO).drew) (w1.heap.size+1) va0):=by have:=(VaBox.new (w1.alloc (vaO (c.rd ib))) va0).drewN 1;rw [sA] at this;exact this
  have d9:=hid (T8.out _ _ ID.out HD.out (rdH_file h c ib 3))
  go_wp2_with fail
  refine hK.out _ _ (d9.out) (fun hHeld4=>?_)
  try simp only [aS,aN,aT,a0,a1]
  refine rd1 (i:=20) (by kernel_rfl) rfl fun K hK=>?_
  go_simp
  go_at_call 82
  refine (yread_any w0 g p (h.rdH c ib 3) a c ia t.kind _ HD.out AD.out (HC.out.same (rdH_file h c ib 3)) hra).mono ?_
  rintro e w2 ⟨rfl,H3,F3⟩
  have I3:=hid (ID.out.keep HC.out.k F3)
  have U3:=hid (UD.out.keep HC.out.k F3)
  have Z3:=hid (ZD.out.keep HC.out.k F3)
  have ef:((h.rdH c ib 3).rdH c ia t.kind).file=h.file:=(rdH_file _ _ _ _).trans (rdH_file _ _ _ _)
  have d8:=hid (T8.out _ _ I3.out H3 ef)
  have hb2:=H3.base
  have H5:Hid (Hs w0 g ((w2.setCell ⟨w1.heap.size+1,0,none⟩ (.int .i64 (c.rd ia).kind)).setCell ⟨w1.heap.size+1,1,none⟩ (.int .i64 (c.rd ia).n)) p ((h.rdH c ib 3).rdH c ia t.kind)):=H3.cf (Z3.out.cf HC.out.k (by omega) _ _)
  have F5:Hid (Fr w0.heap.size g.T w ((w2.setCell ⟨w1.heap.size+1,0,none⟩ (.int .i64 (c.rd ia).kind)).setCell ⟨w1.heap.size+1,1,none⟩ (.int .i64 (c.rd ia).n))):=((FD.out.trans F3).new (by omega) (by omega) _).new (by omega) (by omega) _
  have V5:Hid (VaBox ((w2.setCell ⟨w1.heap.size+1,0,none⟩ (.int .i64 (c.rd ia).kind)).setCell ⟨w1.heap.size+1,1,none⟩ (.int .i64 (c.rd ia).n)) (w1.heap.size+1) (c.rd ia)):=Z3.out.set (c.rd ia)
  have I5:Hid (IBox ((w2.setCell ⟨w1.heap.size+1,0,none⟩ (.int .i64 (c.rd ia).kind)).setCell ⟨w1.heap.size+1,1,none⟩ (.int .i64 (c.rd ia).n)) w.heap.size 15 ia ib (nc:Int) (nf:Int) Q nl q):=⟨by rw [block_far (by omega),block_far (by omega)];exact I3.out.blk⟩
  have U5:Hid (VaBox ((w2.setCell ⟨w1.heap.size+1,0,none⟩ (.int .i64 (c.rd ia).kind)).setCell ⟨w1.heap.size+1,1,none⟩ (.int .i64 (c.rd ia).n)) w1.heap.size (c.rd ib)):=⟨by rw [block_far (by omega),block_far (by omega)];exact U3.out.blk⟩
  have d10:=hid (T8.out _ _ I5.out H5.out ef)
  have s0:=Z3.out.c0
  have s1:=Z3.out.c1
  have sz:=Z3.out.fr
  clear H3 F3
  go_wp2_with fail
  refine hK.out _ _ (d8.out) (fun hHeld5=>?_)
  try simp only [aS,aN,aT,a0,a1]
  refine rd1 (i:=22) (by kernel_rfl) rfl fun K hK=>?_
  go_simp
  refine hK.out _ _ (d10.out) (fun hHeld6=>?_)
  try simp only [aS,aN,aT,a0,a1]
  refine wpAnyH_done (by kernel_rfl) ?_ _
  cases hov:((h.rdH c ib 3).rdH c ia t.kind).over
  ·have o12:((w2.setCell ⟨w1.heap.size+1,0,none⟩ (.int .i64 (c.rd ia).kind)).setCell ⟨w1.heap.size+1,1,none⟩ (.int .i64 (c.rd ia).n)).cell? ⟨p,12,none⟩=some (.bool false):=(by obtain ⟨vo,vx,hv,X⟩:=H5.out;rw [X.cells.c12,hov])
   have T9:Hid (∀w',VaBox w' w1.heap.size (c.rd ib)→IBox w' w.heap.size 15 ia ib (nc:Int) (nf:Int) Q nl q→VaBox w' (w1.heap.size+1) (c.rd ia)→(fun w'=>w'.cell? ⟨w1.heap.size,0,none⟩=some (.int .i64 (c.rd ib).kind)∧w'.cell? ⟨w1.heap.size,1,none⟩=some (.int .i64 (c.rd ib).n)∧w'.cell? ⟨w.heap.size,3,none⟩=some (.int .i64 (nc:Int))∧w'.cell? ⟨w.heap.size,4,none⟩=some (.int .i64 (nf:Int))∧w'.cell? ⟨(w1.heap.size+1),0,none⟩=some (.int .i64 (c.rd ia).kind)∧w'.cell? ⟨(w1.heap.size+1),1,none⟩=some (.int .i64 (c.rd ia).n)) w'):=fun w' U I V=>⟨U.c0,U.c1,I.cs.2.2.2.1,I.cs.2.2.2.2.1,V.c0,V.c1⟩
   have z5:=hid (T9.out _ U5.out I5.out V5.out)
   go_wp2
   refine wp_region_held_drew (S:=fun w'=>w'.cell? ⟨w1.heap.size,0,none⟩=some (.int .i64 (c.rd ib).kind)∧w'.cell? ⟨w1.heap.size,1,none⟩=some (.int .i64 (c.rd ib).n)∧w'.cell? ⟨w.heap.size,3,none⟩=some (.int .i64 (nc:Int))∧w'.cell? ⟨w.heap.size,4,none⟩=some (.int .i64 (nf:Int))∧w'.cell? ⟨(w1.heap.size+1),0,none⟩=some (.int .i64 (c.rd ia).kind)∧w'.cell? ⟨(w1.heap.size+1),1,none⟩=some (.int .i64 (c.rd ia).n)) (by kernel_rfl) ?_ (fun hHeld0=>?_)
   ·exact z5.out
   iterate 9 (refine tn rfl (by kernel_rfl) (fun _ _ _ h=>h) (by intro _ h;go_split_ands;go_simp<;>with_reducible rfl) hHeld0 ?_;try simp only [aS,aN,aT,a0,a1])
   refine rd1 (i:=9) (by kernel_rfl) rfl fun K hK=>?_
   go_simp
   go_at_call 153
   refine (put_any w0 g p ((h.rdH c ib 3).rdH c ia t.kind) (c.rd ib) nc nf (c.rd ia) _ (H5.out.drewN 1) (HC.out.same ef).cw (by rw [rdH_objs,rdH_objs];exact h3.1) (by rw [rdH_objs,rdH_objs];exact h3.2) (by rw [ef];exact hc) (by rw [ef];exact hf)).mono ?_
   rintro e w3 ⟨rfl,H6,F6⟩
   have I6:=hid ((IBox.mk I5.out.blk:IBox (((w2.setCell ⟨w1.heap.size+1,0,none⟩ (.int .i64 (c.rd ia).kind)).setCell ⟨w1.heap.size+1,1,none⟩ (.int .i64 (c.rd ia).n)).drew) _ _ _ _ _ _ _ _ _).keep HC.out.k F6)
   have U6:=hid ((U5.out.drewN 1).keep HC.out.k F6)
   have V6:=hid ((V5.out.drewN 1).keep HC.out.k F6)
   have d11:=hid (T9.out _ U6.out I6.out V6.out)
   replace H6:=hid H6
   replace F6:=hid ((F5.out.drewN 1).trans F6)
   go_wp2_with fail
   refine hK.out _ _ (d11.out) (fun hHeld1=>?_)
   try simp only [aS,aN,aT,a0,a1]
   refine wpAnyH_done (by kernel_rfl) ?_ _
   go_wp2
   go_ret
   rw [HNO.out hov]
   exact ⟨rfl,H6.out,F6.out⟩
  ·have o12:((w2.setCell ⟨w1.heap.size+1,0,none⟩ (.int .i64 (c.rd ia).kind)).setCell ⟨w1.heap.size+1,1,none⟩ (.int .i64 (c.rd ia).n)).cell? ⟨p,12,none⟩=some (.bool true):=(by obtain ⟨vo,vx,hv,X⟩:=H5.out;rw [X.cells.c12,hov])
   go_wp2
   go_ret
   rw [HY.out hov]
   exact ⟨rfl,H5.out,F5.out⟩
end Go.Proofs.YtfncnhlihmnkiabGreat
