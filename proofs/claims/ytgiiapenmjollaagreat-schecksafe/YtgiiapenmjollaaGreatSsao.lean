import Derived.Test.YtgiiapenmjollaaGreatSsam
namespace Go.Proofs.YtgiiapenmjollaaGreat
set_option linter.all false
set_option maxHeartbeats 40000000
set_option maxRecDepth 100000
open Go.RowKit
theorem gives_no6 (w0:World) (g:Ad) (p:Nat) (h:Hp) (a:Ca) (c:Cal) (ia ib ic ii:Int) (Q:Option Addr) (nl q:Nat) (w:World) (hH:Hs w0 g w p h) (hC:Cs w0 w a c) (C:Cw w0 g h) (ho:h.over=false) (hs:c.stk.length≤1000) (hl:c.stk.length<2) :
  Calls Tryz.prog 116 #[.pointer (some ⟨p,0,none⟩),.pointer (some ⟨a.q,0,none⟩),.agg (inC 6 ia ib ic ii Q nl q)] w fun e w'=>e=.returned (vaV va0)∧Hs w0 g w' p (h.fin 6)∧Cs w0 w' a c∧Fq w0.heap.size g.T a w w':=by
 have hbs:=hH.base
 obtain ⟨A,cap,HE,hq0,hl0,HF,HH,HC,HI,HR,HW,hbs1,hle1,n1,n2,n3,n4⟩:=gpre 6 ia ib ic ii Q nl q hH hC C
 have hov:=ho
 clear hH hC C ho
 have HFO:Hid ((h.fin 6).over=true):=by simp [Hp.fin,hov,Hid]
 go_enter Tryz.func116,Tryz.ntmps116
 go_wp2_with ((go_at_call 56;refine (take_no w0 g HW.out.k p h a c 2 _ A cap HH.out HC.out hov hl (by omega)).mono ?_;intro e w1 hT;obtain ⟨A1,cap1,cap2,rfl,st1,j0,j1,j2,j4,HI1,H1,o12,C1,f1,sb1⟩:=tkF hT HI HW n1 n2 HFO.out;obtain ⟨r0,r1,r2,r3,HR1⟩:=rbF HR HW f1 n3 n4;clear hT))
 (try simp only [Exit.inBlock,Exit.then])
 refine bodyPost_ret (results_cell_row rfl _ _ (w.heap.size+1) _ _ _ _ rfl (HR1.out.set va0).blk Tryz.underlying62 rfl info_va) rfl ?_
 exact ⟨rfl,H1.out.cf (HR1.out.cf HW.out.k hbs1 _ _),⟨A,cap2,C1.out.box2 (HE.out.le (Nat.le_refl _)) hle1 n3 n4 _ _⟩,((HF.out.fq.trans f1)).box2 hle1 hbs1 _ _⟩
theorem gives_no7 (w0:World) (g:Ad) (p:Nat) (h:Hp) (a:Ca) (c:Cal) (ia ib ic ii:Int) (Q:Option Addr) (nl q:Nat) (w:World) (hH:Hs w0 g w p h) (hC:Cs w0 w a c) (C:Cw w0 g h) (ho:h.over=false) (hs:c.stk.length≤1000) (hl:c.stk.length<2) :
  Calls Tryz.prog 116 #[.pointer (some ⟨p,0,none⟩),.pointer (some ⟨a.q,0,none⟩),.agg (inC 7 ia ib ic ii Q nl q)] w fun e w'=>e=.returned (vaV va0)∧Hs w0 g w' p (h.fin 6)∧Cs w0 w' a c∧Fq w0.heap.size g.T a w w':=by
 have hbs:=hH.base
 obtain ⟨A,cap,HE,hq0,hl0,HF,HH,HC,HI,HR,HW,hbs1,hle1,n1,n2,n3,n4⟩:=gpre 7 ia ib ic ii Q nl q hH hC C
 have hov:=ho
 clear hH hC C ho
 have HFO:Hid ((h.fin 6).over=true):=by simp [Hp.fin,hov,Hid]
 go_enter Tryz.func116,Tryz.ntmps116
 go_wp2_with ((go_at_call 56;refine (take_no w0 g HW.out.k p h a c 2 _ A cap HH.out HC.out hov hl (by omega)).mono ?_;intro e w1 hT;obtain ⟨A1,cap1,cap2,rfl,st1,j0,j1,j2,j4,HI1,H1,o12,C1,f1,sb1⟩:=tkF hT HI HW n1 n2 HFO.out;obtain ⟨r0,r1,r2,r3,HR1⟩:=rbF HR HW f1 n3 n4;clear hT))
 (try simp only [Exit.inBlock,Exit.then])
 refine bodyPost_ret (results_cell_row rfl _ _ (w.heap.size+1) _ _ _ _ rfl (HR1.out.set va0).blk Tryz.underlying62 rfl info_va) rfl ?_
 exact ⟨rfl,H1.out.cf (HR1.out.cf HW.out.k hbs1 _ _),⟨A,cap2,C1.out.box2 (HE.out.le (Nat.le_refl _)) hle1 n3 n4 _ _⟩,((HF.out.fq.trans f1)).box2 hle1 hbs1 _ _⟩
theorem gives_no10 (w0:World) (g:Ad) (p:Nat) (h:Hp) (a:Ca) (c:Cal) (ia ib ic ii:Int) (Q:Option Addr) (nl q:Nat) (w:World) (hH:Hs w0 g w p h) (hC:Cs w0 w a c) (C:Cw w0 g h) (ho:h.over=false) (hs:c.stk.length≤1000) (hl:c.stk.length<2) :
  Calls Tryz.prog 116 #[.pointer (some ⟨p,0,none⟩),.pointer (some ⟨a.q,0,none⟩),.agg (inC 10 ia ib ic ii Q nl q)] w fun e w'=>e=.returned (vaV va0)∧Hs w0 g w' p (h.fin 6)∧Cs w0 w' a c∧Fq w0.heap.size g.T a w w':=by
 have hbs:=hH.base
 obtain ⟨A,cap,HE,hq0,hl0,HF,HH,HC,HI,HR,HW,hbs1,hle1,n1,n2,n3,n4⟩:=gpre 10 ia ib ic ii Q nl q hH hC C
 have hov:=ho
 clear hH hC C ho
 have HFO:Hid ((h.fin 6).over=true):=by simp [Hp.fin,hov,Hid]
 go_enter Tryz.func116,Tryz.ntmps116
 go_wp2_with ((go_at_call 56;refine (take_no w0 g HW.out.k p h a c 2 _ A cap HH.out HC.out hov hl (by omega)).mono ?_;intro e w1 hT;obtain ⟨A1,cap1,cap2,rfl,st1,j0,j1,j2,j4,HI1,H1,o12,C1,f1,sb1⟩:=tkF hT HI HW n1 n2 HFO.out;obtain ⟨r0,r1,r2,r3,HR1⟩:=rbF HR HW f1 n3 n4;clear hT))
 (try simp only [Exit.inBlock,Exit.then])
 refine bodyPost_ret (results_cell_row rfl _ _ (w.heap.size+1) _ _ _ _ rfl (HR1.out.set va0).blk Tryz.underlying62 rfl info_va) rfl ?_
 exact ⟨rfl,H1.out.cf (HR1.out.cf HW.out.k hbs1 _ _),⟨A,cap2,C1.out.box2 (HE.out.le (Nat.le_refl _)) hle1 n3 n4 _ _⟩,((HF.out.fq.trans f1)).box2 hle1 hbs1 _ _⟩
theorem gives_no8 (w0:World) (g:Ad) (p:Nat) (h:Hp) (a:Ca) (c:Cal) (ia ib ic ii:Int) (Q:Option Addr) (nl q:Nat) (w:World) (hH:Hs w0 g w p h) (hC:Cs w0 w a c) (C:Cw w0 g h) (ho:h.over=false) (hs:c.stk.length≤1000) (hl:c.stk.length<1) :
  Calls Tryz.prog 116 #[.pointer (some ⟨p,0,none⟩),.pointer (some ⟨a.q,0,none⟩),.agg (inC 8 ia ib ic ii Q nl q)] w fun e w'=>e=.returned (vaV va0)∧Hs w0 g w' p (h.fin 6)∧Cs w0 w' a c∧Fq w0.heap.size g.T a w w':=by
 have hbs:=hH.base
 obtain ⟨A,cap,HE,hq0,hl0,HF,HH,HC,HI,HR,HW,hbs1,hle1,n1,n2,n3,n4⟩:=gpre 8 ia ib ic ii Q nl q hH hC C
 have hov:=ho
 clear hH hC C ho
 have HFO:Hid ((h.fin 6).over=true):=by simp [Hp.fin,hov,Hid]
 go_enter Tryz.func116,Tryz.ntmps116
 go_wp2_with ((go_at_call 56;refine (take_no w0 g HW.out.k p h a c 1 _ A cap HH.out HC.out hov hl (by omega)).mono ?_;intro e w1 hT;obtain ⟨A1,cap1,cap2,rfl,st1,j0,j1,j2,j4,HI1,H1,o12,C1,f1,sb1⟩:=tkF hT HI HW n1 n2 HFO.out;obtain ⟨r0,r1,r2,r3,HR1⟩:=rbF HR HW f1 n3 n4;clear hT))
 (try simp only [Exit.inBlock,Exit.then])
 refine bodyPost_ret (results_cell_row rfl _ _ (w.heap.size+1) _ _ _ _ rfl (HR1.out.set va0).blk Tryz.underlying62 rfl info_va) rfl ?_
 exact ⟨rfl,H1.out.cf (HR1.out.cf HW.out.k hbs1 _ _),⟨A,cap2,C1.out.box2 (HE.out.le (Nat.le_refl _)) hle1 n3 n4 _ _⟩,((HF.out.fq.trans f1)).box2 hle1 hbs1 _ _⟩
theorem gives_no9 (w0:World) (g:Ad) (p:Nat) (h:Hp) (a:Ca) (c:Cal) (ia ib ic ii:Int) (Q:Option Addr) (nl q:Nat) (w:World) (hH:Hs w0 g w p h) (hC:Cs w0 w a c) (C:Cw w0 g h) (ho:h.over=false) (hs:c.stk.length≤1000) (hl:c.stk.length<1) :
  Calls Tryz.prog 116 #[.pointer (some ⟨p,0,none⟩),.pointer (some ⟨a.q,0,none⟩),.agg (inC 9 ia ib ic ii Q nl q)] w fun e w'=>e=.returned (vaV va0)∧Hs w0 g w' p (h.fin 6)∧Cs w0 w' a c∧Fq w0.heap.size g.T a w w':=by
 have hbs:=hH.base
 obtain ⟨A,cap,HE,hq0,hl0,HF,HH,HC,HI,HR,HW,hbs1,hle1,n1,n2,n3,n4⟩:=gpre 9 ia ib ic ii Q nl q hH hC C
 have hov:=ho
 clear hH hC C ho
 have HFO:Hid ((h.fin 6).over=true):=by simp [Hp.fin,hov,Hid]
 go_enter Tryz.func116,Tryz.ntmps116
 go_wp2_with ((go_at_call 56;refine (take_no w0 g HW.out.k p h a c 1 _ A cap HH.out HC.out hov hl (by omega)).mono ?_;intro e w1 hT;obtain ⟨A1,cap1,cap2,rfl,st1,j0,j1,j2,j4,HI1,H1,o12,C1,f1,sb1⟩:=tkF hT HI HW n1 n2 HFO.out;obtain ⟨r0,r1,r2,r3,HR1⟩:=rbF HR HW f1 n3 n4;clear hT))
 (try simp only [Exit.inBlock,Exit.then])
 refine bodyPost_ret (results_cell_row rfl _ _ (w.heap.size+1) _ _ _ _ rfl (HR1.out.set va0).blk Tryz.underlying62 rfl info_va) rfl ?_
 exact ⟨rfl,H1.out.cf (HR1.out.cf HW.out.k hbs1 _ _),⟨A,cap2,C1.out.box2 (HE.out.le (Nat.le_refl _)) hle1 n3 n4 _ _⟩,((HF.out.fq.trans f1)).box2 hle1 hbs1 _ _⟩
theorem gives_no15 (w0:World) (g:Ad) (p:Nat) (h:Hp) (a:Ca) (c:Cal) (ia ib ic ii:Int) (Q:Option Addr) (nl q:Nat) (w:World) (hH:Hs w0 g w p h) (hC:Cs w0 w a c) (C:Cw w0 g h) (ho:h.over=false) (hs:c.stk.length≤1000) (hl:c.stk.length<1) :
  Calls Tryz.prog 116 #[.pointer (some ⟨p,0,none⟩),.pointer (some ⟨a.q,0,none⟩),.agg (inC 15 ia ib ic ii Q nl q)] w fun e w'=>e=.returned (vaV va0)∧Hs w0 g w' p (h.fin 6)∧Cs w0 w' a c∧Fq w0.heap.size g.T a w w':=by
 have hbs:=hH.base
 obtain ⟨A,cap,HE,hq0,hl0,HF,HH,HC,HI,HR,HW,hbs1,hle1,n1,n2,n3,n4⟩:=gpre 15 ia ib ic ii Q nl q hH hC C
 have hov:=ho
 clear hH hC C ho
 have HFO:Hid ((h.fin 6).over=true):=by simp [Hp.fin,hov,Hid]
 go_enter Tryz.func116,Tryz.ntmps116
 go_wp2_with ((go_at_call 56;refine (take_no w0 g HW.out.k p h a c 1 _ A cap HH.out HC.out hov hl (by omega)).mono ?_;intro e w1 hT;obtain ⟨A1,cap1,cap2,rfl,st1,j0,j1,j2,j4,HI1,H1,o12,C1,f1,sb1⟩:=tkF hT HI HW n1 n2 HFO.out;obtain ⟨r0,r1,r2,r3,HR1⟩:=rbF HR HW f1 n3 n4;clear hT))
 (try simp only [Exit.inBlock,Exit.then])
 refine bodyPost_ret (results_cell_row rfl _ _ (w.heap.size+1) _ _ _ _ rfl (HR1.out.set va0).blk Tryz.underlying62 rfl info_va) rfl ?_
 exact ⟨rfl,H1.out.cf (HR1.out.cf HW.out.k hbs1 _ _),⟨A,cap2,C1.out.box2 (HE.out.le (Nat.le_refl _)) hle1 n3 n4 _ _⟩,((HF.out.fq.trans f1)).box2 hle1 hbs1 _ _⟩
theorem gives_no17 (w0:World) (g:Ad) (p:Nat) (h:Hp) (a:Ca) (c:Cal) (ia ib ic ii:Int) (Q:Option Addr) (nl q:Nat) (w:World) (hH:Hs w0 g w p h) (hC:Cs w0 w a c) (C:Cw w0 g h) (ho:h.over=false) (hs:c.stk.length≤1000) (hl:c.stk.length<1) :
  Calls Tryz.prog 116 #[.pointer (some ⟨p,0,none⟩),.pointer (some ⟨a.q,0,none⟩),.agg (inC 17 ia ib ic ii Q nl q)] w fun e w'=>e=.returned (vaV va0)∧Hs w0 g w' p (h.fin 6)∧Cs w0 w' a c∧Fq w0.heap.size g.T a w w':=by
 have hbs:=hH.base
 obtain ⟨A,cap,HE,hq0,hl0,HF,HH,HC,HI,HR,HW,hbs1,hle1,n1,n2,n3,n4⟩:=gpre 17 ia ib ic ii Q nl q hH hC C
 have hov:=ho
 clear hH hC C ho
 have HFO:Hid ((h.fin 6).over=true):=by simp [Hp.fin,hov,Hid]
 go_enter Tryz.func116,Tryz.ntmps116
 go_wp2_with ((go_at_call 56;refine (take_no w0 g HW.out.k p h a c 1 _ A cap HH.out HC.out hov hl (by omega)).mono ?_;intro e w1 hT;obtain ⟨A1,cap1,cap2,rfl,st1,j0,j1,j2,j4,HI1,H1,o12,C1,f1,sb1⟩:=tkF hT HI HW n1 n2 HFO.out;obtain ⟨r0,r1,r2,r3,HR1⟩:=rbF HR HW f1 n3 n4;clear hT))
 (try simp only [Exit.inBlock,Exit.then])
 refine bodyPost_ret (results_cell_row rfl _ _ (w.heap.size+1) _ _ _ _ rfl (HR1.out.set va0).blk Tryz.underlying62 rfl info_va) rfl ?_
 exact ⟨rfl,H1.out.cf (HR1.out.cf HW.out.k hbs1 _ _),⟨A,cap2,C1.out.box2 (HE.out.le (Nat.le_refl _)) hle1 n3 n4 _ _⟩,((HF.out.fq.trans f1)).box2 hle1 hbs1 _ _⟩
theorem gives_no18 (w0:World) (g:Ad) (p:Nat) (h:Hp) (a:Ca) (c:Cal) (ia ib ic ii:Int) (Q:Option Addr) (nl q:Nat) (w:World) (hH:Hs w0 g w p h) (hC:Cs w0 w a c) (C:Cw w0 g h) (ho:h.over=false) (hs:c.stk.length≤1000) (hl:c.stk.length<1) :
  Calls Tryz.prog 116 #[.pointer (some ⟨p,0,none⟩),.pointer (some ⟨a.q,0,none⟩),.agg (inC 18 ia ib ic ii Q nl q)] w fun e w'=>e=.returned (vaV va0)∧Hs w0 g w' p (h.fin 6)∧Cs w0 w' a c∧Fq w0.heap.size g.T a w w':=by
 have hbs:=hH.base
 obtain ⟨A,cap,HE,hq0,hl0,HF,HH,HC,HI,HR,HW,hbs1,hle1,n1,n2,n3,n4⟩:=gpre 18 ia ib ic ii Q nl q hH hC C
 have hov:=ho
 clear hH hC C ho
 have HFO:Hid ((h.fin 6).over=true):=by simp [Hp.fin,hov,Hid]
 go_enter Tryz.func116,Tryz.ntmps116
 go_wp2_with ((go_at_call 56;refine (take_no w0 g HW.out.k p h a c 1 _ A cap HH.out HC.out hov hl (by omega)).mono ?_;intro e w1 hT;obtain ⟨A1,cap1,cap2,rfl,st1,j0,j1,j2,j4,HI1,H1,o12,C1,f1,sb1⟩:=tkF hT HI HW n1 n2 HFO.out;obtain ⟨r0,r1,r2,r3,HR1⟩:=rbF HR HW f1 n3 n4;clear hT))
 (try simp only [Exit.inBlock,Exit.then])
 refine bodyPost_ret (results_cell_row rfl _ _ (w.heap.size+1) _ _ _ _ rfl (HR1.out.set va0).blk Tryz.underlying62 rfl info_va) rfl ?_
 exact ⟨rfl,H1.out.cf (HR1.out.cf HW.out.k hbs1 _ _),⟨A,cap2,C1.out.box2 (HE.out.le (Nat.le_refl _)) hle1 n3 n4 _ _⟩,((HF.out.fq.trans f1)).box2 hle1 hbs1 _ _⟩
theorem gives_1 (w0:World) (g:Ad) (p:Nat) (h:Hp) (a:Ca) (c:Cal) (ia ib ic ii:Int) (Q:Option Addr) (nl q:Nat) (w:World) (hH:Hs w0 g w p h) (hC:Cs w0 w a c) (C:Cw w0 g h) (ho:h.over=false) (hs:c.stk.length≤1000) :
  Calls Tryz.prog 116 #[.pointer (some ⟨p,0,none⟩),.pointer (some ⟨a.q,0,none⟩),.agg (inC 1 ia ib ic ii Q nl q)] w fun e w'=>e=.returned (vaV ⟨1,ii⟩)∧Hs w0 g w' p h∧Cs w0 w' a (c.cut 0)∧Fq w0.heap.size g.T a w w':=by
 have hbs:=hH.base
 obtain ⟨A,cap,HE,hq0,hl0,HF,HH,HC,HI,HR,HW,hbs1,hle1,n1,n2,n3,n4⟩:=gpre 1 ia ib ic ii Q nl q hH hC C
 have hov:=ho
 clear hH hC C ho
 have hl:0≤c.stk.length:=Nat.zero_le _
 go_enter Tryz.func116,Tryz.ntmps116
 go_wp2_with ((go_at_call 56;refine (take_yes w0 g HW.out.k p h a c 0 _ A cap HH.out HC.out hov hl hs).mono ?_;intro e w1 hT;obtain ⟨A1,cap1,cap2,rfl,st1,j0,j1,j2,j4,HI1,H1,o12,C1,f1,sb1⟩:=tkF hT HI HW n1 n2 hov;obtain ⟨r0,r1,r2,r3,HR1⟩:=rbF HR HW f1 n3 n4;clear hT))
 (try simp only [Exit.inBlock,Exit.then])
 refine bodyPost_ret (results_cell_row rfl _ _ (w.heap.size+1) _ _ _ _ rfl (HR1.out.set ⟨1,ii⟩).blk Tryz.underlying62 rfl info_va) rfl ?_
 exact ⟨rfl,H1.out.cf (HR1.out.cf HW.out.k hbs1 _ _),⟨A,cap2,C1.out.box2 (HE.out.le (cut_le _ _)) hle1 n3 n4 _ _⟩,((HF.out.fq.trans f1)).box2 hle1 hbs1 _ _⟩
theorem gives_2 (w0:World) (g:Ad) (p:Nat) (h:Hp) (a:Ca) (c:Cal) (ia ib ic ii:Int) (Q:Option Addr) (nl q:Nat) (w:World) (hH:Hs w0 g w p h) (hC:Cs w0 w a c) (C:Cw w0 g h) (ho:h.over=false) (hs:c.stk.length≤1000) :
  Calls Tryz.prog 116 #[.pointer (some ⟨p,0,none⟩),.pointer (some ⟨a.q,0,none⟩),.agg (inC 2 ia ib ic ii Q nl q)] w fun e w'=>e=.returned (vaV ⟨2,ii⟩)∧Hs w0 g w' p h∧Cs w0 w' a (c.cut 0)∧Fq w0.heap.size g.T a w w':=by
 have hbs:=hH.base
 obtain ⟨A,cap,HE,hq0,hl0,HF,HH,HC,HI,HR,HW,hbs1,hle1,n1,n2,n3,n4⟩:=gpre 2 ia ib ic ii Q nl q hH hC C
 have hov:=ho
 clear hH hC C ho
 have hl:0≤c.stk.length:=Nat.zero_le _
 go_enter Tryz.func116,Tryz.ntmps116
 go_wp2_with ((go_at_call 56;refine (take_yes w0 g HW.out.k p h a c 0 _ A cap HH.out HC.out hov hl hs).mono ?_;intro e w1 hT;obtain ⟨A1,cap1,cap2,rfl,st1,j0,j1,j2,j4,HI1,H1,o12,C1,f1,sb1⟩:=tkF hT HI HW n1 n2 hov;obtain ⟨r0,r1,r2,r3,HR1⟩:=rbF HR HW f1 n3 n4;clear hT))
 (try simp only [Exit.inBlock,Exit.then])
 refine bodyPost_ret (results_cell_row rfl _ _ (w.heap.size+1) _ _ _ _ rfl (HR1.out.set ⟨2,ii⟩).blk Tryz.underlying62 rfl info_va) rfl ?_
 exact ⟨rfl,H1.out.cf (HR1.out.cf HW.out.k hbs1 _ _),⟨A,cap2,C1.out.box2 (HE.out.le (cut_le _ _)) hle1 n3 n4 _ _⟩,((HF.out.fq.trans f1)).box2 hle1 hbs1 _ _⟩
theorem gives_3 (w0:World) (g:Ad) (p:Nat) (h:Hp) (a:Ca) (c:Cal) (ia ib ic ii:Int) (Q:Option Addr) (nl q:Nat) (w:World) (hH:Hs w0 g w p h) (hC:Cs w0 w a c) (C:Cw w0 g h) (ho:h.over=false) (hs:c.stk.length≤1000) :
  Calls Tryz.prog 116 #[.pointer (some ⟨p,0,none⟩),.pointer (some ⟨a.q,0,none⟩),.agg (inC 3 ia ib ic ii Q nl q)] w fun e w'=>e=.returned (vaV ⟨3,-1⟩)∧Hs w0 g w' p h∧Cs w0 w' a (c.cut 0)∧Fq w0.heap.size g.T a w w':=by
 have hbs:=hH.base
 obtain ⟨A,cap,HE,hq0,hl0,HF,HH,HC,HI,HR,HW,hbs1,hle1,n1,n2,n3,n4⟩:=gpre 3 ia ib ic ii Q nl q hH hC C
 have hov:=ho
 clear hH hC C ho
 have hl:0≤c.stk.length:=Nat.zero_le _
 go_enter Tryz.func116,Tryz.ntmps116
 go_wp2_with ((go_at_call 56;refine (take_yes w0 g HW.out.k p h a c 0 _ A cap HH.out HC.out hov hl hs).mono ?_;intro e w1 hT;obtain ⟨A1,cap1,cap2,rfl,st1,j0,j1,j2,j4,HI1,H1,o12,C1,f1,sb1⟩:=tkF hT HI HW n1 n2 hov;obtain ⟨r0,r1,r2,r3,HR1⟩:=rbF HR HW f1 n3 n4;clear hT))
 (try simp only [Exit.inBlock,Exit.then])
 refine bodyPost_ret (results_cell_row rfl _ _ (w.heap.size+1) _ _ _ _ rfl (HR1.out.set ⟨3,-1⟩).blk Tryz.underlying62 rfl info_va) rfl ?_
 exact ⟨rfl,H1.out.cf (HR1.out.cf HW.out.k hbs1 _ _),⟨A,cap2,C1.out.box2 (HE.out.le (cut_le _ _)) hle1 n3 n4 _ _⟩,((HF.out.fq.trans f1)).box2 hle1 hbs1 _ _⟩
theorem gives_6 (w0:World) (g:Ad) (p:Nat) (h:Hp) (a:Ca) (c:Cal) (ia ib ic ii:Int) (Q:Option Addr) (nl q:Nat) (w:World) (hH:Hs w0 g w p h) (hC:Cs w0 w a c) (C:Cw w0 g h) (ho:h.over=false) (hs:c.stk.length≤1000) (hl:2≤c.stk.length) (hx:I64 (nth va0 (c.top 2) 0).n) (hy:I64 (nth va0 (c.top 2) 1).n) :
  Calls Tryz.prog 116 #[.pointer (some ⟨p,0,none⟩),.pointer (some ⟨a.q,0,none⟩),.agg (inC 6 ia ib ic ii Q nl q)] w fun e w'=>e=.returned (vaV (h.reckV (nth va0 (c.top 2) 0) (nth va0 (c.top 2) 1) 1 ia))∧Hs w0 g w' p (h.reckH (nth va0 (c.top 2) 0) (nth va0 (c.top 2) 1) 1 ia)∧Cs w0 w' a (c.cut 2)∧Fq w0.heap.size g.T a w w':=by
 have hbs:=hH.base
 obtain ⟨A,cap,HE,hq0,hl0,HF,HH,HC,HI,HR,HW,hbs1,hle1,n1,n2,n3,n4⟩:=gpre 6 ia ib ic ii Q nl q hH hC C
 have hov:=ho
 clear hH hC C ho
 have HX:Hid (I64 (nth va0 (c.top 2) 0).n):=hx
 have HY:Hid (I64 (nth va0 (c.top 2) 1).n):=hy
 clear hx hy
 obtain ⟨V,hV⟩:∃V,h.reckV (nth va0 (c.top 2) 0) (nth va0 (c.top 2) 1) 1 ia=V:=⟨_,rfl⟩
 rw [hV]
 go_enter Tryz.func116,Tryz.ntmps116
 go_wp2_with ((go_at_call 56;refine (take_yes w0 g HW.out.k p h a c 2 _ A cap HH.out HC.out hov hl hs).mono ?_;intro e w1 hT;obtain ⟨A1,cap1,cap2,rfl,st1,j0,j1,j2,j4,HI1,H1,o12,C1,f1,sb1⟩:=tkF hT HI HW n1 n2 hov;obtain ⟨r0,r1,r2,r3,HR1⟩:=rbF HR HW f1 n3 n4;clear hT;obtain ⟨b,off,rfl,t0,t1,t2,t3,ST1⟩:=topG st1 (by simp [top_length]);have nb:=ere_ne HE.out (by omega) (sb1 rfl);have nb':=Ne.symm nb;clear sb1;clear st1))
 go_region_held3 (fun w'=>w'.cell? ⟨b,off,none⟩=some (.int .i64 (nth va0 (c.top 2) 0).kind)∧w'.cell? ⟨b,off+1,none⟩=some (.int .i64 (nth va0 (c.top 2) 0).n)∧w'.cell? ⟨b,off+2,none⟩=some (.int .i64 (nth va0 (c.top 2) 1).kind)∧w'.cell? ⟨b,off+2+1,none⟩=some (.int .i64 (nth va0 (c.top 2) 1).n)∧w'.cell? ⟨w.heap.size,1,none⟩=some (.int .i64 ia))
  (go_keep)
  (first
   | (go_at_call 159;refine (reckon_any w0 g p h (nth va0 (c.top 2) 0) (nth va0 (c.top 2) 1) 1 ia _ (by first|exact H1.out.cf (Cf.drew (Cf.refl _ _ _))|exact H1.out) HW.out (by omega) HX.out HY.out).mono ?_;rintro e w2 ⟨he,h2,f2⟩;rw [hV] at he;subst he;have F2:Hid (Fr w0.heap.size g.T w1 w2):=Fr.trans (Fr.drew (Fr.refl _ _ _)) f2;clear f2;obtain ⟨u0,u1,u2,u3,ST2⟩:=stG ST1 HW F2 (by simp [top_length]);obtain ⟨l1,l2,HI2⟩:=inG HI1 HW F2;obtain ⟨x0,x1,x2,x3,HR2⟩:=rbG HR1 HW F2))
 go_wp2
 (try simp only [Exit.inBlock,Exit.then])
 refine bodyPost_ret (results_cell_row rfl _ _ (w.heap.size+1) _ _ _ _ rfl (HR2.out.set V).blk Tryz.underlying62 rfl info_va) rfl ?_
 exact ⟨rfl,h2.cf (HR2.out.cf HW.out.k hbs1 _ _),⟨A,cap2,(C1.out.fr HW.out.k F2.out).box2 (HE.out.le (cut_le _ _)) hle1 n3 n4 _ _⟩,(((HF.out.fq.trans f1).trans F2.out.fq)).box2 hle1 hbs1 _ _⟩
theorem gives_7 (w0:World) (g:Ad) (p:Nat) (h:Hp) (a:Ca) (c:Cal) (ia ib ic ii:Int) (Q:Option Addr) (nl q:Nat) (w:World) (hH:Hs w0 g w p h) (hC:Cs w0 w a c) (C:Cw w0 g h) (ho:h.over=false) (hs:c.stk.length≤1000) (hl:2≤c.stk.length) (hx:I64 (nth va0 (c.top 2) 0).n) (hy:I64 (nth va0 (c.top 2) 1).n) :
  Calls Tryz.prog 116 #[.pointer (some ⟨p,0,none⟩),.pointer (some ⟨a.q,0,none⟩),.agg (inC 7 ia ib ic ii Q nl q)] w fun e w'=>e=.returned (vaV (h.reckV (nth va0 (c.top 2) 0) (nth va0 (c.top 2) 1) 2 ia))∧Hs w0 g w' p (h.reckH (nth va0 (c.top 2) 0) (nth va0 (c.top 2) 1) 2 ia)∧Cs w0 w' a (c.cut 2)∧Fq w0.heap.size g.T a w w':=by
 have hbs:=hH.base
 obtain ⟨A,cap,HE,hq0,hl0,HF,HH,HC,HI,HR,HW,hbs1,hle1,n1,n2,n3,n4⟩:=gpre 7 ia ib ic ii Q nl q hH hC C
 have hov:=ho
 clear hH hC C ho
 have HX:Hid (I64 (nth va0 (c.top 2) 0).n):=hx
 have HY:Hid (I64 (nth va0 (c.top 2) 1).n):=hy
 clear hx hy
 obtain ⟨V,hV⟩:∃V,h.reckV (nth va0 (c.top 2) 0) (nth va0 (c.top 2) 1) 2 ia=V:=⟨_,rfl⟩
 rw [hV]
 go_enter Tryz.func116,Tryz.ntmps116
 go_wp2_with ((go_at_call 56;refine (take_yes w0 g HW.out.k p h a c 2 _ A cap HH.out HC.out hov hl hs).mono ?_;intro e w1 hT;obtain ⟨A1,cap1,cap2,rfl,st1,j0,j1,j2,j4,HI1,H1,o12,C1,f1,sb1⟩:=tkF hT HI HW n1 n2 hov;obtain ⟨r0,r1,r2,r3,HR1⟩:=rbF HR HW f1 n3 n4;clear hT;obtain ⟨b,off,rfl,t0,t1,t2,t3,ST1⟩:=topG st1 (by simp [top_length]);have nb:=ere_ne HE.out (by omega) (sb1 rfl);have nb':=Ne.symm nb;clear sb1;clear st1))
 go_region_held3 (fun w'=>w'.cell? ⟨b,off,none⟩=some (.int .i64 (nth va0 (c.top 2) 0).kind)∧w'.cell? ⟨b,off+1,none⟩=some (.int .i64 (nth va0 (c.top 2) 0).n)∧w'.cell? ⟨b,off+2,none⟩=some (.int .i64 (nth va0 (c.top 2) 1).kind)∧w'.cell? ⟨b,off+2+1,none⟩=some (.int .i64 (nth va0 (c.top 2) 1).n)∧w'.cell? ⟨w.heap.size,1,none⟩=some (.int .i64 ia))
  (go_keep)
  (first
   | (go_at_call 159;refine (reckon_any w0 g p h (nth va0 (c.top 2) 0) (nth va0 (c.top 2) 1) 2 ia _ (by first|exact H1.out.cf (Cf.drew (Cf.refl _ _ _))|exact H1.out) HW.out (by omega) HX.out HY.out).mono ?_;rintro e w2 ⟨he,h2,f2⟩;rw [hV] at he;subst he;have F2:Hid (Fr w0.heap.size g.T w1 w2):=Fr.trans (Fr.drew (Fr.refl _ _ _)) f2;clear f2;obtain ⟨u0,u1,u2,u3,ST2⟩:=stG ST1 HW F2 (by simp [top_length]);obtain ⟨l1,l2,HI2⟩:=inG HI1 HW F2;obtain ⟨x0,x1,x2,x3,HR2⟩:=rbG HR1 HW F2))
 go_wp2
 (try simp only [Exit.inBlock,Exit.then])
 refine bodyPost_ret (results_cell_row rfl _ _ (w.heap.size+1) _ _ _ _ rfl (HR2.out.set V).blk Tryz.underlying62 rfl info_va) rfl ?_
 exact ⟨rfl,h2.cf (HR2.out.cf HW.out.k hbs1 _ _),⟨A,cap2,(C1.out.fr HW.out.k F2.out).box2 (HE.out.le (cut_le _ _)) hle1 n3 n4 _ _⟩,(((HF.out.fq.trans f1).trans F2.out.fq)).box2 hle1 hbs1 _ _⟩
theorem gives_8 (w0:World) (g:Ad) (p:Nat) (h:Hp) (a:Ca) (c:Cal) (ia ib ic ii:Int) (Q:Option Addr) (nl q:Nat) (w:World) (hH:Hs w0 g w p h) (hC:Cs w0 w a c) (C:Cw w0 g h) (ho:h.over=false) (hs:c.stk.length≤1000) (hl:1≤c.stk.length) :
  Calls Tryz.prog 116 #[.pointer (some ⟨p,0,none⟩),.pointer (some ⟨a.q,0,none⟩),.agg (inC 8 ia ib ic ii Q nl q)] w fun e w'=>e=.returned (vaV ⟨2,(nth va0 (c.top 1) 0).n⟩)∧Hs w0 g w' p (h.must (decide ((nth va0 (c.top 1) 0).kind=1)))∧Cs w0 w' a (c.cut 1)∧Fq w0.heap.size g.T a w w':=by
 have hbs:=hH.base
 obtain ⟨A,cap,HE,hq0,hl0,HF,HH,HC,HI,HR,HW,hbs1,hle1,n1,n2,n3,n4⟩:=gpre 8 ia ib ic ii Q nl q hH hC C
 have hov:=ho
 clear hH hC C ho
 have HD:((nth va0 (c.top 1) 0).kind==1)=decide ((nth va0 (c.top 1) 0).kind=1):=(by rw [Bool.eq_iff_iff];simp)
 go_enter Tryz.func116,Tryz.ntmps116
 go_wp2_with (first
  | (go_at_call 56;refine (take_yes w0 g HW.out.k p h a c 1 _ A cap HH.out HC.out hov hl hs).mono ?_;intro e w1 hT;obtain ⟨A1,cap1,cap2,rfl,st1,j0,j1,j2,j4,HI1,H1,o12,C1,f1,sb1⟩:=tkF hT HI HW n1 n2 hov;obtain ⟨r0,r1,r2,r3,HR1⟩:=rbF HR HW f1 n3 n4;clear hT;obtain ⟨b,off,rfl,t0,t1,ST1⟩:=topF st1 (by simp [top_length]);have nb:=ere_ne HE.out (by omega) (sb1 rfl);have nb':=Ne.symm nb;clear sb1;clear st1)
  | (go_at_call 55;refine (must_any w0 g HW.out.k p h _ _ H1.out).mono ?_;rintro e w2 ⟨rfl,h2,f2⟩;have F2:Hid (Fr w0.heap.size g.T w1 w2):=f2;clear f2;obtain ⟨u0,u1,ST2⟩:=stF ST1 HW F2 (by simp [top_length]);obtain ⟨l1,l2,HI2⟩:=inG HI1 HW F2;obtain ⟨x0,x1,x2,x3,HR2⟩:=rbG HR1 HW F2))
 (try simp only [Exit.inBlock,Exit.then])
 refine bodyPost_ret (results_cell_row rfl _ _ (w.heap.size+1) _ _ _ _ rfl (HR2.out.set ⟨2,(nth va0 (c.top 1) 0).n⟩).blk Tryz.underlying62 rfl info_va) rfl ?_
 exact ⟨rfl,h2.cf (HR2.out.cf HW.out.k hbs1 _ _),⟨A,cap2,(C1.out.fr HW.out.k F2.out).box2 (HE.out.le (cut_le _ _)) hle1 n3 n4 _ _⟩,(((HF.out.fq.trans f1).trans F2.out.fq)).box2 hle1 hbs1 _ _⟩
theorem gives_9 (w0:World) (g:Ad) (p:Nat) (h:Hp) (a:Ca) (c:Cal) (ia ib ic ii:Int) (Q:Option Addr) (nl q:Nat) (w:World) (hH:Hs w0 g w p h) (hC:Cs w0 w a c) (C:Cw w0 g h) (ho:h.over=false) (hs:c.stk.length≤1000) (hl:1≤c.stk.length) :
  Calls Tryz.prog 116 #[.pointer (some ⟨p,0,none⟩),.pointer (some ⟨a.q,0,none⟩),.agg (inC 9 ia ib ic ii Q nl q)] w fun e w'=>e=.returned (vaV ⟨1,wrap32 (nth va0 (c.top 1) 0).n⟩)∧Hs w0 g w' p (h.must (decide ((nth va0 (c.top 1) 0).kind=2)))∧Cs w0 w' a (c.cut 1)∧Fq w0.heap.size g.T a w w':=by
 have hbs:=hH.base
 obtain ⟨A,cap,HE,hq0,hl0,HF,HH,HC,HI,HR,HW,hbs1,hle1,n1,n2,n3,n4⟩:=gpre 9 ia ib ic ii Q nl q hH hC C
 have hov:=ho
 clear hH hC C ho
 have HD:((nth va0 (c.top 1) 0).kind==2)=decide ((nth va0 (c.top 1) 0).kind=2):=(by rw [Bool.eq_iff_iff];simp)
 go_enter Tryz.func116,Tryz.ntmps116
 go_wp2_with (first
  | (go_at_call 56;refine (take_yes w0 g HW.out.k p h a c 1 _ A cap HH.out HC.out hov hl hs).mono ?_;intro e w1 hT;obtain ⟨A1,cap1,cap2,rfl,st1,j0,j1,j2,j4,HI1,H1,o12,C1,f1,sb1⟩:=tkF hT HI HW n1 n2 hov;obtain ⟨r0,r1,r2,r3,HR1⟩:=rbF HR HW f1 n3 n4;clear hT;obtain ⟨b,off,rfl,t0,t1,ST1⟩:=topF st1 (by simp [top_length]);have nb:=ere_ne HE.out (by omega) (sb1 rfl);have nb':=Ne.symm nb;clear sb1;clear st1)
  | (go_at_call 55;refine (must_any w0 g HW.out.k p h _ _ H1.out).mono ?_;rintro e w2 ⟨rfl,h2,f2⟩;have F2:Hid (Fr w0.heap.size g.T w1 w2):=f2;clear f2;obtain ⟨u0,u1,ST2⟩:=stF ST1 HW F2 (by simp [top_length]);obtain ⟨l1,l2,HI2⟩:=inG HI1 HW F2;obtain ⟨x0,x1,x2,x3,HR2⟩:=rbG HR1 HW F2)
  | (go_at_call 50;refine (rnarrow_any _ _).mono ?_;rintro e w3 ⟨rfl,hw3⟩;rw [hw3];clear hw3 w3))
 (try simp only [Exit.inBlock,Exit.then])
 refine bodyPost_ret (results_cell_row rfl _ _ (w.heap.size+1) _ _ _ _ rfl (HR2.out.set ⟨1,wrap32 (nth va0 (c.top 1) 0).n⟩).blk Tryz.underlying62 rfl info_va) rfl ?_
 exact ⟨rfl,h2.cf (HR2.out.cf HW.out.k hbs1 _ _),⟨A,cap2,(C1.out.fr HW.out.k F2.out).box2 (HE.out.le (cut_le _ _)) hle1 n3 n4 _ _⟩,(((HF.out.fq.trans f1).trans F2.out.fq)).box2 hle1 hbs1 _ _⟩
theorem gives_10y (w0:World) (g:Ad) (p:Nat) (h:Hp) (a:Ca) (c:Cal) (ia ib ic ii:Int) (Q:Option Addr) (nl q:Nat) (w:World) (hH:Hs w0 g w p h) (hC:Cs w0 w a c) (C:Cw w0 g h) (ho:h.over=false) (hs:c.stk.length≤1000) (hl:2≤c.stk.length) (hk:(nth va0 (c.top 2) 0).kind=2) :
  Calls Tryz.prog 116 #[.pointer (some ⟨p,0,none⟩),.pointer (some ⟨a.q,0,none⟩),.agg (inC 10 ia ib ic ii Q nl q)] w fun e w'=>e=.returned (vaV ⟨1,cmpV (nth va0 (c.top 2) 0).n (nth va0 (c.top 2) 1).n⟩)∧Hs w0 g w' p (h.must (ofBoth (nth va0 (c.top 2) 0) (nth va0 (c.top 2) 1) 2))∧Cs w0 w' a (c.cut 2)∧Fq w0.heap.size g.T a w w':=by
 have hbs:=hH.base
 obtain ⟨A,cap,HE,hq0,hl0,HF,HH,HC,HI,HR,HW,hbs1,hle1,n1,n2,n3,n4⟩:=gpre 10 ia ib ic ii Q nl q hH hC C
 have hov:=ho
 clear hH hC C ho
 have hk':((nth va0 (c.top 2) 0).kind==2)=true:=by simpa using hk
 have HD:((nth va0 (c.top 2) 1).kind==2)=ofBoth (nth va0 (c.top 2) 0) (nth va0 (c.top 2) 1) 2:=by unfold ofBoth;rw [decide_eq_true hk,Bool.eq_iff_iff];simp
 clear hk
 go_enter Tryz.func116,Tryz.ntmps116
 go_wp2_with (first
  | (go_at_call 56;refine (take_yes w0 g HW.out.k p h a c 2 _ A cap HH.out HC.out hov hl hs).mono ?_;intro e w1 hT;obtain ⟨A1,cap1,cap2,rfl,st1,j0,j1,j2,j4,HI1,H1,o12,C1,f1,sb1⟩:=tkF hT HI HW n1 n2 hov;obtain ⟨r0,r1,r2,r3,HR1⟩:=rbF HR HW f1 n3 n4;clear hT;obtain ⟨b,off,rfl,t0,t1,t2,t3,ST1⟩:=topG st1 (by simp [top_length]);have nb:=ere_ne HE.out (by omega) (sb1 rfl);have nb':=Ne.symm nb;clear sb1;clear st1)
  | (go_at_call 55;refine (must_any w0 g HW.out.k p h _ _ H1.out).mono ?_;rintro e w2 ⟨rfl,h2,f2⟩;have F2:Hid (Fr w0.heap.size g.T w1 w2):=f2;clear f2;obtain ⟨u0,u1,u2,u3,ST2⟩:=stG ST1 HW F2 (by simp [top_length]);obtain ⟨l1,l2,HI2⟩:=inG HI1 HW F2;obtain ⟨x0,x1,x2,x3,HR2⟩:=rbG HR1 HW F2))
 go_region_held3 (fun w'=>w'.cell? ⟨b,off+1,none⟩=some (.int .i64 (nth va0 (c.top 2) 0).n)∧w'.cell? ⟨b,off+2+1,none⟩=some (.int .i64 (nth va0 (c.top 2) 1).n))
  (go_keep)
  (first
   | (go_at_call 160;refine (rcmp_any _ _ _).mono ?_;rintro e w3 ⟨rfl,hw3⟩;rw [hw3];clear hw3 w3))
 go_wp2
 (try simp only [Exit.inBlock,Exit.then])
 have R3:VaBox w2.drew (w.heap.size+1) va0:=⟨HR2.out.blk⟩
 refine bodyPost_ret (results_cell_row rfl _ _ (w.heap.size+1) _ _ _ _ rfl (R3.set ⟨1,cmpV (nth va0 (c.top 2) 0).n (nth va0 (c.top 2) 1).n⟩).blk Tryz.underlying62 rfl info_va) rfl ?_
 exact ⟨rfl,(h2.cf (Cf.drew (Cf.refl _ _ _))).cf (R3.cf HW.out.k hbs1 _ _),⟨A,cap2,((C1.out.fr HW.out.k F2.out).fr (B:=w0.heap.size) HW.out.k (Fr.drew (Fr.refl _ _ _))).box2 (HE.out.le (cut_le _ _)) hle1 n3 n4 _ _⟩,(((HF.out.fq.trans f1).trans F2.out.fq).trans (Fr.fq (Fr.drew (Fr.refl _ _ _)))).box2 hle1 hbs1 _ _⟩
theorem gives_10n (w0:World) (g:Ad) (p:Nat) (h:Hp) (a:Ca) (c:Cal) (ia ib ic ii:Int) (Q:Option Addr) (nl q:Nat) (w:World) (hH:Hs w0 g w p h) (hC:Cs w0 w a c) (C:Cw w0 g h) (ho:h.over=false) (hs:c.stk.length≤1000) (hl:2≤c.stk.length) (hk:¬(nth va0 (c.top 2) 0).kind=2) :
  Calls Tryz.prog 116 #[.pointer (some ⟨p,0,none⟩),.pointer (some ⟨a.q,0,none⟩),.agg (inC 10 ia ib ic ii Q nl q)] w fun e w'=>e=.returned (vaV ⟨1,cmpV (nth va0 (c.top 2) 0).n (nth va0 (c.top 2) 1).n⟩)∧Hs w0 g w' p (h.must (ofBoth (nth va0 (c.top 2) 0) (nth va0 (c.top 2) 1) 2))∧Cs w0 w' a (c.cut 2)∧Fq w0.heap.size g.T a w w':=by
 have hbs:=hH.base
 obtain ⟨A,cap,HE,hq0,hl0,HF,HH,HC,HI,HR,HW,hbs1,hle1,n1,n2,n3,n4⟩:=gpre 10 ia ib ic ii Q nl q hH hC C
 have hov:=ho
 clear hH hC C ho
 have hk':((nth va0 (c.top 2) 0).kind==2)=false:=by simpa using hk
 have HD:ofBoth (nth va0 (c.top 2) 0) (nth va0 (c.top 2) 1) 2=false:=by unfold ofBoth;rw [decide_eq_false hk];rfl
 rw [HD]
 clear hk HD
 go_enter Tryz.func116,Tryz.ntmps116
 go_wp2_with (first
  | (go_at_call 56;refine (take_yes w0 g HW.out.k p h a c 2 _ A cap HH.out HC.out hov hl hs).mono ?_;intro e w1 hT;obtain ⟨A1,cap1,cap2,rfl,st1,j0,j1,j2,j4,HI1,H1,o12,C1,f1,sb1⟩:=tkF hT HI HW n1 n2 hov;obtain ⟨r0,r1,r2,r3,HR1⟩:=rbF HR HW f1 n3 n4;clear hT;obtain ⟨b,off,rfl,t0,t1,t2,t3,ST1⟩:=topG st1 (by simp [top_length]);have nb:=ere_ne HE.out (by omega) (sb1 rfl);have nb':=Ne.symm nb;clear sb1;clear st1)
  | (go_at_call 55;refine (must_any w0 g HW.out.k p h _ _ H1.out).mono ?_;rintro e w2 ⟨rfl,h2,f2⟩;have F2:Hid (Fr w0.heap.size g.T w1 w2):=f2;clear f2;obtain ⟨u0,u1,u2,u3,ST2⟩:=stG ST1 HW F2 (by simp [top_length]);obtain ⟨l1,l2,HI2⟩:=inG HI1 HW F2;obtain ⟨x0,x1,x2,x3,HR2⟩:=rbG HR1 HW F2))
 go_region_held3 (fun w'=>w'.cell? ⟨b,off+1,none⟩=some (.int .i64 (nth va0 (c.top 2) 0).n)∧w'.cell? ⟨b,off+2+1,none⟩=some (.int .i64 (nth va0 (c.top 2) 1).n))
  (go_keep)
  (first
   | (go_at_call 160;refine (rcmp_any _ _ _).mono ?_;rintro e w3 ⟨rfl,hw3⟩;rw [hw3];clear hw3 w3))
 go_wp2
 (try simp only [Exit.inBlock,Exit.then])
 have R3:VaBox w2.drew (w.heap.size+1) va0:=⟨HR2.out.blk⟩
 refine bodyPost_ret (results_cell_row rfl _ _ (w.heap.size+1) _ _ _ _ rfl (R3.set ⟨1,cmpV (nth va0 (c.top 2) 0).n (nth va0 (c.top 2) 1).n⟩).blk Tryz.underlying62 rfl info_va) rfl ?_
 exact ⟨rfl,(h2.cf (Cf.drew (Cf.refl _ _ _))).cf (R3.cf HW.out.k hbs1 _ _),⟨A,cap2,((C1.out.fr HW.out.k F2.out).fr (B:=w0.heap.size) HW.out.k (Fr.drew (Fr.refl _ _ _))).box2 (HE.out.le (cut_le _ _)) hle1 n3 n4 _ _⟩,(((HF.out.fq.trans f1).trans F2.out.fq).trans (Fr.fq (Fr.drew (Fr.refl _ _ _)))).box2 hle1 hbs1 _ _⟩
theorem gives_14 (w0:World) (g:Ad) (p:Nat) (h:Hp) (a:Ca) (c:Cal) (ia ib ic ii:Int) (Q:Option Addr) (nl q:Nat) (w:World) (hH:Hs w0 g w p h) (hC:Cs w0 w a c) (C:Cw w0 g h) (ho:h.over=false) (hs:c.stk.length≤1000) (hia:0≤ia∧ia<h.file.classes.length) :
  Calls Tryz.prog 116 #[.pointer (some ⟨p,0,none⟩),.pointer (some ⟨a.q,0,none⟩),.agg (inC 14 ia ib ic ii Q nl q)] w fun e w'=>e=.returned (vaV h.newV)∧Hs w0 g w' p (h.new ia)∧Cs w0 w' a (c.cut 0)∧Fq w0.heap.size g.T a w w':=by
 have hbs:=hH.base
 obtain ⟨A,cap,HE,hq0,hl0,HF,HH,HC,HI,HR,HW,hbs1,hle1,n1,n2,n3,n4⟩:=gpre 14 ia ib ic ii Q nl q hH hC C
 have hov:=ho
 clear hH hC C ho
 have hl:0≤c.stk.length:=Nat.zero_le _
 obtain ⟨V,hV⟩:∃V,h.newV=V:=⟨_,rfl⟩
 rw [hV]
 go_enter Tryz.func116,Tryz.ntmps116
 go_wp2_with (first
  | (go_at_call 56;refine (take_yes w0 g HW.out.k p h a c 0 _ A cap HH.out HC.out hov hl hs).mono ?_;intro e w1 hT;obtain ⟨A1,cap1,cap2,rfl,st1,j0,j1,j2,j4,HI1,H1,o12,C1,f1,sb1⟩:=tkF hT HI HW n1 n2 hov;obtain ⟨r0,r1,r2,r3,HR1⟩:=rbF HR HW f1 n3 n4;clear hT)
  | (go_at_call 161;refine (new_any w0 g HW.out.k p h ia _ H1.out HW.out.cls HW.out.tree hia HW.out.le HW.out.fl).mono ?_;rintro e w2 ⟨he,h2,f2⟩;rw [hV] at he;subst he;have F2:Hid (Fr w0.heap.size g.T w1 w2):=f2;clear f2;obtain ⟨l1,l2,HI2⟩:=inG HI1 HW F2;obtain ⟨x0,x1,x2,x3,HR2⟩:=rbG HR1 HW F2))
 (try simp only [Exit.inBlock,Exit.then])
 refine bodyPost_ret (results_cell_row rfl _ _ (w.heap.size+1) _ _ _ _ rfl (HR2.out.set V).blk Tryz.underlying62 rfl info_va) rfl ?_
 exact ⟨rfl,h2.cf (HR2.out.cf HW.out.k hbs1 _ _),⟨A,cap2,(C1.out.fr HW.out.k F2.out).box2 (HE.out.le (cut_le _ _)) hle1 n3 n4 _ _⟩,(((HF.out.fq.trans f1).trans F2.out.fq)).box2 hle1 hbs1 _ _⟩
theorem gives_25 (w0:World) (g:Ad) (p:Nat) (h:Hp) (a:Ca) (c:Cal) (ia ib ic ii:Int) (Q:Option Addr) (nl q:Nat) (w:World) (hH:Hs w0 g w p h) (hC:Cs w0 w a c) (C:Cw w0 g h) (ho:h.over=false) (hs:c.stk.length≤1000) (hIn:IntsAt w0 g.I h.input) (hu:0≤h.sh.used) :
  Calls Tryz.prog 116 #[.pointer (some ⟨p,0,none⟩),.pointer (some ⟨a.q,0,none⟩),.agg (inC 25 ia ib ic ii Q nl q)] w fun e w'=>e=.returned (vaV h.inV)∧Hs w0 g w' p h.input'∧Cs w0 w' a (c.cut 0)∧Fq w0.heap.size g.T a w w':=by
 have hbs:=hH.base
 obtain ⟨A,cap,HE,hq0,hl0,HF,HH,HC,HI,HR,HW,hbs1,hle1,n1,n2,n3,n4⟩:=gpre 25 ia ib ic ii Q nl q hH hC C
 have hov:=ho
 clear hH hC C ho
 have hl:0≤c.stk.length:=Nat.zero_le _
 have HIN:Hid (IntsAt w0 g.I h.input):=hIn
 clear hIn
 obtain ⟨V,hV⟩:∃V,h.inV=V:=⟨_,rfl⟩
 rw [hV]
 go_enter Tryz.func116,Tryz.ntmps116
 go_wp2_with (first
  | (go_at_call 56;refine (take_yes w0 g HW.out.k p h a c 0 _ A cap HH.out HC.out hov hl hs).mono ?_;intro e w1 hT;obtain ⟨A1,cap1,cap2,rfl,st1,j0,j1,j2,j4,HI1,H1,o12,C1,f1,sb1⟩:=tkF hT HI HW n1 n2 hov;obtain ⟨r0,r1,r2,r3,HR1⟩:=rbF HR HW f1 n3 n4;clear hT)
  | (go_at_call 164;refine (in_any w0 g HW.out.k p h _ H1.out HIN.out hu).mono ?_;rintro e w2 ⟨he,h2,f2⟩;rw [hV] at he;subst he;have F2:Hid (Fr w0.heap.size g.T w1 w2):=f2;clear f2;obtain ⟨l1,l2,HI2⟩:=inG HI1 HW F2;obtain ⟨x0,x1,x2,x3,HR2⟩:=rbG HR1 HW F2))
 (try simp only [Exit.inBlock,Exit.then])
 refine bodyPost_ret (results_cell_row rfl _ _ (w.heap.size+1) _ _ _ _ rfl (HR2.out.set V).blk Tryz.underlying62 rfl info_va) rfl ?_
 exact ⟨rfl,h2.cf (HR2.out.cf HW.out.k hbs1 _ _),⟨A,cap2,(C1.out.fr HW.out.k F2.out).box2 (HE.out.le (cut_le _ _)) hle1 n3 n4 _ _⟩,(((HF.out.fq.trans f1).trans F2.out.fq)).box2 hle1 hbs1 _ _⟩
theorem gives_15 (w0:World) (g:Ad) (p:Nat) (h:Hp) (a:Ca) (c:Cal) (ia ib ic ii:Int) (Q:Option Addr) (nl q:Nat) (w:World) (hH:Hs w0 g w p h) (hC:Cs w0 w a c) (C:Cw w0 g h) (ho:h.over=false) (hs:c.stk.length≤1000) (hl:1≤c.stk.length) (h3:(nth va0 (c.top 1) 0).kind=3→(nth va0 (c.top 1) 0).n<h.objs.length) :
  Calls Tryz.prog 116 #[.pointer (some ⟨p,0,none⟩),.pointer (some ⟨a.q,0,none⟩),.agg (inC 15 ia ib ic ii Q nl q)] w fun e w'=>e=.returned (vaV (h.getV (nth va0 (c.top 1) 0) ia ib))∧Hs w0 g w' p (h.findH (nth va0 (c.top 1) 0) ia)∧Cs w0 w' a (c.cut 1)∧Fq w0.heap.size g.T a w w':=by
 have hbs:=hH.base
 obtain ⟨A,cap,HE,hq0,hl0,HF,HH,HC,HI,HR,HW,hbs1,hle1,n1,n2,n3,n4⟩:=gpre 15 ia ib ic ii Q nl q hH hC C
 have hov:=ho
 clear hH hC C ho
 have H3:Hid ((nth va0 (c.top 1) 0).kind=3→(nth va0 (c.top 1) 0).n<h.objs.length):=h3
 clear h3
 obtain ⟨V,hV⟩:∃V,h.getV (nth va0 (c.top 1) 0) ia ib=V:=⟨_,rfl⟩
 rw [hV]
 go_enter Tryz.func116,Tryz.ntmps116
 go_wp2_with ((go_at_call 56;refine (take_yes w0 g HW.out.k p h a c 1 _ A cap HH.out HC.out hov hl hs).mono ?_;intro e w1 hT;obtain ⟨A1,cap1,cap2,rfl,st1,j0,j1,j2,j4,HI1,H1,o12,C1,f1,sb1⟩:=tkF hT HI HW n1 n2 hov;obtain ⟨r0,r1,r2,r3,HR1⟩:=rbF HR HW f1 n3 n4;clear hT;obtain ⟨b,off,rfl,t0,t1,ST1⟩:=topF st1 (by simp [top_length]);have nb:=ere_ne HE.out (by omega) (sb1 rfl);have nb':=Ne.symm nb;clear sb1;clear st1))
 go_region_held3 (fun w'=>w'.cell? ⟨b,off,none⟩=some (.int .i64 (nth va0 (c.top 1) 0).kind)∧w'.cell? ⟨b,off+1,none⟩=some (.int .i64 (nth va0 (c.top 1) 0).n)∧w'.cell? ⟨w.heap.size,1,none⟩=some (.int .i64 ia)∧w'.cell? ⟨w.heap.size,2,none⟩=some (.int .i64 ib))
  (go_keep)
  (first
   | (go_at_call 162;refine (get_any w0 g p h (nth va0 (c.top 1) 0) ia ib _ (by first|exact H1.out.cf (Cf.drew (Cf.refl _ _ _))|exact H1.out) HW.out H3.out).mono ?_;rintro e w2 ⟨he,h2,f2⟩;rw [hV] at he;subst he;have F2:Hid (Fr w0.heap.size g.T w1 w2):=Fr.trans (Fr.drew (Fr.refl _ _ _)) f2;clear f2;obtain ⟨u0,u1,ST2⟩:=stF ST1 HW F2 (by simp [top_length]);obtain ⟨l1,l2,HI2⟩:=inG HI1 HW F2;obtain ⟨x0,x1,x2,x3,HR2⟩:=rbG HR1 HW F2))
 go_wp2
 (try simp only [Exit.inBlock,Exit.then])
 refine bodyPost_ret (results_cell_row rfl _ _ (w.heap.size+1) _ _ _ _ rfl (HR2.out.set V).blk Tryz.underlying62 rfl info_va) rfl ?_
 exact ⟨rfl,h2.cf (HR2.out.cf HW.out.k hbs1 _ _),⟨A,cap2,(C1.out.fr HW.out.k F2.out).box2 (HE.out.le (cut_le _ _)) hle1 n3 n4 _ _⟩,(((HF.out.fq.trans f1).trans F2.out.fq)).box2 hle1 hbs1 _ _⟩
theorem gives_17 (w0:World) (g:Ad) (p:Nat) (h:Hp) (a:Ca) (c:Cal) (ia ib ic ii:Int) (Q:Option Addr) (nl q:Nat) (w:World) (hH:Hs w0 g w p h) (hC:Cs w0 w a c) (C:Cw w0 g h) (ho:h.over=false) (hs:c.stk.length≤1000) (hl:1≤c.stk.length) (h3:(nth va0 (c.top 1) 0).kind=3→(nth va0 (c.top 1) 0).n<h.objs.length) :
  Calls Tryz.prog 116 #[.pointer (some ⟨p,0,none⟩),.pointer (some ⟨a.q,0,none⟩),.agg (inC 17 ia ib ic ii Q nl q)] w fun e w'=>e=.returned (vaV (nth va0 (c.top 1) 0))∧Hs w0 g w' p (h.cast (nth va0 (c.top 1) 0) ia)∧Cs w0 w' a (c.cut 1)∧Fq w0.heap.size g.T a w w':=by
 have hbs:=hH.base
 obtain ⟨A,cap,HE,hq0,hl0,HF,HH,HC,HI,HR,HW,hbs1,hle1,n1,n2,n3,n4⟩:=gpre 17 ia ib ic ii Q nl q hH hC C
 have hov:=ho
 clear hH hC C ho
 have H3:Hid ((nth va0 (c.top 1) 0).kind=3→(nth va0 (c.top 1) 0).n<h.objs.length):=h3
 clear h3
 go_enter Tryz.func116,Tryz.ntmps116
 go_wp2_with ((go_at_call 56;refine (take_yes w0 g HW.out.k p h a c 1 _ A cap HH.out HC.out hov hl hs).mono ?_;intro e w1 hT;obtain ⟨A1,cap1,cap2,rfl,st1,j0,j1,j2,j4,HI1,H1,o12,C1,f1,sb1⟩:=tkF hT HI HW n1 n2 hov;obtain ⟨r0,r1,r2,r3,HR1⟩:=rbF HR HW f1 n3 n4;clear hT;obtain ⟨b,off,rfl,t0,t1,ST1⟩:=topF st1 (by simp [top_length]);have nb:=ere_ne HE.out (by omega) (sb1 rfl);have nb':=Ne.symm nb;clear sb1;clear st1))
 go_region_held3 (fun w'=>w'.cell? ⟨b,off,none⟩=some (.int .i64 (nth va0 (c.top 1) 0).kind)∧w'.cell? ⟨b,off+1,none⟩=some (.int .i64 (nth va0 (c.top 1) 0).n)∧w'.cell? ⟨w.heap.size,1,none⟩=some (.int .i64 ia))
  (go_keep)
  (first
   | (go_at_call 135;refine (cast_any w0 g p h (nth va0 (c.top 1) 0) ia _ (by first|exact H1.out.cf (Cf.drew (Cf.refl _ _ _))|exact H1.out) HW.out H3.out).mono ?_;rintro e w2 ⟨he,h2,f2⟩;subst he;have F2:Hid (Fr w0.heap.size g.T w1 w2):=Fr.trans (Fr.drew (Fr.refl _ _ _)) f2;clear f2;obtain ⟨u0,u1,ST2⟩:=stF ST1 HW F2 (by simp [top_length]);obtain ⟨l1,l2,HI2⟩:=inG HI1 HW F2;obtain ⟨x0,x1,x2,x3,HR2⟩:=rbG HR1 HW F2))
 go_wp2
 (try simp only [Exit.inBlock,Exit.then])
 refine bodyPost_ret (results_cell_row rfl _ _ (w.heap.size+1) _ _ _ _ rfl (HR2.out.set (nth va0 (c.top 1) 0)).blk Tryz.underlying62 rfl info_va) rfl ?_
 exact ⟨rfl,h2.cf (HR2.out.cf HW.out.k hbs1 _ _),⟨A,cap2,(C1.out.fr HW.out.k F2.out).box2 (HE.out.le (cut_le _ _)) hle1 n3 n4 _ _⟩,(((HF.out.fq.trans f1).trans F2.out.fq)).box2 hle1 hbs1 _ _⟩
theorem gives_18 (w0:World) (g:Ad) (p:Nat) (h:Hp) (a:Ca) (c:Cal) (ia ib ic ii:Int) (Q:Option Addr) (nl q:Nat) (w:World) (hH:Hs w0 g w p h) (hC:Cs w0 w a c) (C:Cw w0 g h) (ho:h.over=false) (hs:c.stk.length≤1000) (hl:1≤c.stk.length) (h3:(nth va0 (c.top 1) 0).kind=3→(nth va0 (c.top 1) 0).n<h.objs.length) :
  Calls Tryz.prog 116 #[.pointer (some ⟨p,0,none⟩),.pointer (some ⟨a.q,0,none⟩),.agg (inC 18 ia ib ic ii Q nl q)] w fun e w'=>e=.returned (vaV (h.isV (nth va0 (c.top 1) 0) ia))∧Hs w0 g w' p (h.must (isRef (nth va0 (c.top 1) 0)))∧Cs w0 w' a (c.cut 1)∧Fq w0.heap.size g.T a w w':=by
 have hbs:=hH.base
 obtain ⟨A,cap,HE,hq0,hl0,HF,HH,HC,HI,HR,HW,hbs1,hle1,n1,n2,n3,n4⟩:=gpre 18 ia ib ic ii Q nl q hH hC C
 have hov:=ho
 clear hH hC C ho
 have H3:Hid ((nth va0 (c.top 1) 0).kind=3→(nth va0 (c.top 1) 0).n<h.objs.length):=h3
 clear h3
 obtain ⟨V,hV⟩:∃V,h.isV (nth va0 (c.top 1) 0) ia=V:=⟨_,rfl⟩
 rw [hV]
 go_enter Tryz.func116,Tryz.ntmps116
 go_wp2_with ((go_at_call 56;refine (take_yes w0 g HW.out.k p h a c 1 _ A cap HH.out HC.out hov hl hs).mono ?_;intro e w1 hT;obtain ⟨A1,cap1,cap2,rfl,st1,j0,j1,j2,j4,HI1,H1,o12,C1,f1,sb1⟩:=tkF hT HI HW n1 n2 hov;obtain ⟨r0,r1,r2,r3,HR1⟩:=rbF HR HW f1 n3 n4;clear hT;obtain ⟨b,off,rfl,t0,t1,ST1⟩:=topF st1 (by simp [top_length]);have nb:=ere_ne HE.out (by omega) (sb1 rfl);have nb':=Ne.symm nb;clear sb1;clear st1))
 go_region_held3 (fun w'=>w'.cell? ⟨b,off,none⟩=some (.int .i64 (nth va0 (c.top 1) 0).kind)∧w'.cell? ⟨b,off+1,none⟩=some (.int .i64 (nth va0 (c.top 1) 0).n)∧w'.cell? ⟨w.heap.size,1,none⟩=some (.int .i64 ia))
  (go_keep)
  (first
   | (go_at_call 163;refine (is_any w0 g p h (nth va0 (c.top 1) 0) ia _ (by first|exact H1.out.cf (Cf.drew (Cf.refl _ _ _))|exact H1.out) HW.out H3.out).mono ?_;rintro e w2 ⟨he,h2,f2⟩;rw [hV] at he;subst he;have F2:Hid (Fr w0.heap.size g.T w1 w2):=Fr.trans (Fr.drew (Fr.refl _ _ _)) f2;clear f2;obtain ⟨u0,u1,ST2⟩:=stF ST1 HW F2 (by simp [top_length]);obtain ⟨l1,l2,HI2⟩:=inG HI1 HW F2;obtain ⟨x0,x1,x2,x3,HR2⟩:=rbG HR1 HW F2))
 go_wp2
 (try simp only [Exit.inBlock,Exit.then])
 refine bodyPost_ret (results_cell_row rfl _ _ (w.heap.size+1) _ _ _ _ rfl (HR2.out.set V).blk Tryz.underlying62 rfl info_va) rfl ?_
 exact ⟨rfl,h2.cf (HR2.out.cf HW.out.k hbs1 _ _),⟨A,cap2,(C1.out.fr HW.out.k F2.out).box2 (HE.out.le (cut_le _ _)) hle1 n3 n4 _ _⟩,(((HF.out.fq.trans f1).trans F2.out.fq)).box2 hle1 hbs1 _ _⟩
end Go.Proofs.YtgiiapenmjollaaGreat
