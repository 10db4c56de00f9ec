import Derived.Test.YtgiiapenmjollaaGreatSsam
namespace Go.Proofs.YtgiiapenmjollaaGreat
set_option linter.all false
set_option maxHeartbeats 40000000
set_option maxRecDepth 100000
open Go.RowKit
theorem does_no13 (w0:World) (g:Ad) (p:Nat) (h:Hp) (a:Ca) (c:Cal) (ia ib ic ii:Int) (Q:Option Addr) (nl q:Nat) (w:World) (hH:Hs w0 g w p h) (hC:Cs w0 w a c) (C:Cw w0 g h) (ho:h.over=false) (hs5:c.stk.length≤500) (hp:0≤c.pc∧c.pc≤100000) (hl:c.stk.length<1) :
  Calls Tryz.prog 58 #[.pointer (some ⟨p,0,none⟩),.pointer (some ⟨a.q,0,none⟩),.agg (inC 13 ia ib ic ii Q nl q)] w fun e w'=>e=.returned (.int .i64 (c.pc+1))∧Hs w0 g w' p (h.fin 6)∧Cs w0 w' a c∧Fq w0.heap.size g.T a w w':=by
 have hbs:=hH.base
 obtain ⟨A,cap,hq0,hl0,HF,HH,HC,d10,HI,HW,n1,n2,n1',n2',k1,k2,hs⟩:=dpre 13 ia ib ic ii Q nl q hH hC C hs5
 have hov:=ho
 clear hH hC C ho
 have HFO:Hid ((h.fin 6).over=true):=by simp [Hp.fin,hov,Hid]
 have HMF:Hid ((h.fin 6).mustB false=false):=rfl
 have HMM:Hid ((h.fin 6).must false=h.fin 6):=by show (h.fin 6).fin 6=h.fin 6;simp [Hp.fin,hov]
 have hz:((nth va0 (List.replicate 1 va0) 0).kind==3)=false:=by rfl
 go_enter Tryz.func58,Tryz.ntmps58
 go_wp2_with (first
  | (go_at_call 56;refine (take_no w0 g HW.out.k p h a c 1 _ A cap HH.out HC.out hov hl (by omega)).mono ?_;intro e w1 hT;obtain ⟨A1,cap1,cap2,rfl,st1,j0,j1,j2,j4,HI1,H1,o12,C1,f1,-⟩:=tkF hT HI HW n1 n2 HFO.out;have F1:Hid (Fq w0.heap.size g.T a w w1):=Fq.trans HF.out.fq f1;clear hT f1;obtain ⟨b,off,rfl,t0,t1,ST1⟩:=topF st1 (by simp [top_length]);clear st1)
  | (go_at_call 55;refine (must_any w0 g HW.out.k p (h.fin 6) false _ H1.out).mono ?_;rintro e w2 ⟨he,h2,f2⟩;rw [HMF.out] at he;subst he;rw [HMM.out] at h2))
 go_ret
 exact ⟨rfl,h2,⟨A,cap2,C1.out.fr HW.out.k f2⟩,F1.out.trans f2.fq⟩
theorem does_13x (w0:World) (g:Ad) (p:Nat) (h:Hp) (a:Ca) (c:Cal) (ia ib ic ii:Int) (Q:Option Addr) (nl q:Nat) (w:World) (hH:Hs w0 g w p h) (hC:Cs w0 w a c) (C:Cw w0 g h) (ho:h.over=false) (hs5:c.stk.length≤500) (hp:0≤c.pc∧c.pc≤100000) (hl:1≤c.stk.length) (hk:¬(nth va0 (c.top 1) 0).kind=3) :
  Calls Tryz.prog 58 #[.pointer (some ⟨p,0,none⟩),.pointer (some ⟨a.q,0,none⟩),.agg (inC 13 ia ib ic ii Q nl q)] w fun e w'=>e=.returned (.int .i64 (c.pc+1))∧Hs w0 g w' p (h.fin 6)∧Cs w0 w' a (c.cut 1)∧Fq w0.heap.size g.T a w w':=by
 have hbs:=hH.base
 obtain ⟨A,cap,hq0,hl0,HF,HH,HC,d10,HI,HW,n1,n2,n1',n2',k1,k2,hs⟩:=dpre 13 ia ib ic ii Q nl q hH hC C hs5
 have hov:=ho
 clear hH hC C ho
 have HMF:Hid (h.mustB false=false):=rfl
 have HMM:Hid (h.must false=h.fin 6):=rfl
 have hz:((nth va0 (c.top 1) 0).kind==3)=false:=by simpa using hk
 clear hk
 go_enter Tryz.func58,Tryz.ntmps58
 go_wp2_with (first
  | (go_at_call 56;refine (take_yes w0 g HW.out.k p h a c 1 _ A cap HH.out HC.out hov hl hs).mono ?_;intro e w1 hT;obtain ⟨A1,cap1,cap2,rfl,st1,j0,j1,j2,j4,HI1,H1,o12,C1,f1,-⟩:=tkF hT HI HW n1 n2 hov;have F1:Hid (Fq w0.heap.size g.T a w w1):=Fq.trans HF.out.fq f1;clear hT f1;obtain ⟨b,off,rfl,t0,t1,ST1⟩:=topF st1 (by simp [top_length]);clear st1)
  | (go_at_call 55;refine (must_any w0 g HW.out.k p h false _ H1.out).mono ?_;rintro e w2 ⟨he,h2,f2⟩;rw [HMF.out] at he;subst he;rw [HMM.out] at h2))
 go_ret
 exact ⟨rfl,h2,⟨A,cap2,C1.out.fr HW.out.k f2⟩,F1.out.trans f2.fq⟩
theorem does_13y (w0:World) (g:Ad) (p:Nat) (h:Hp) (a:Ca) (c:Cal) (ia ib ic ii:Int) (Q:Option Addr) (nl q:Nat) (w:World) (hH:Hs w0 g w p h) (hC:Cs w0 w a c) (C:Cw w0 g h) (ho:h.over=false) (hs5:c.stk.length≤500) (hp:0≤c.pc∧c.pc≤100000) (hl:1≤c.stk.length) (hk:(nth va0 (c.top 1) 0).kind=3) (hn:(nth va0 (c.top 1) 0).n<0) :
  Calls Tryz.prog 58 #[.pointer (some ⟨p,0,none⟩),.pointer (some ⟨a.q,0,none⟩),.agg (inC 13 ia ib ic ii Q nl q)] w fun e w'=>e=.returned (.int .i64 ia)∧Hs w0 g w' p h∧Cs w0 w' a (c.cut 1)∧Fq w0.heap.size g.T a w w':=by
 have hbs:=hH.base
 obtain ⟨A,cap,hq0,hl0,HF,HH,HC,d10,HI,HW,n1,n2,n1',n2',k1,k2,hs⟩:=dpre 13 ia ib ic ii Q nl q hH hC C hs5
 have hov:=ho
 clear hH hC C ho
 have hnv:(!h.over)=true:=by rw [hov];rfl
 have hz:((nth va0 (c.top 1) 0).kind==3)=true:=by simpa using hk
 have hd:decide ((nth va0 (c.top 1) 0).n<0)=true:=decide_eq_true hn
 clear hk
 go_enter Tryz.func58,Tryz.ntmps58
 go_wp2_with (first
  | (go_at_call 56;refine (take_yes w0 g HW.out.k p h a c 1 _ A cap HH.out HC.out hov hl hs).mono ?_;intro e w1 hT;obtain ⟨A1,cap1,cap2,rfl,st1,j0,j1,j2,j4,HI1,H1,o12,C1,f1,-⟩:=tkF hT HI HW n1 n2 hov;have F1:Hid (Fq w0.heap.size g.T a w w1):=Fq.trans HF.out.fq f1;clear hT f1;obtain ⟨b,off,rfl,t0,t1,ST1⟩:=topF st1 (by simp [top_length]);clear st1)
  | (go_at_call 55;refine (must_true w0 g p h _ H1.out).mono ?_;rintro e w2 ⟨he,hw2⟩;rw [hnv] at he;subst he;rw [hw2];clear hw2 w2))
 go_ret
 exact ⟨rfl,H1.out,⟨A,cap2,C1.out⟩,F1.out⟩
theorem does_13n (w0:World) (g:Ad) (p:Nat) (h:Hp) (a:Ca) (c:Cal) (ia ib ic ii:Int) (Q:Option Addr) (nl q:Nat) (w:World) (hH:Hs w0 g w p h) (hC:Cs w0 w a c) (C:Cw w0 g h) (ho:h.over=false) (hs5:c.stk.length≤500) (hp:0≤c.pc∧c.pc≤100000) (hl:1≤c.stk.length) (hk:(nth va0 (c.top 1) 0).kind=3) (hn:¬(nth va0 (c.top 1) 0).n<0) :
  Calls Tryz.prog 58 #[.pointer (some ⟨p,0,none⟩),.pointer (some ⟨a.q,0,none⟩),.agg (inC 13 ia ib ic ii Q nl q)] w fun e w'=>e=.returned (.int .i64 (c.pc+1))∧Hs w0 g w' p h∧Cs w0 w' a (c.cut 1)∧Fq w0.heap.size g.T a w w':=by
 have hbs:=hH.base
 obtain ⟨A,cap,hq0,hl0,HF,HH,HC,d10,HI,HW,n1,n2,n1',n2',k1,k2,hs⟩:=dpre 13 ia ib ic ii Q nl q hH hC C hs5
 have hov:=ho
 clear hH hC C ho
 have hnv:(!h.over)=true:=by rw [hov];rfl
 have hz:((nth va0 (c.top 1) 0).kind==3)=true:=by simpa using hk
 have hd:decide ((nth va0 (c.top 1) 0).n<0)=false:=decide_eq_false hn
 clear hk
 go_enter Tryz.func58,Tryz.ntmps58
 go_wp2_with (first
  | (go_at_call 56;refine (take_yes w0 g HW.out.k p h a c 1 _ A cap HH.out HC.out hov hl hs).mono ?_;intro e w1 hT;obtain ⟨A1,cap1,cap2,rfl,st1,j0,j1,j2,j4,HI1,H1,o12,C1,f1,-⟩:=tkF hT HI HW n1 n2 hov;have F1:Hid (Fq w0.heap.size g.T a w w1):=Fq.trans HF.out.fq f1;clear hT f1;obtain ⟨b,off,rfl,t0,t1,ST1⟩:=topF st1 (by simp [top_length]);clear st1)
  | (go_at_call 55;refine (must_true w0 g p h _ H1.out).mono ?_;rintro e w2 ⟨he,hw2⟩;rw [hnv] at he;subst he;rw [hw2];clear hw2 w2))
 go_ret
 exact ⟨rfl,H1.out,⟨A,cap2,C1.out⟩,F1.out⟩
theorem does_12y (w0:World) (g:Ad) (p:Nat) (h:Hp) (a:Ca) (c:Cal) (ia ib ic ii:Int) (Q:Option Addr) (nl q:Nat) (w:World) (hH:Hs w0 g w p h) (hC:Cs w0 w a c) (C:Cw w0 g h) (ho:h.over=false) (hs5:c.stk.length≤500) (hp:0≤c.pc∧c.pc≤100000) (hl:1≤c.stk.length) (hk:(nth va0 (c.top 1) 0).kind=1) (hr:hldB ib (nth va0 (c.top 1) 0).n=true) :
  Calls Tryz.prog 58 #[.pointer (some ⟨p,0,none⟩),.pointer (some ⟨a.q,0,none⟩),.agg (inC 12 ia ib ic ii Q nl q)] w fun e w'=>e=.returned (.int .i64 ia)∧Hs w0 g w' p h∧Cs w0 w' a (c.cut 1)∧Fq w0.heap.size g.T a w w':=by
 have hbs:=hH.base
 obtain ⟨A,cap,hq0,hl0,HF,HH,HC,d10,HI,HW,n1,n2,n1',n2',k1,k2,hs⟩:=dpre 12 ia ib ic ii Q nl q hH hC C hs5
 have hov:=ho
 clear hH hC C ho
 have hnv:(!h.over)=true:=by rw [hov];rfl
 have HRR:Hid (hldB ib (nth va0 (c.top 1) 0).n=true):=hr
 have hz:((nth va0 (c.top 1) 0).kind==1)=true:=by simpa using hk
 clear hk hr
 go_enter Tryz.func58,Tryz.ntmps58
 go_wp2_with ((go_at_call 56;refine (take_yes w0 g HW.out.k p h a c 1 _ A cap HH.out HC.out hov hl hs).mono ?_;intro e w1 hT;obtain ⟨A1,cap1,cap2,rfl,st1,j0,j1,j2,j4,HI1,H1,o12,C1,f1,-⟩:=tkF hT HI HW n1 n2 hov;have F1:Hid (Fq w0.heap.size g.T a w w1):=Fq.trans HF.out.fq f1;clear hT f1;obtain ⟨b,off,rfl,t0,t1,ST1⟩:=topF st1 (by simp [top_length]);clear st1))
 go_region_held3 (fun w'=>w'.cell? ⟨b,off,none⟩=some (.int .i64 (nth va0 (c.top 1) 0).kind)∧w'.cell? ⟨b,off+1,none⟩=some (.int .i64 (nth va0 (c.top 1) 0).n)∧w'.cell? ⟨w.heap.size,2,none⟩=some (.int .i64 ib))
  (go_keep)
  (first
   | (go_at_call 55;refine (must_true w0 g p h _ (by first|exact H1.out.cf (Cf.drew (Cf.refl _ _ _))|exact H1.out)).mono ?_;rintro e w2 ⟨he,hw2⟩;rw [hnv] at he;subst he;rw [hw2];clear hw2 w2)
   | (go_at_call 111;refine (rholds_any _ _ _).mono ?_;rintro e w3 ⟨he,hw3⟩;rw [HRR.out] at he;subst he;rw [hw3];clear hw3 w3))
 go_wp2
 go_ret
 have FD:Fr w0.heap.size g.T w1 w1.drew:=Fr.drew (Fr.refl _ _ _)
 exact ⟨rfl,H1.out.cf (Cf.drew (Cf.refl _ _ _)),⟨A,cap2,C1.out.fr HW.out.k FD⟩,F1.out.trans FD.fq⟩
theorem does_12n (w0:World) (g:Ad) (p:Nat) (h:Hp) (a:Ca) (c:Cal) (ia ib ic ii:Int) (Q:Option Addr) (nl q:Nat) (w:World) (hH:Hs w0 g w p h) (hC:Cs w0 w a c) (C:Cw w0 g h) (ho:h.over=false) (hs5:c.stk.length≤500) (hp:0≤c.pc∧c.pc≤100000) (hl:1≤c.stk.length) (hk:(nth va0 (c.top 1) 0).kind=1) (hr:hldB ib (nth va0 (c.top 1) 0).n=false) :
  Calls Tryz.prog 58 #[.pointer (some ⟨p,0,none⟩),.pointer (some ⟨a.q,0,none⟩),.agg (inC 12 ia ib ic ii Q nl q)] w fun e w'=>e=.returned (.int .i64 (c.pc+1))∧Hs w0 g w' p h∧Cs w0 w' a (c.cut 1)∧Fq w0.heap.size g.T a w w':=by
 have hbs:=hH.base
 obtain ⟨A,cap,hq0,hl0,HF,HH,HC,d10,HI,HW,n1,n2,n1',n2',k1,k2,hs⟩:=dpre 12 ia ib ic ii Q nl q hH hC C hs5
 have hov:=ho
 clear hH hC C ho
 have hnv:(!h.over)=true:=by rw [hov];rfl
 have HRR:Hid (hldB ib (nth va0 (c.top 1) 0).n=false):=hr
 have hz:((nth va0 (c.top 1) 0).kind==1)=true:=by simpa using hk
 clear hk hr
 go_enter Tryz.func58,Tryz.ntmps58
 go_wp2_with ((go_at_call 56;refine (take_yes w0 g HW.out.k p h a c 1 _ A cap HH.out HC.out hov hl hs).mono ?_;intro e w1 hT;obtain ⟨A1,cap1,cap2,rfl,st1,j0,j1,j2,j4,HI1,H1,o12,C1,f1,-⟩:=tkF hT HI HW n1 n2 hov;have F1:Hid (Fq w0.heap.size g.T a w w1):=Fq.trans HF.out.fq f1;clear hT f1;obtain ⟨b,off,rfl,t0,t1,ST1⟩:=topF st1 (by simp [top_length]);clear st1))
 go_region_held3 (fun w'=>w'.cell? ⟨b,off,none⟩=some (.int .i64 (nth va0 (c.top 1) 0).kind)∧w'.cell? ⟨b,off+1,none⟩=some (.int .i64 (nth va0 (c.top 1) 0).n)∧w'.cell? ⟨w.heap.size,2,none⟩=some (.int .i64 ib))
  (go_keep)
  (first
   | (go_at_call 55;refine (must_true w0 g p h _ (by first|exact H1.out.cf (Cf.drew (Cf.refl _ _ _))|exact H1.out)).mono ?_;rintro e w2 ⟨he,hw2⟩;rw [hnv] at he;subst he;rw [hw2];clear hw2 w2)
   | (go_at_call 111;refine (rholds_any _ _ _).mono ?_;rintro e w3 ⟨he,hw3⟩;rw [HRR.out] at he;subst he;rw [hw3];clear hw3 w3))
 go_wp2
 go_ret
 have FD:Fr w0.heap.size g.T w1 w1.drew:=Fr.drew (Fr.refl _ _ _)
 exact ⟨rfl,H1.out.cf (Cf.drew (Cf.refl _ _ _)),⟨A,cap2,C1.out.fr HW.out.k FD⟩,F1.out.trans FD.fq⟩
theorem does_no12 (w0:World) (g:Ad) (p:Nat) (h:Hp) (a:Ca) (c:Cal) (ia ib ic ii:Int) (Q:Option Addr) (nl q:Nat) (w:World) (hH:Hs w0 g w p h) (hC:Cs w0 w a c) (C:Cw w0 g h) (ho:h.over=false) (hs5:c.stk.length≤500) (hp:0≤c.pc∧c.pc≤100000) (hl:c.stk.length<1) :
  Calls Tryz.prog 58 #[.pointer (some ⟨p,0,none⟩),.pointer (some ⟨a.q,0,none⟩),.agg (inC 12 ia ib ic ii Q nl q)] w fun e w'=>e=.returned (.int .i64 (c.pc+1))∧Hs w0 g w' p (h.fin 6)∧Cs w0 w' a c∧Fq w0.heap.size g.T a w w':=by
 have hbs:=hH.base
 obtain ⟨A,cap,hq0,hl0,HF,HH,HC,d10,HI,HW,n1,n2,n1',n2',k1,k2,hs⟩:=dpre 12 ia ib ic ii Q nl q hH hC C hs5
 have hov:=ho
 clear hH hC C ho
 have HFO:Hid ((h.fin 6).over=true):=by simp [Hp.fin,hov,Hid]
 have HMM:Hid ((h.fin 6).must false=h.fin 6):=by show (h.fin 6).fin 6=h.fin 6;simp [Hp.fin,hov]
 have hz:((nth va0 (List.replicate 1 va0) 0).kind==1)=false:=by rfl
 have HMF:Hid (Hp.mustB (h.fin 6) false=false):=rfl
 go_enter Tryz.func58,Tryz.ntmps58
 go_wp2_with ((go_at_call 56;refine (take_no w0 g HW.out.k p h a c 1 _ A cap HH.out HC.out hov hl (by omega)).mono ?_;intro e w1 hT;obtain ⟨A1,cap1,cap2,rfl,st1,j0,j1,j2,j4,HI1,H1,o12,C1,f1,-⟩:=tkF hT HI HW n1 n2 HFO.out;have F1:Hid (Fq w0.heap.size g.T a w w1):=Fq.trans HF.out.fq f1;clear hT f1;obtain ⟨b,off,rfl,t0,t1,ST1⟩:=topF st1 (by simp [top_length]);clear st1))
 refine wp_region_held_drew (S:=fun w'=>w'.cell? ⟨b,off,none⟩=some (.int .i64 (nth va0 (List.replicate 1 va0) 0).kind)) (by kernel_rfl) ?_ (fun hHeld=>?_)
 ·exact t0
 refine anyH_take (i:=0) (d:=some 36) (v:=?_) rfl rfl (by kernel_rfl) (by kernel_rfl) (by kernel_rfl) (fun _ _ _ h=>h) (by rfl) ?_ hHeld ?_
 rotate_left 1
 ·intro w' hSw;go_simp<;>with_reducible rfl
 try simp only [aS,aN,aT,a0,a1]
 refine anyH_take (i:=1) (d:=some 37) (v:=?_) rfl rfl (by kernel_rfl) (by kernel_rfl) (by kernel_rfl) (fun _ _ _ h=>h) (by rfl) ?_ hHeld ?_
 rotate_left 1
 ·intro w' hSw;go_simp<;>with_reducible rfl
 try simp only [aS,aN,aT,a0,a1]
 refine anyH_take (i:=2) (d:=some 38) (v:=?_) rfl rfl (by kernel_rfl) (by kernel_rfl) (by kernel_rfl) (fun _ _ _ h=>h) (by rfl) ?_ hHeld ?_
 rotate_left 1
 ·intro w' hSw;go_simp<;>with_reducible rfl
 try simp only [aS,aN,aT,a0,a1]
 refine anyH_take (i:=3) (d:=some 39) (v:=?_) rfl rfl (by kernel_rfl) (by kernel_rfl) (by kernel_rfl) (fun _ _ _ h=>h) (by rfl) ?_ hHeld ?_
 rotate_left 1
 ·intro w' hSw;go_simp<;>with_reducible rfl
 try simp only [aS,aN,aT,a0,a1]
 refine anyH_take (i:=4) (d:=some 40) (v:=?_) rfl rfl (by kernel_rfl) (by kernel_rfl) (by kernel_rfl) (fun _ _ _ h=>h) (by rfl) ?_ hHeld ?_
 rotate_left 1
 ·intro w' hSw;go_simp<;>with_reducible rfl
 try simp only [aS,aN,aT,a0,a1]
 refine anyH_take (i:=5) (d:=some 41) (v:=?_) rfl rfl (by kernel_rfl) (by kernel_rfl) (by kernel_rfl) (fun _ _ _ h=>h) (by rfl) ?_ hHeld ?_
 rotate_left 1
 ·intro w' hSw;go_simp<;>with_reducible rfl
 try simp only [aS,aN,aT,a0,a1]
 refine wpAnyH_ready (rs:=[6]) (by kernel_rfl) (by simp) ?_
 refine AllReadyH.cons rfl (fun K hK=>?_) AllReadyH.nil
 go_simp
 go_at_call 55
 refine (must_any w0 g HW.out.k p (h.fin 6) false _ (H1.out.cf (Cf.drew (Cf.refl _ _ _)))).mono ?_
 rintro e w2 ⟨he,h2,f2⟩
 rw [HMF.out] at he
 subst he
 rw [HMM.out] at h2
 have F2:Hid (Fr w0.heap.size g.T w1 w2):=Fr.trans (Fr.drew (Fr.refl _ _ _)) f2
 have u0:w2.cell? ⟨b,off,none⟩=some (.int .i64 (nth va0 (List.replicate 1 va0) 0).kind):=by
  have s2:=ST1.out.fr HW.out.k F2.out
  obtain ⟨b',off',hbo,hc2⟩:=s2.fst (by simp [top_length])
  simp only [Option.some.injEq,Addr.mk.injEq] at hbo
  obtain ⟨rfl,rfl,-⟩:=hbo
  have:=(hc2 0 (by simp [top_length])).1
  rw [Nat.zero_mul,Nat.add_zero] at this
  exact this
 go_wp2_with fail
 refine hK.out _ _ u0 (fun hHeld1=>?_)
 clear hK K
 try simp only [aS,aN,aT,a0,a1]
 refine anyH_take (i:=7) (d:=some 43) (v:=?_) rfl rfl (by kernel_rfl) (by kernel_rfl) (by kernel_rfl) (fun _ _ _ h=>h) (by rfl) ?_ hHeld1 ?_
 rotate_left 1
 ·intro w' hSw;go_simp<;>with_reducible rfl
 try simp only [aS,aN,aT,a0,a1]
 refine anyH_skip (i:=8) (d:=some 44) rfl rfl (by kernel_rfl) (by kernel_rfl) (by kernel_rfl) (fun _ _ _ h=>h) (by rfl) hHeld1 ?_
 try simp only [aS,aN,aT,a0,a1]
 refine anyH_skip (i:=9) (d:=some 45) rfl rfl (by kernel_rfl) (by kernel_rfl) (by kernel_rfl) (fun _ _ _ h=>h) (by rfl) hHeld1 ?_
 try simp only [aS,aN,aT,a0,a1]
 refine anyH_skip (i:=10) (d:=some 46) rfl rfl (by kernel_rfl) (by kernel_rfl) (by kernel_rfl) (fun _ _ _ h=>h) (by rfl) hHeld1 ?_
 try simp only [aS,aN,aT,a0,a1]
 refine anyH_skip (i:=11) (d:=some 47) rfl rfl (by kernel_rfl) (by kernel_rfl) (by kernel_rfl) (fun _ _ _ h=>h) (by rfl) hHeld1 ?_
 try simp only [aS,aN,aT,a0,a1]
 refine anyH_skip (i:=12) (d:=some 48) rfl rfl (by kernel_rfl) (by kernel_rfl) (by kernel_rfl) (fun _ _ _ h=>h) (by rfl) hHeld1 ?_
 try simp only [aS,aN,aT,a0,a1]
 refine anyH_skip (i:=13) (d:=some 49) rfl rfl (by kernel_rfl) (by kernel_rfl) (by kernel_rfl) (fun _ _ _ h=>h) (by rfl) hHeld1 ?_
 try simp only [aS,aN,aT,a0,a1]
 refine anyH_skip (i:=14) (d:=some 50) rfl rfl (by kernel_rfl) (by kernel_rfl) (by kernel_rfl) (fun _ _ _ h=>h) (by rfl) hHeld1 ?_
 try simp only [aS,aN,aT,a0,a1]
 refine anyH_take (i:=15) (d:=some 51) (v:=?_) rfl rfl (by kernel_rfl) (by kernel_rfl) (by kernel_rfl) (fun _ _ _ h=>h) (by rfl) ?_ hHeld1 ?_
 rotate_left 1
 ·intro w' hSw;go_simp<;>with_reducible rfl
 try simp only [aS,aN,aT,a0,a1]
 refine wpAnyH_done (by kernel_rfl) ?_ _
 go_wp2
 go_ret
 exact ⟨rfl,h2,⟨A,cap2,C1.out.fr HW.out.k F2.out⟩,F1.out.trans F2.out.fq⟩
theorem does_12x (w0:World) (g:Ad) (p:Nat) (h:Hp) (a:Ca) (c:Cal) (ia ib ic ii:Int) (Q:Option Addr) (nl q:Nat) (w:World) (hH:Hs w0 g w p h) (hC:Cs w0 w a c) (C:Cw w0 g h) (ho:h.over=false) (hs5:c.stk.length≤500) (hp:0≤c.pc∧c.pc≤100000) (hl:1≤c.stk.length) (hk:¬(nth va0 (c.top 1) 0).kind=1) :
  Calls Tryz.prog 58 #[.pointer (some ⟨p,0,none⟩),.pointer (some ⟨a.q,0,none⟩),.agg (inC 12 ia ib ic ii Q nl q)] w fun e w'=>e=.returned (.int .i64 (c.pc+1))∧Hs w0 g w' p (h.fin 6)∧Cs w0 w' a (c.cut 1)∧Fq w0.heap.size g.T a w w':=by
 have hbs:=hH.base
 obtain ⟨A,cap,hq0,hl0,HF,HH,HC,d10,HI,HW,n1,n2,n1',n2',k1,k2,hs⟩:=dpre 12 ia ib ic ii Q nl q hH hC C hs5
 have hov:=ho
 clear hH hC C ho
 have HMM:Hid (h.must false=h.fin 6):=rfl
 have hz:((nth va0 (c.top 1) 0).kind==1)=false:=by simpa using hk
 clear hk
 have HMF:Hid (Hp.mustB h false=false):=rfl
 go_enter Tryz.func58,Tryz.ntmps58
 go_wp2_with ((go_at_call 56;refine (take_yes w0 g HW.out.k p h a c 1 _ A cap HH.out HC.out hov hl hs).mono ?_;intro e w1 hT;obtain ⟨A1,cap1,cap2,rfl,st1,j0,j1,j2,j4,HI1,H1,o12,C1,f1,-⟩:=tkF hT HI HW n1 n2 hov;have F1:Hid (Fq w0.heap.size g.T a w w1):=Fq.trans HF.out.fq f1;clear hT f1;obtain ⟨b,off,rfl,t0,t1,ST1⟩:=topF st1 (by simp [top_length]);clear st1))
 refine wp_region_held_drew (S:=fun w'=>w'.cell? ⟨b,off,none⟩=some (.int .i64 (nth va0 (c.top 1) 0).kind)) (by kernel_rfl) ?_ (fun hHeld=>?_)
 ·exact t0
 refine anyH_take (i:=0) (d:=some 36) (v:=?_) rfl rfl (by kernel_rfl) (by kernel_rfl) (by kernel_rfl) (fun _ _ _ h=>h) (by rfl) ?_ hHeld ?_
 rotate_left 1
 ·intro w' hSw;go_simp<;>with_reducible rfl
 try simp only [aS,aN,aT,a0,a1]
 refine anyH_take (i:=1) (d:=some 37) (v:=?_) rfl rfl (by kernel_rfl) (by kernel_rfl) (by kernel_rfl) (fun _ _ _ h=>h) (by rfl) ?_ hHeld ?_
 rotate_left 1
 ·intro w' hSw;go_simp<;>with_reducible rfl
 try simp only [aS,aN,aT,a0,a1]
 refine anyH_take (i:=2) (d:=some 38) (v:=?_) rfl rfl (by kernel_rfl) (by kernel_rfl) (by kernel_rfl) (fun _ _ _ h=>h) (by rfl) ?_ hHeld ?_
 rotate_left 1
 ·intro w' hSw;go_simp<;>with_reducible rfl
 try simp only [aS,aN,aT,a0,a1]
 refine anyH_take (i:=3) (d:=some 39) (v:=?_) rfl rfl (by kernel_rfl) (by kernel_rfl) (by kernel_rfl) (fun _ _ _ h=>h) (by rfl) ?_ hHeld ?_
 rotate_left 1
 ·intro w' hSw;go_simp<;>with_reducible rfl
 try simp only [aS,aN,aT,a0,a1]
 refine anyH_take (i:=4) (d:=some 40) (v:=?_) rfl rfl (by kernel_rfl) (by kernel_rfl) (by kernel_rfl) (fun _ _ _ h=>h) (by rfl) ?_ hHeld ?_
 rotate_left 1
 ·intro w' hSw;go_simp<;>with_reducible rfl
 try simp only [aS,aN,aT,a0,a1]
 refine anyH_take (i:=5) (d:=some 41) (v:=?_) rfl rfl (by kernel_rfl) (by kernel_rfl) (by kernel_rfl) (fun _ _ _ h=>h) (by rfl) ?_ hHeld ?_
 rotate_left 1
 ·intro w' hSw;go_simp<;>with_reducible rfl
 try simp only [aS,aN,aT,a0,a1]
 refine wpAnyH_ready (rs:=[6]) (by kernel_rfl) (by simp) ?_
 refine AllReadyH.cons rfl (fun K hK=>?_) AllReadyH.nil
 go_simp
 go_at_call 55
 refine (must_any w0 g HW.out.k p h false _ (H1.out.cf (Cf.drew (Cf.refl _ _ _)))).mono ?_
 rintro e w2 ⟨he,h2,f2⟩
 rw [HMF.out] at he
 subst he
 rw [HMM.out] at h2
 have F2:Hid (Fr w0.heap.size g.T w1 w2):=Fr.trans (Fr.drew (Fr.refl _ _ _)) f2
 have u0:w2.cell? ⟨b,off,none⟩=some (.int .i64 (nth va0 (c.top 1) 0).kind):=by
  have s2:=ST1.out.fr HW.out.k F2.out
  obtain ⟨b',off',hbo,hc2⟩:=s2.fst (by simp [top_length])
  simp only [Option.some.injEq,Addr.mk.injEq] at hbo
  obtain ⟨rfl,rfl,-⟩:=hbo
  have:=(hc2 0 (by simp [top_length])).1
  rw [Nat.zero_mul,Nat.add_zero] at this
  exact this
 go_wp2_with fail
 refine hK.out _ _ u0 (fun hHeld1=>?_)
 clear hK K
 try simp only [aS,aN,aT,a0,a1]
 refine anyH_take (i:=7) (d:=some 43) (v:=?_) rfl rfl (by kernel_rfl) (by kernel_rfl) (by kernel_rfl) (fun _ _ _ h=>h) (by rfl) ?_ hHeld1 ?_
 rotate_left 1
 ·intro w' hSw;go_simp<;>with_reducible rfl
 try simp only [aS,aN,aT,a0,a1]
 refine anyH_skip (i:=8) (d:=some 44) rfl rfl (by kernel_rfl) (by kernel_rfl) (by kernel_rfl) (fun _ _ _ h=>h) (by rfl) hHeld1 ?_
 try simp only [aS,aN,aT,a0,a1]
 refine anyH_skip (i:=9) (d:=some 45) rfl rfl (by kernel_rfl) (by kernel_rfl) (by kernel_rfl) (fun _ _ _ h=>h) (by rfl) hHeld1 ?_
 try simp only [aS,aN,aT,a0,a1]
 refine anyH_skip (i:=10) (d:=some 46) rfl rfl (by kernel_rfl) (by kernel_rfl) (by kernel_rfl) (fun _ _ _ h=>h) (by rfl) hHeld1 ?_
 try simp only [aS,aN,aT,a0,a1]
 refine anyH_skip (i:=11) (d:=some 47) rfl rfl (by kernel_rfl) (by kernel_rfl) (by kernel_rfl) (fun _ _ _ h=>h) (by rfl) hHeld1 ?_
 try simp only [aS,aN,aT,a0,a1]
 refine anyH_skip (i:=12) (d:=some 48) rfl rfl (by kernel_rfl) (by kernel_rfl) (by kernel_rfl) (fun _ _ _ h=>h) (by rfl) hHeld1 ?_
 try simp only [aS,aN,aT,a0,a1]
 refine anyH_skip (i:=13) (d:=some 49) rfl rfl (by kernel_rfl) (by kernel_rfl) (by kernel_rfl) (fun _ _ _ h=>h) (by rfl) hHeld1 ?_
 try simp only [aS,aN,aT,a0,a1]
 refine anyH_skip (i:=14) (d:=some 50) rfl rfl (by kernel_rfl) (by kernel_rfl) (by kernel_rfl) (fun _ _ _ h=>h) (by rfl) hHeld1 ?_
 try simp only [aS,aN,aT,a0,a1]
 refine anyH_take (i:=15) (d:=some 51) (v:=?_) rfl rfl (by kernel_rfl) (by kernel_rfl) (by kernel_rfl) (fun _ _ _ h=>h) (by rfl) ?_ hHeld1 ?_
 rotate_left 1
 ·intro w' hSw;go_simp<;>with_reducible rfl
 try simp only [aS,aN,aT,a0,a1]
 refine wpAnyH_done (by kernel_rfl) ?_ _
 go_wp2
 go_ret
 exact ⟨rfl,h2,⟨A,cap2,C1.out.fr HW.out.k F2.out⟩,F1.out.trans F2.out.fq⟩
theorem does_no23 (w0:World) (g:Ad) (p:Nat) (h:Hp) (a:Ca) (c:Cal) (ia ib ic ii:Int) (Q:Option Addr) (nl q:Nat) (w:World) (hH:Hs w0 g w p h) (hC:Cs w0 w a c) (C:Cw w0 g h) (ho:h.over=false) (hs5:c.stk.length≤500) (hp:0≤c.pc∧c.pc≤100000) (hl:c.stk.length<1) :
  Calls Tryz.prog 58 #[.pointer (some ⟨p,0,none⟩),.pointer (some ⟨a.q,0,none⟩),.agg (inC 23 ia ib ic ii Q nl q)] w fun e w'=>e=.returned (.int .i64 (c.pc+1))∧Hs w0 g w' p (h.fin 6)∧Cs w0 w' a c∧Fq w0.heap.size g.T a w w':=by
 have hbs:=hH.base
 obtain ⟨A,cap,hq0,hl0,HF,HH,HC,d10,HI,HW,n1,n2,n1',n2',k1,k2,hs⟩:=dpre 23 ia ib ic ii Q nl q hH hC C hs5
 have hov:=ho
 clear hH hC C ho
 have HFO:Hid ((h.fin 6).over=true):=by simp [Hp.fin,hov,Hid]
 go_enter Tryz.func58,Tryz.ntmps58
 go_wp2_with ((go_at_call 56;refine (take_no w0 g HW.out.k p h a c 1 _ A cap HH.out HC.out hov hl (by omega)).mono ?_;intro e w1 hT;obtain ⟨A1,cap1,cap2,rfl,st1,j0,j1,j2,j4,HI1,H1,o12,C1,f1,-⟩:=tkF hT HI HW n1 n2 HFO.out;have F1:Hid (Fq w0.heap.size g.T a w w1):=Fq.trans HF.out.fq f1;clear hT f1))
 go_ret
 exact ⟨rfl,H1.out,⟨A,cap2,C1.out⟩,F1.out⟩
theorem does_23 (w0:World) (g:Ad) (p:Nat) (h:Hp) (a:Ca) (c:Cal) (ia ib ic ii:Int) (Q:Option Addr) (nl q:Nat) (w:World) (hH:Hs w0 g w p h) (hC:Cs w0 w a c) (C:Cw w0 g h) (ho:h.over=false) (hs5:c.stk.length≤500) (hp:0≤c.pc∧c.pc≤100000) (hl:1≤c.stk.length) :
  Calls Tryz.prog 58 #[.pointer (some ⟨p,0,none⟩),.pointer (some ⟨a.q,0,none⟩),.agg (inC 23 ia ib ic ii Q nl q)] w fun e w'=>e=.returned (.int .i64 (c.pc+1))∧Hs w0 g w' p ((h.putH (c.cut 1) (nth va0 (c.top 1) 0)).putH ((c.cut 1).put (nth va0 (c.top 1) 0)) (nth va0 (c.top 1) 0))∧Cs w0 w' a (((c.cut 1).put (nth va0 (c.top 1) 0)).put (nth va0 (c.top 1) 0))∧Fq w0.heap.size g.T a w w':=by
 have hbs:=hH.base
 obtain ⟨A,cap,hq0,hl0,HF,HH,HC,d10,HI,HW,n1,n2,n1',n2',k1,k2,hs⟩:=dpre 23 ia ib ic ii Q nl q hH hC C hs5
 have hov:=ho
 clear hH hC C ho
 go_enter Tryz.func58,Tryz.ntmps58
 go_wp2_with (first
  | (go_at_call 56;refine (take_yes w0 g HW.out.k p h a c 1 _ A cap HH.out HC.out hov hl hs).mono ?_;intro e w1 hT;obtain ⟨A1,cap1,cap2,rfl,st1,j0,j1,j2,j4,HI1,H1,o12,C1,f1,-⟩:=tkF hT HI HW n1 n2 hov;have F1:Hid (Fq w0.heap.size g.T a w w1):=Fq.trans HF.out.fq f1;clear hT f1;obtain ⟨b,off,rfl,t0,t1,ST1⟩:=topF st1 (by simp [top_length]);clear st1)
  | (go_at_call 60;refine (cput_any w0 g HW.out.k p h a (c.cut 1) (nth va0 (c.top 1) 0) _ H1.out ⟨A,cap2,C1.out⟩ (by have:=cut_le c 1;omega)).mono ?_;rintro e w2 ⟨rfl,h2,c2,f2⟩;have s2:=ST1.out.fq C1.out HW.out.k f2;obtain ⟨b',off',hbo,hc2⟩:=s2.fst (by simp [top_length]);simp only [Option.some.injEq,Addr.mk.injEq] at hbo;obtain ⟨rfl,rfl,-⟩:=hbo;have u0:=(hc2 0 (by simp [top_length])).1;have u1:=(hc2 0 (by simp [top_length])).2;rw [Nat.zero_mul,Nat.add_zero] at u0 u1;clear hc2 s2;have HP:Hid True:=trivial)
  | (go_at_call 60;refine (cput_any w0 g HW.out.k p (h.putH (c.cut 1) (nth va0 (c.top 1) 0)) a ((c.cut 1).put (nth va0 (c.top 1) 0)) (nth va0 (c.top 1) 0) _ h2 c2 (by have:=cut_le c 1;simp [Cal.put];omega)).mono ?_;rintro e w3 ⟨rfl,h3,c3,f3⟩))
 go_ret
 exact ⟨rfl,h3,c3,(F1.out.trans f2).trans f3⟩
theorem does_4x (w0:World) (g:Ad) (p:Nat) (h:Hp) (a:Ca) (c:Cal) (ia ib ic ii:Int) (Q:Option Addr) (nl q:Nat) (w:World) (hH:Hs w0 g w p h) (hC:Cs w0 w a c) (C:Cw w0 g h) (ho:h.over=false) (hs5:c.stk.length≤500) (hp:0≤c.pc∧c.pc≤100000) (hia:0≤ia∧ia<c.locs.length) (hk:¬(nth va0 c.locs ia.toNat).kind=ib) :
  Calls Tryz.prog 58 #[.pointer (some ⟨p,0,none⟩),.pointer (some ⟨a.q,0,none⟩),.agg (inC 4 ia ib ic ii Q nl q)] w fun e w'=>e=.returned (.int .i64 (c.pc+1))∧Hs w0 g w' p (h.fin 6)∧Cs w0 w' a c∧Fq w0.heap.size g.T a w w':=by
 have hbs:=hH.base
 obtain ⟨A,cap,H0⟩:=hC
 have hq0:a.q<w.heap.size:=lt_some H0.blk
 have hl0:a.lb<w.heap.size:=lt_some H0.loc.blk
 have hbl:Bl w (w.alloc (.cells (inC 4 ia ib ic ii Q nl q) 55)):=(Bl.refl w).alloc _
 have HF:Hid (Fr w0.heap.size g.T w (w.alloc (.cells (inC 4 ia ib ic ii Q nl q) 55))):=Fr.old hbs hbl
 have HH:Hid (Hs w0 g (w.alloc (.cells (inC 4 ia ib ic ii Q nl q) 55)) p h):=hH.old hbl
 have HC:Hid (CalAt w0 (w.alloc (.cells (inC 4 ia ib ic ii Q nl q) 55)) a c A cap):=H0.old hbl
 have d10:=HC.out.cells.c10
 have HI:Hid (InsBox (w.alloc (.cells (inC 4 ia ib ic ii Q nl q) 55)) w.heap.size 4 ia ib ic ii):=⟨_,blk_at rfl⟩
 have HW:Hid (Cw w0 g h):=C
 have n1:w.heap.size≠a.q:=by omega
 have n2:w.heap.size≠a.lb:=by omega
 have n1':a.q≠w.heap.size:=by omega
 have n2':a.lb≠w.heap.size:=by omega
 have k1:a.q<w.heap.size+1:=by omega
 have k2:a.lb<w.heap.size+1:=by omega
 have hs:c.stk.length≤1000:=by omega
 have hov:=ho
 have hH0:=hH
 have hC0:=H0
 clear hH C H0 hbl ho
 obtain ⟨n,rfl⟩:∃n:Nat,ia=n:=⟨ia.toNat,by omega⟩
 have hnl:n<c.locs.length:=by omega
 have hm0:=HC.out.loc.len
 unfold maxLen at hm0
 have c8:=HC.out.cells.c8
 have v0:=HC.out.loc.c0 hnl
 have v1:=HC.out.loc.c1 hnl
 have hn0:(0:Int)≤(n:Int):=by omega
 have hn1:(n:Int)<(c.locs.length:Int):=by omega
 have j1:=HI.out.c1
 have j2:=HI.out.c2
 rw [Int.toNat_natCast] at hk
 have hz:((nth va0 c.locs n).kind==ib)=false:=by simpa using hk
 have HMF:Hid (h.mustB false=false):=rfl
 have HMM:Hid (h.must false=h.fin 6):=rfl
 clear hk
 go_enter Tryz.func58,Tryz.ntmps58
 go_wp2
 go_region_held3 (fun w'=>w'.cell? ⟨a.q,8,none⟩=some (.slice (some ⟨a.lb,0,none⟩) c.locs.length a.lc)∧w'.cell? ⟨w.heap.size,1,none⟩=some (.int .i64 (n:Int))∧w'.cell? ⟨a.lb,n*2,none⟩=some (.int .i64 (nth va0 c.locs n).kind)∧w'.cell? ⟨a.lb,n*2+1,none⟩=some (.int .i64 (nth va0 c.locs n).n))
  (go_keep)
  (fail)
 have hb1:Bl w (((w.alloc (.cells (inC 4 (n:Int) ib ic ii Q nl q) 55))).alloc (vaO (nth va0 c.locs n))).drew:=(((Bl.refl w).alloc _).alloc _).drew
 have HH1:Hid (Hs w0 g (((w.alloc (.cells (inC 4 (n:Int) ib ic ii Q nl q) 55))).alloc (vaO (nth va0 c.locs n))).drew p h):=hH0.old hb1
 have HC1:Hid (CalAt w0 (((w.alloc (.cells (inC 4 (n:Int) ib ic ii Q nl q) 55))).alloc (vaO (nth va0 c.locs n))).drew a c A cap):=hC0.old hb1
 have HF1:Hid (Fr w0.heap.size g.T w (((w.alloc (.cells (inC 4 (n:Int) ib ic ii Q nl q) 55))).alloc (vaO (nth va0 c.locs n))).drew):=Fr.old hbs hb1
 have j1':((((w.alloc (.cells (inC 4 (n:Int) ib ic ii Q nl q) 55))).alloc (vaO (nth va0 c.locs n))).drew).cell? ⟨w.heap.size,2,none⟩=some (.int .i64 ib):=Bl.cell (Bl.drew (Bl.alloc (Bl.refl _) _)) HI.out.c2
 clear hb1
 go_wp2_with (go_at_call 55;refine (must_any w0 g HW.out.k p h false _ HH1.out).mono ?_;rintro e w2 ⟨he,h2,f2⟩;rw [HMF.out] at he;subst he;rw [HMM.out] at h2)
 go_ret
 exact ⟨rfl,h2,⟨A,cap,HC1.out.fr HW.out.k f2⟩,(HF1.out.trans f2).fq⟩
theorem does_4y (w0:World) (g:Ad) (p:Nat) (h:Hp) (a:Ca) (c:Cal) (ia ib ic ii:Int) (Q:Option Addr) (nl q:Nat) (w:World) (hH:Hs w0 g w p h) (hC:Cs w0 w a c) (C:Cw w0 g h) (ho:h.over=false) (hs5:c.stk.length≤500) (hp:0≤c.pc∧c.pc≤100000) (hia:0≤ia∧ia<c.locs.length) (hk:(nth va0 c.locs ia.toNat).kind=ib) :
  Calls Tryz.prog 58 #[.pointer (some ⟨p,0,none⟩),.pointer (some ⟨a.q,0,none⟩),.agg (inC 4 ia ib ic ii Q nl q)] w fun e w'=>e=.returned (.int .i64 (c.pc+1))∧Hs w0 g w' p (h.putH c (nth va0 c.locs ia.toNat))∧Cs w0 w' a (c.put (nth va0 c.locs ia.toNat))∧Fq w0.heap.size g.T a w w':=by
 have hbs:=hH.base
 obtain ⟨A,cap,H0⟩:=hC
 have hq0:a.q<w.heap.size:=lt_some H0.blk
 have hl0:a.lb<w.heap.size:=lt_some H0.loc.blk
 have hbl:Bl w (w.alloc (.cells (inC 4 ia ib ic ii Q nl q) 55)):=(Bl.refl w).alloc _
 have HF:Hid (Fr w0.heap.size g.T w (w.alloc (.cells (inC 4 ia ib ic ii Q nl q) 55))):=Fr.old hbs hbl
 have HH:Hid (Hs w0 g (w.alloc (.cells (inC 4 ia ib ic ii Q nl q) 55)) p h):=hH.old hbl
 have HC:Hid (CalAt w0 (w.alloc (.cells (inC 4 ia ib ic ii Q nl q) 55)) a c A cap):=H0.old hbl
 have d10:=HC.out.cells.c10
 have HI:Hid (InsBox (w.alloc (.cells (inC 4 ia ib ic ii Q nl q) 55)) w.heap.size 4 ia ib ic ii):=⟨_,blk_at rfl⟩
 have HW:Hid (Cw w0 g h):=C
 have n1:w.heap.size≠a.q:=by omega
 have n2:w.heap.size≠a.lb:=by omega
 have n1':a.q≠w.heap.size:=by omega
 have n2':a.lb≠w.heap.size:=by omega
 have k1:a.q<w.heap.size+1:=by omega
 have k2:a.lb<w.heap.size+1:=by omega
 have hs:c.stk.length≤1000:=by omega
 have hov:=ho
 have hH0:=hH
 have hC0:=H0
 clear hH C H0 hbl ho
 obtain ⟨n,rfl⟩:∃n:Nat,ia=n:=⟨ia.toNat,by omega⟩
 have hnl:n<c.locs.length:=by omega
 have hm0:=HC.out.loc.len
 unfold maxLen at hm0
 have c8:=HC.out.cells.c8
 have v0:=HC.out.loc.c0 hnl
 have v1:=HC.out.loc.c1 hnl
 have hn0:(0:Int)≤(n:Int):=by omega
 have hn1:(n:Int)<(c.locs.length:Int):=by omega
 have j1:=HI.out.c1
 have j2:=HI.out.c2
 rw [Int.toNat_natCast] at hk ⊢
 have hz:((nth va0 c.locs n).kind==ib)=true:=by simpa using hk
 have hnv:(!h.over)=true:=by rw [hov];rfl
 clear hk
 go_enter Tryz.func58,Tryz.ntmps58
 go_wp2
 go_region_held3 (fun w'=>w'.cell? ⟨a.q,8,none⟩=some (.slice (some ⟨a.lb,0,none⟩) c.locs.length a.lc)∧w'.cell? ⟨w.heap.size,1,none⟩=some (.int .i64 (n:Int))∧w'.cell? ⟨a.lb,n*2,none⟩=some (.int .i64 (nth va0 c.locs n).kind)∧w'.cell? ⟨a.lb,n*2+1,none⟩=some (.int .i64 (nth va0 c.locs n).n))
  (go_keep)
  (fail)
 have hb1:Bl w (((w.alloc (.cells (inC 4 (n:Int) ib ic ii Q nl q) 55))).alloc (vaO (nth va0 c.locs n))).drew:=(((Bl.refl w).alloc _).alloc _).drew
 have HH1:Hid (Hs w0 g (((w.alloc (.cells (inC 4 (n:Int) ib ic ii Q nl q) 55))).alloc (vaO (nth va0 c.locs n))).drew p h):=hH0.old hb1
 have HC1:Hid (CalAt w0 (((w.alloc (.cells (inC 4 (n:Int) ib ic ii Q nl q) 55))).alloc (vaO (nth va0 c.locs n))).drew a c A cap):=hC0.old hb1
 have HF1:Hid (Fr w0.heap.size g.T w (((w.alloc (.cells (inC 4 (n:Int) ib ic ii Q nl q) 55))).alloc (vaO (nth va0 c.locs n))).drew):=Fr.old hbs hb1
 have j1':((((w.alloc (.cells (inC 4 (n:Int) ib ic ii Q nl q) 55))).alloc (vaO (nth va0 c.locs n))).drew).cell? ⟨w.heap.size,2,none⟩=some (.int .i64 ib):=Bl.cell (Bl.drew (Bl.alloc (Bl.refl _) _)) HI.out.c2
 clear hb1
 go_wp2_with (first
  | (go_at_call 55;refine (must_true w0 g p h _ HH1.out).mono ?_;rintro e w2 ⟨he,hw2⟩;rw [hnv] at he;subst he;rw [hw2];clear hw2 w2)
  | (go_at_call 60;refine (cput_any w0 g HW.out.k p h a c (nth va0 c.locs n) _ HH1.out ⟨A,cap,HC1.out⟩ hs).mono ?_;rintro e w3 ⟨rfl,h3,c3,f3⟩))
 go_ret
 exact ⟨rfl,h3,c3,HF1.out.fq.trans f3⟩
theorem does_no5 (w0:World) (g:Ad) (p:Nat) (h:Hp) (a:Ca) (c:Cal) (ia ib ic ii:Int) (Q:Option Addr) (nl q:Nat) (w:World) (hH:Hs w0 g w p h) (hC:Cs w0 w a c) (C:Cw w0 g h) (ho:h.over=false) (hs5:c.stk.length≤500) (hp:0≤c.pc∧c.pc≤100000) (hl:c.stk.length<1) (hib:ib≠0) :
  Calls Tryz.prog 58 #[.pointer (some ⟨p,0,none⟩),.pointer (some ⟨a.q,0,none⟩),.agg (inC 5 ia ib ic ii Q nl q)] w fun e w'=>e=.returned (.int .i64 (c.pc+1))∧Hs w0 g w' p (h.fin 6)∧Cs w0 w' a c∧Fq w0.heap.size g.T a w w':=by
 have hbs:=hH.base
 obtain ⟨A,cap,hq0,hl0,HF,HH,HC,d10,HI,HW,n1,n2,n1',n2',k1,k2,hs⟩:=dpre 5 ia ib ic ii Q nl q hH hC C hs5
 have hov:=ho
 clear hH hC C ho
 have HFO:Hid ((h.fin 6).over=true):=by simp [Hp.fin,hov,Hid]
 have hz:((0:Int)==ib)=false:=by simpa using Ne.symm hib
 have HMF:Hid (Hp.mustB (h.fin 6) false=false):=rfl
 have HMM:Hid ((h.fin 6).must false=h.fin 6):=by show (h.fin 6).fin 6=h.fin 6;simp [Hp.fin,hov]
 go_enter Tryz.func58,Tryz.ntmps58
 go_wp2_with ((go_at_call 56;refine (take_no w0 g HW.out.k p h a c 1 _ A cap HH.out HC.out hov hl (by omega)).mono ?_;intro e w1 hT;obtain ⟨A1,cap1,cap2,rfl,st1,j0,j1,j2,j4,HI1,H1,o12,C1,f1,-⟩:=tkF hT HI HW n1 n2 HFO.out;have F1:Hid (Fq w0.heap.size g.T a w w1):=Fq.trans HF.out.fq f1;clear hT f1;obtain ⟨b,off,rfl,t0,t1,ST1⟩:=topF st1 (by simp [top_length]);clear st1;have z0:(nth va0 (List.replicate 1 va0) 0).kind=0:=rfl;have z1:(nth va0 (List.replicate 1 va0) 0).n=0:=rfl;rw [z0] at t0;rw [z1] at t1;clear z0 z1))
 go_region_held3 (fun w'=>w'.cell? ⟨b,off,none⟩=some (.int .i64 0)∧w'.cell? ⟨b,off+1,none⟩=some (.int .i64 0)∧w'.cell? ⟨w.heap.size,2,none⟩=some (.int .i64 ib))
  (go_keep)
  (first
   | (go_at_call 55;refine (must_any w0 g HW.out.k p (h.fin 6) false _ (by first|exact H1.out.cf (Cf.drew (Cf.refl _ _ _))|exact H1.out)).mono ?_;rintro e w2 ⟨he,h2,f2⟩;rw [HMF.out] at he;subst he;rw [HMM.out] at h2;have F2:Hid (Fr w0.heap.size g.T w1 w2):=Fr.trans (Fr.drew (Fr.refl _ _ _)) f2;clear f2;obtain ⟨u0,u1,ST2⟩:=stF ST1 HW F2 (by simp [top_length]);obtain ⟨l1,l2,HI2⟩:=inG HI1 HW F2;have z0:(nth va0 (List.replicate 1 va0) 0).kind=0:=rfl;have z1:(nth va0 (List.replicate 1 va0) 0).n=0:=rfl;rw [z0] at u0;rw [z1] at u1;clear z0 z1))
 go_wp2
 go_ret
 exact ⟨rfl,h2,⟨A,cap2,C1.out.fr HW.out.k F2.out⟩,F1.out.trans F2.out.fq⟩
theorem does_5x (w0:World) (g:Ad) (p:Nat) (h:Hp) (a:Ca) (c:Cal) (ia ib ic ii:Int) (Q:Option Addr) (nl q:Nat) (w:World) (hH:Hs w0 g w p h) (hC:Cs w0 w a c) (C:Cw w0 g h) (ho:h.over=false) (hs5:c.stk.length≤500) (hp:0≤c.pc∧c.pc≤100000) (hl:1≤c.stk.length) (hk:¬(nth va0 (c.top 1) 0).kind=ib) :
  Calls Tryz.prog 58 #[.pointer (some ⟨p,0,none⟩),.pointer (some ⟨a.q,0,none⟩),.agg (inC 5 ia ib ic ii Q nl q)] w fun e w'=>e=.returned (.int .i64 (c.pc+1))∧Hs w0 g w' p (h.fin 6)∧Cs w0 w' a (c.cut 1)∧Fq w0.heap.size g.T a w w':=by
 have hbs:=hH.base
 obtain ⟨A,cap,hq0,hl0,HF,HH,HC,d10,HI,HW,n1,n2,n1',n2',k1,k2,hs⟩:=dpre 5 ia ib ic ii Q nl q hH hC C hs5
 have hov:=ho
 clear hH hC C ho
 have hz:((nth va0 (c.top 1) 0).kind==ib)=false:=by simpa using hk
 clear hk
 have HMF:Hid (Hp.mustB h false=false):=rfl
 have HMM:Hid (h.must false=h.fin 6):=rfl
 go_enter Tryz.func58,Tryz.ntmps58
 go_wp2_with ((go_at_call 56;refine (take_yes w0 g HW.out.k p h a c 1 _ A cap HH.out HC.out hov hl hs).mono ?_;intro e w1 hT;obtain ⟨A1,cap1,cap2,rfl,st1,j0,j1,j2,j4,HI1,H1,o12,C1,f1,-⟩:=tkF hT HI HW n1 n2 hov;have F1:Hid (Fq w0.heap.size g.T a w w1):=Fq.trans HF.out.fq f1;clear hT f1;obtain ⟨b,off,rfl,t0,t1,ST1⟩:=topF st1 (by simp [top_length]);clear st1))
 go_region_held3 (fun w'=>w'.cell? ⟨b,off,none⟩=some (.int .i64 (nth va0 (c.top 1) 0).kind)∧w'.cell? ⟨b,off+1,none⟩=some (.int .i64 (nth va0 (c.top 1) 0).n)∧w'.cell? ⟨w.heap.size,2,none⟩=some (.int .i64 ib))
  (go_keep)
  (first
   | (go_at_call 55;refine (must_any w0 g HW.out.k p h false _ (by first|exact H1.out.cf (Cf.drew (Cf.refl _ _ _))|exact H1.out)).mono ?_;rintro e w2 ⟨he,h2,f2⟩;rw [HMF.out] at he;subst he;rw [HMM.out] at h2;have F2:Hid (Fr w0.heap.size g.T w1 w2):=Fr.trans (Fr.drew (Fr.refl _ _ _)) f2;clear f2;obtain ⟨u0,u1,ST2⟩:=stF ST1 HW F2 (by simp [top_length]);obtain ⟨l1,l2,HI2⟩:=inG HI1 HW F2))
 go_wp2
 go_ret
 exact ⟨rfl,h2,⟨A,cap2,C1.out.fr HW.out.k F2.out⟩,F1.out.trans F2.out.fq⟩
theorem does_5y (w0:World) (g:Ad) (p:Nat) (h:Hp) (a:Ca) (c:Cal) (ia ib ic ii:Int) (Q:Option Addr) (nl q:Nat) (w:World) (hH:Hs w0 g w p h) (hC:Cs w0 w a c) (C:Cw w0 g h) (ho:h.over=false) (hs5:c.stk.length≤500) (hp:0≤c.pc∧c.pc≤100000) (hl:1≤c.stk.length) (hk:(nth va0 (c.top 1) 0).kind=ib) (hia:0≤ia∧ia<c.locs.length) (hok:LocOk c.locs) (h2l:ib=2→ia+1<c.locs.length) :
  Calls Tryz.prog 58 #[.pointer (some ⟨p,0,none⟩),.pointer (some ⟨a.q,0,none⟩),.agg (inC 5 ia ib ic ii Q nl q)] w fun e w'=>e=.returned (.int .i64 (c.pc+1))∧Hs w0 g w' p h∧Cs w0 w' a ({ c.cut 1 with locs:=stoP c.locs ia.toNat (nth va0 (c.top 1) 0) }:Cal)∧Fq w0.heap.size g.T a w w':=by
 have hbs:=hH.base
 obtain ⟨A,cap,hq0,hl0,HF,HH,HC,d10,HI,HW,n1,n2,n1',n2',k1,k2,hs⟩:=dpre 5 ia ib ic ii Q nl q hH hC C hs5
 have hov:=ho
 clear hH hC C ho
 have hnv:(!h.over)=true:=by rw [hov];rfl
 obtain ⟨n,rfl⟩:∃n:Nat,ia=n:=⟨ia.toNat,by omega⟩
 have hnl:n<c.locs.length:=by omega
 have hm0:=HC.out.loc.len
 unfold maxLen at hm0
 have hn0:(0:Int)≤(n:Int):=by omega
 have hn1:(n:Int)<(c.locs.length:Int):=by omega
 have HLC:Hid ((c.cut 1).locs=c.locs):=by show (c.cut 1).locs=c.locs;unfold Cal.cut;split<;>rfl
 have HLL:Hid ((c.cut 1).locs.length=c.locs.length):=by show (c.cut 1).locs.length=c.locs.length;unfold Cal.cut;split<;>rfl
 have HOK:Hid (LocOk c.locs):=hok
 have H2L:Hid ((nth va0 (c.top 1) 0).kind=2→n+1<c.locs.length):=fun h=>by have:=h2l (hk▸h);omega
 have hz:((nth va0 (c.top 1) 0).kind==ib)=true:=by simpa using hk
 clear hk hok h2l hia
 go_enter Tryz.func58,Tryz.ntmps58
 go_wp2_with ((go_at_call 56;refine (take_yes w0 g HW.out.k p h a c 1 _ A cap HH.out HC.out hov hl hs).mono ?_;rintro e w1 ⟨A1,cap1,cap2,rfl,st1,h1,c1,f1,-⟩;have i1:=HI.out.fq HW.out.k f1 n1 n2;have j0:=i1.c0;have j1:=i1.c1;have j2:=i1.c2;have j4:=i1.c4;have HI1:Hid (InsBox w1 w.heap.size 5 (n:Int) ib ic ii):=i1;clear i1;have H1:Hid (Hs w0 g w1 p h):=h1;have o12:w1.cell? ⟨p,12,none⟩=some (.bool false):=(by obtain ⟨vo,vx,hv,X⟩:=h1;rw [X.cells.c12,hov]);clear h1;have C1:Hid (CalAt w0 w1 a (c.cut 1) A cap2):=c1;clear c1;have F1:Hid (Fq w0.heap.size g.T a w w1):=Fq.trans HF.out.fq f1;clear f1;obtain ⟨b,off,rfl,t0,t1,ST1⟩:=topF st1 (by simp [top_length]);clear st1;have c8:=C1.out.cells.c8;rw [HLL.out] at c8))
 go_region_held3 (fun w'=>w'.cell? ⟨b,off,none⟩=some (.int .i64 (nth va0 (c.top 1) 0).kind)∧w'.cell? ⟨b,off+1,none⟩=some (.int .i64 (nth va0 (c.top 1) 0).n)∧w'.cell? ⟨w.heap.size,2,none⟩=some (.int .i64 ib)∧w'.cell? ⟨w.heap.size,1,none⟩=some (.int .i64 (n:Int))∧w'.cell? ⟨a.q,8,none⟩=some (.slice (some ⟨a.lb,0,none⟩) c.locs.length a.lc))
  (go_keep)
  (first
   | (go_at_call 55;refine (must_true w0 g p h _ (by first|exact H1.out.cf (Cf.drew (Cf.refl _ _ _))|exact H1.out)).mono ?_;rintro e w2 ⟨he,hw2⟩;rw [hnv] at he;subst he;rw [hw2];clear hw2 w2))
 go_wp2
 have FD:Fr w0.heap.size g.T w1 w1.drew:=Fr.drew (Fr.refl _ _ _)
 have C2:Hid (CalAt w0 w1.drew.drew a (c.cut 1) A cap2):=(C1.out.fr HW.out.k FD).fr (B:=w0.heap.size) HW.out.k (Fr.drew (Fr.refl _ _ _))
 have L2:Hid (LocBox w1.drew.drew a.lb c.locs):=HLC.out▸C2.out.loc
 go_region_held3 (fun w'=>w'.cell? ⟨b,off,none⟩=some (.int .i64 (nth va0 (c.top 1) 0).kind)∧w'.cell? ⟨b,off+1,none⟩=some (.int .i64 (nth va0 (c.top 1) 0).n)∧w'.cell? ⟨w.heap.size,1,none⟩=some (.int .i64 (n:Int))∧w'.cell? ⟨a.q,8,none⟩=some (.slice (some ⟨a.lb,0,none⟩) c.locs.length a.lc))
  (go_keep)
  (first
   | (go_at_call 52;refine (store_any a.lb c.locs n a.lc (nth va0 (c.top 1) 0) _ L2.out HOK.out hnl H2L.out).mono ?_;rintro e w3 ⟨rfl,l3,o3⟩;have S3:=StkAt.keep ST1.out (w':=w3) (fun b cs fz e n=>(o3.block b (lt_some e) n).trans e);obtain ⟨b',off',hbo,hc2⟩:=S3.fst (by simp [top_length]);simp only [Option.some.injEq,Addr.mk.injEq] at hbo;obtain ⟨rfl,rfl,-⟩:=hbo;have u0:=(hc2 0 (by simp [top_length])).1;have u1:=(hc2 0 (by simp [top_length])).2;rw [Nat.zero_mul,Nat.add_zero] at u0 u1;clear hc2 S3;have c3:=C2.out.setLoc o3 l3 (by rw [stoP_length,HLC.out]);have y8:=c3.cells.c8;have hll:(stoP c.locs n (nth va0 (c.top 1) 0)).length=c.locs.length:=stoP_length _ _ _;dsimp only at y8;rw [hll] at y8;clear hll;have C3:Hid (CalAt w0 w3 a { c.cut 1 with locs:=stoP c.locs n (nth va0 (c.top 1) 0) } A cap2):=c3;clear c3;have y1:w3.cell? ⟨w.heap.size,1,none⟩=some (.int .i64 (n:Int)):=(by obtain ⟨uu,hu⟩:=HI1.out.ex;have:=(o3.block w.heap.size (lt_some hu) n2).trans hu;rw [cell_blk this];rfl)))
 go_wp2
 go_ret
 rw [Int.toNat_natCast]
 have hsz:w0.heap.size≤w1.drew.drew.heap.size:=by have:=C1.out.ownl;have:=lt_some L2.out.blk;omega
 exact ⟨rfl,((H1.out.cf (Cf.drew (Cf.refl _ _ _))).cf (Cf.drew (Cf.refl _ _ _))).cf (o3.cf HW.out.k L2.out C1.out.ownl hsz),⟨A,cap2,C3.out⟩,((F1.out.trans FD.fq).trans (Fr.fq (Fr.drew (Fr.refl _ _ _)))).trans (o3.fq C1.out.ownl hsz)⟩
theorem does_no16 (w0:World) (g:Ad) (p:Nat) (h:Hp) (a:Ca) (c:Cal) (ia ib ic ii:Int) (Q:Option Addr) (nl q:Nat) (w:World) (hH:Hs w0 g w p h) (hC:Cs w0 w a c) (C:Cw w0 g h) (ho:h.over=false) (hs5:c.stk.length≤500) (hp:0≤c.pc∧c.pc≤100000) (hl:c.stk.length<2) :
  Calls Tryz.prog 58 #[.pointer (some ⟨p,0,none⟩),.pointer (some ⟨a.q,0,none⟩),.agg (inC 16 ia ib ic ii Q nl q)] w fun e w'=>e=.returned (.int .i64 (c.pc+1))∧Hs w0 g w' p (h.fin 6)∧Cs w0 w' a c∧Fq w0.heap.size g.T a w w':=by
 have hbs:=hH.base
 obtain ⟨A,cap,hq0,hl0,HF,HH,HC,d10,HI,HW,n1,n2,n1',n2',k1,k2,hs⟩:=dpre 16 ia ib ic ii Q nl q hH hC C hs5
 have hov:=ho
 clear hH hC C ho
 have HFO:Hid ((h.fin 6).over=true):=by simp [Hp.fin,hov,Hid]
 go_enter Tryz.func58,Tryz.ntmps58
 go_wp2_with ((go_at_call 56;refine (take_no w0 g HW.out.k p h a c 2 _ A cap HH.out HC.out hov hl (by omega)).mono ?_;intro e w1 hT;obtain ⟨A1,cap1,cap2,rfl,st1,j0,j1,j2,j4,HI1,H1,o12,C1,f1,-⟩:=tkF hT HI HW n1 n2 HFO.out;have F1:Hid (Fq w0.heap.size g.T a w w1):=Fq.trans HF.out.fq f1;clear hT f1))
 go_ret
 exact ⟨rfl,H1.out,⟨A,cap2,C1.out⟩,F1.out⟩
theorem does_16x (w0:World) (g:Ad) (p:Nat) (h:Hp) (a:Ca) (c:Cal) (ia ib ic ii:Int) (Q:Option Addr) (nl q:Nat) (w:World) (hH:Hs w0 g w p h) (hC:Cs w0 w a c) (C:Cw w0 g h) (ho:h.over=false) (hs5:c.stk.length≤500) (hp:0≤c.pc∧c.pc≤100000) (hl:2≤c.stk.length) (hk:¬(nth va0 (c.top 2) 0).kind=3) :
  Calls Tryz.prog 58 #[.pointer (some ⟨p,0,none⟩),.pointer (some ⟨a.q,0,none⟩),.agg (inC 16 ia ib ic ii Q nl q)] w fun e w'=>e=.returned (.int .i64 (c.pc+1))∧Hs w0 g w' p (h.fin 6)∧Cs w0 w' a (c.cut 2)∧Fq w0.heap.size g.T a w w':=by
 have hbs:=hH.base
 obtain ⟨A,cap,hq0,hl0,HF,HH,HC,d10,HI,HW,n1,n2,n1',n2',k1,k2,hs⟩:=dpre 16 ia ib ic ii Q nl q hH hC C hs5
 have hov:=ho
 clear hH hC C ho
 have hz:((nth va0 (c.top 2) 0).kind==3)=false:=by simpa using hk
 clear hk
 have HMF:Hid (Hp.mustB h false=false):=rfl
 have HMM:Hid (h.must false=h.fin 6):=rfl
 go_enter Tryz.func58,Tryz.ntmps58
 go_wp2_with (first
  | (go_at_call 56;refine (take_yes w0 g HW.out.k p h a c 2 _ A cap HH.out HC.out hov hl hs).mono ?_;intro e w1 hT;obtain ⟨A1,cap1,cap2,rfl,st1,j0,j1,j2,j4,HI1,H1,o12,C1,f1,-⟩:=tkF hT HI HW n1 n2 hov;have F1:Hid (Fq w0.heap.size g.T a w w1):=Fq.trans HF.out.fq f1;clear hT f1;obtain ⟨b,off,rfl,t0,t1,t2,t3,ST1⟩:=topG st1 (by simp [top_length]);clear st1)
  | (go_at_call 55;refine (must_any w0 g HW.out.k p h false _ H1.out).mono ?_;rintro e w2 ⟨he,h2,f2⟩;rw [HMF.out] at he;subst he;rw [HMM.out] at h2;skip))
 go_ret
 exact ⟨rfl,h2,⟨A,cap2,C1.out.fr HW.out.k f2⟩,F1.out.trans f2.fq⟩
theorem does_16y (w0:World) (g:Ad) (p:Nat) (h:Hp) (a:Ca) (c:Cal) (ia ib ic ii:Int) (Q:Option Addr) (nl q:Nat) (w:World) (hH:Hs w0 g w p h) (hC:Cs w0 w a c) (C:Cw w0 g h) (ho:h.over=false) (hs5:c.stk.length≤500) (hp:0≤c.pc∧c.pc≤100000) (hl:2≤c.stk.length) (hk:(nth va0 (c.top 2) 0).kind=3) (h3:(nth va0 (c.top 2) 0).kind=3→(nth va0 (c.top 2) 0).n<h.objs.length) (h4:(nth va0 (c.top 2) 1).kind=3→(nth va0 (c.top 2) 1).n<h.objs.length) (hia:0≤ia∧ia<h.file.classes.length) (hib:0≤ib∧ib<(nth cl0 h.file.classes ia.toNat).fields.length) :
  Calls Tryz.prog 58 #[.pointer (some ⟨p,0,none⟩),.pointer (some ⟨a.q,0,none⟩),.agg (inC 16 ia ib ic ii Q nl q)] w fun e w'=>e=.returned (.int .i64 (c.pc+1))∧Hs w0 g w' p (h.put (nth va0 (c.top 2) 0) ia ib (nth va0 (c.top 2) 1))∧Cs w0 w' a (c.cut 2)∧Fq w0.heap.size g.T a w w':=by
 have hbs:=hH.base
 obtain ⟨A,cap,hq0,hl0,HF,HH,HC,d10,HI,HW,n1,n2,n1',n2',k1,k2,hs⟩:=dpre 16 ia ib ic ii Q nl q hH hC C hs5
 have hov:=ho
 clear hH hC C ho
 have hnv:(!h.over)=true:=by rw [hov];rfl
 have H3:Hid ((nth va0 (c.top 2) 0).kind=3→(nth va0 (c.top 2) 0).n<h.objs.length):=h3
 have H4:Hid ((nth va0 (c.top 2) 1).kind=3→(nth va0 (c.top 2) 1).n<h.objs.length):=h4
 obtain ⟨n,rfl⟩:∃n:Nat,ia=n:=⟨ia.toNat,by omega⟩
 obtain ⟨m,rfl⟩:∃m:Nat,ib=m:=⟨ib.toNat,by omega⟩
 rw [Int.toNat_natCast] at hib
 have hn:n<h.file.classes.length:=by omega
 have hmm:m<(nth cl0 h.file.classes n).fields.length:=by omega
 have hz:((nth va0 (c.top 2) 0).kind==3)=true:=by simpa using hk
 clear hk h3 h4 hia hib
 go_enter Tryz.func58,Tryz.ntmps58
 go_wp2_with (first
  | (go_at_call 56;refine (take_yes w0 g HW.out.k p h a c 2 _ A cap HH.out HC.out hov hl hs).mono ?_;rintro e w1 ⟨A1,cap1,cap2,rfl,st1,h1,c1,f1,-⟩;have i1:=HI.out.fq HW.out.k f1 n1 n2;have j0:=i1.c0;have j1:=i1.c1;have j2:=i1.c2;have j4:=i1.c4;have HI1:Hid (InsBox w1 w.heap.size 16 (n:Int) (m:Int) ic ii):=i1;clear i1;have H1:Hid (Hs w0 g w1 p h):=h1;have o12:w1.cell? ⟨p,12,none⟩=some (.bool false):=(by obtain ⟨vo,vx,hv,X⟩:=h1;rw [X.cells.c12,hov]);clear h1;have C1:Hid (CalAt w0 w1 a (c.cut 2) A cap2):=c1;clear c1;have F1:Hid (Fq w0.heap.size g.T a w w1):=Fq.trans HF.out.fq f1;clear f1;obtain ⟨b,off,rfl,t0,t1,t2,t3,ST1⟩:=topG st1 (by simp [top_length]);clear st1)
  | (go_at_call 55;refine (must_true w0 g p h _ H1.out).mono ?_;rintro e w2 ⟨he,hw2⟩;rw [hnv] at he;subst he;rw [hw2];clear hw2 w2))
 go_region_held3 (fun w'=>w'.cell? ⟨b,off,none⟩=some (.int .i64 (nth va0 (c.top 2) 0).kind)∧w'.cell? ⟨b,off+1,none⟩=some (.int .i64 (nth va0 (c.top 2) 0).n)∧w'.cell? ⟨b,off+2,none⟩=some (.int .i64 (nth va0 (c.top 2) 1).kind)∧w'.cell? ⟨b,off+2+1,none⟩=some (.int .i64 (nth va0 (c.top 2) 1).n)∧w'.cell? ⟨w.heap.size,1,none⟩=some (.int .i64 (n:Int))∧w'.cell? ⟨w.heap.size,2,none⟩=some (.int .i64 (m:Int)))
  (go_keep)
  (first
   | (go_at_call 115;refine (put_any w0 g p h (nth va0 (c.top 2) 0) n m (nth va0 (c.top 2) 1) _ (by first|exact H1.out.cf (Cf.drew (Cf.refl _ _ _))|exact H1.out) HW.out H3.out H4.out hn hmm).mono ?_;rintro e w2 ⟨rfl,h2,f2⟩;have F2:Hid (Fr w0.heap.size g.T w1 w2):=Fr.trans (Fr.drew (Fr.refl _ _ _)) f2;clear f2;obtain ⟨u0,u1,u2,u3,ST2⟩:=stG ST1 HW F2 (by simp [top_length]);have i2:=HI1.out.fr HW.out.k F2.out;have l1:=i2.c1;have l2:=i2.c2;have HI2:Hid (InsBox w2 w.heap.size 16 (n:Int) (m:Int) ic ii):=i2;clear i2))
 go_wp2
 go_ret
 exact ⟨rfl,h2,⟨A,cap2,C1.out.fr HW.out.k F2.out⟩,F1.out.trans F2.out.fq⟩
end Go.Proofs.YtgiiapenmjollaaGreat
