import Derived.Test.YtfncnhlihmnkiaaGreatSsan
namespace Go.Proofs.YtfncnhlihmnkiaaGreat
set_option linter.all false
set_option maxHeartbeats 40000000
set_option maxRecDepth 100000
open Go.RowKit
theorem does_no13 (w0:World) (g:Ad) (p:Nat) (h:Hp) (a:Ca) (c:Cal) (ia ib ic ii:Int) (Q:Option Addr) (nl q:Nat) (w:World) (hH:Hs w0 g w p h) (hC:Cs w0 w a c) (C:Cw w0 g h) (ho:h.over=false) (hs5:c.stk.length≤500) (hp:0≤c.pc∧c.pc≤100000) (hl:c.stk.length<1) :
  Calls Tryz.prog 58 #[.pointer (some ⟨p,0,none⟩),.pointer (some ⟨a.q,0,none⟩),.agg (inC 13 ia ib ic ii Q nl q)] w fun e w'=>e=.returned (.int .i64 (c.pc+1))∧Hs w0 g w' p (h.fin 6)∧Cs w0 w' a c∧Fq w0.heap.size g.T a w w':=by
 have hbs:=hH.base
 obtain ⟨A,cap,hq0,hl0,HF,HH,HC,d10,HI,HW,n1,n2,n1',n2',k1,k2,hs⟩:=dpre 13 ia ib ic ii Q nl q hH hC C hs5
 have hov:=ho
 clear hH hC C ho
 have HFO:Hid ((h.fin 6).over=true):=by simp [Hp.fin,hov,Hid]
 have HMF:Hid ((h.fin 6).mustB false=false):=rfl
 have HMM:Hid ((h.fin 6).must false=h.fin 6):=by show (h.fin 6).fin 6=h.fin 6;simp [Hp.fin,hov]
 have hz:((nth va0 (List.replicate 1 va0) 0).kind==3)=false:=by rfl
 go_enter Tryz.func58,Tryz.ntmps58
 go_wp2_with (first
  | (go_at_call 56;refine (take_no w0 g HW.out.k p h a c 1 _ A cap HH.out HC.out hov hl (by omega)).mono ?_;intro e w1 hT;obtain ⟨A1,cap1,cap2,rfl,st1,j0,j1,j2,j4,HI1,H1,o12,C1,f1,-⟩:=tkF hT HI HW n1 n2 HFO.out;have F1:Hid (Fq w0.heap.size g.T a w w1):=Fq.trans HF.out.fq f1;clear hT f1;obtain ⟨b,off,rfl,t0,t1,ST1⟩:=topF st1 (by simp [top_length]);clear st1)
  | (go_at_call 55;refine (must_any w0 g HW.out.k p (h.fin 6) false _ H1.out).mono ?_;rintro e w2 ⟨he,h2,f2⟩;rw [HMF.out] at he;subst he;rw [HMM.out] at h2))
 go_ret
 exact ⟨rfl,h2,⟨A,cap2,C1.out.fr HW.out.k f2⟩,F1.out.trans f2.fq⟩
theorem does_13x (w0:World) (g:Ad) (p:Nat) (h:Hp) (a:Ca) (c:Cal) (ia ib ic ii:Int) (Q:Option Addr) (nl q:Nat) (w:World) (hH:Hs w0 g w p h) (hC:Cs w0 w a c) (C:Cw w0 g h) (ho:h.over=false) (hs5:c.stk.length≤500) (hp:0≤c.pc∧c.pc≤100000) (hl:1≤c.stk.length) (hk:¬(nth va0 (c.top 1) 0).kind=3) :
  Calls Tryz.prog 58 #[.pointer (some ⟨p,0,none⟩),.pointer (some ⟨a.q,0,none⟩),.agg (inC 13 ia ib ic ii Q nl q)] w fun e w'=>e=.returned (.int .i64 (c.pc+1))∧Hs w0 g w' p (h.fin 6)∧Cs w0 w' a (c.cut 1)∧Fq w0.heap.size g.T a w w':=by
 have hbs:=hH.base
 obtain ⟨A,cap,hq0,hl0,HF,HH,HC,d10,HI,HW,n1,n2,n1',n2',k1,k2,hs⟩:=dpre 13 ia ib ic ii Q nl q hH hC C hs5
 have hov:=ho
 clear hH hC C ho
 have HMF:Hid (h.mustB false=false):=rfl
 have HMM:Hid (h.must false=h.fin 6):=rfl
 have hz:((nth va0 (c.top 1) 0).kind==3)=false:=by simpa using hk
 clear hk
 go_enter Tryz.func58,Tryz.ntmps58
 go_wp2_with (first
  | (go_at_call 56;refine (take_yes w0 g HW.out.k p h a c 1 _ A cap HH.out HC.out hov hl hs).mono ?_;intro e w1 hT;obtain ⟨A1,cap1,cap2,rfl,st1,j0,j1,j2,j4,HI1,H1,o12,C1,f1,-⟩:=tkF hT HI HW n1 n2 hov;have F1:Hid (Fq w0.heap.size g.T a w w1):=Fq.trans HF.out.fq f1;clear hT f1;obtain ⟨b,off,rfl,t0,t1,ST1⟩:=topF st1 (by simp [top_length]);clear st1)
  | (go_at_call 55;refine (must_any w0 g HW.out.k p h false _ H1.out).mono ?_;rintro e w2 ⟨he,h2,f2⟩;rw [HMF.out] at he;subst he;rw [HMM.out] at h2))
 go_ret
 exact ⟨rfl,h2,⟨A,cap2,C1.out.fr HW.out.k f2⟩,F1.out.trans f2.fq⟩
theorem does_13y (w0:World) (g:Ad) (p:Nat) (h:Hp) (a:Ca) (c:Cal) (ia ib ic ii:Int) (Q:Option Addr) (nl q:Nat) (w:World) (hH:Hs w0 g w p h) (hC:Cs w0 w a c) (C:Cw w0 g h) (ho:h.over=false) (hs5:c.stk.length≤500) (hp:0≤c.pc∧c.pc≤100000) (hl:1≤c.stk.length) (hk:(nth va0 (c.top 1) 0).kind=3) (hn:(nth va0 (c.top 1) 0).n<0) :
  Calls Tryz.prog 58 #[.pointer (some ⟨p,0,none⟩),.pointer (some ⟨a.q,0,none⟩),.agg (inC 13 ia ib ic ii Q nl q)] w fun e w'=>e=.returned (.int .i64 ia)∧Hs w0 g w' p h∧Cs w0 w' a (c.cut 1)∧Fq w0.heap.size g.T a w w':=by
 have hbs:=hH.base
 obtain ⟨A,cap,hq0,hl0,HF,HH,HC,d10,HI,HW,n1,n2,n1',n2',k1,k2,hs⟩:=dpre 13 ia ib ic ii Q nl q hH hC C hs5
 have hov:=ho
 clear hH hC C ho
 have hnv:(!h.over)=true:=by rw [hov];rfl
 have hz:((nth va0 (c.top 1) 0).kind==3)=true:=by simpa using hk
 have hd:decide ((nth va0 (c.top 1) 0).n<0)=true:=decide_eq_true hn
 clear hk
 go_enter Tryz.func58,Tryz.ntmps58
 go_wp2_with (first
  | (go_at_call 56;refine (take_yes w0 g HW.out.k p h a c 1 _ A cap HH.out HC.out hov hl hs).mono ?_;intro e w1 hT;obtain ⟨A1,cap1,cap2,rfl,st1,j0,j1,j2,j4,HI1,H1,o12,C1,f1,-⟩:=tkF hT HI HW n1 n2 hov;have F1:Hid (Fq w0.heap.size g.T a w w1):=Fq.trans HF.out.fq f1;clear hT f1;obtain ⟨b,off,rfl,t0,t1,ST1⟩:=topF st1 (by simp [top_length]);clear st1)
  | (go_at_call 55;refine (must_true w0 g p h _ H1.out).mono ?_;rintro e w2 ⟨he,hw2⟩;rw [hnv] at he;subst he;rw [hw2];clear hw2 w2))
 go_ret
 exact ⟨rfl,H1.out,⟨A,cap2,C1.out⟩,F1.out⟩
theorem does_13n (w0:World) (g:Ad) (p:Nat) (h:Hp) (a:Ca) (c:Cal) (ia ib ic ii:Int) (Q:Option Addr) (nl q:Nat) (w:World) (hH:Hs w0 g w p h) (hC:Cs w0 w a c) (C:Cw w0 g h) (ho:h.over=false) (hs5:c.stk.length≤500) (hp:0≤c.pc∧c.pc≤100000) (hl:1≤c.stk.length) (hk:(nth va0 (c.top 1) 0).kind=3) (hn:¬(nth va0 (c.top 1) 0).n<0) :
  Calls Tryz.prog 58 #[.pointer (some ⟨p,0,none⟩),.pointer (some ⟨a.q,0,none⟩),.agg (inC 13 ia ib ic ii Q nl q)] w fun e w'=>e=.returned (.int .i64 (c.pc+1))∧Hs w0 g w' p h∧Cs w0 w' a (c.cut 1)∧Fq w0.heap.size g.T a w w':=by
 have hbs:=hH.base
 obtain ⟨A,cap,hq0,hl0,HF,HH,HC,d10,HI,HW,n1,n2,n1',n2',k1,k2,hs⟩:=dpre 13 ia ib ic ii Q nl q hH hC C hs5
 have hov:=ho
 clear hH hC C ho
 have hnv:(!h.over)=true:=by rw [hov];rfl
 have hz:((nth va0 (c.top 1) 0).kind==3)=true:=by simpa using hk
 have hd:decide ((nth va0 (c.top 1) 0).n<0)=false:=decide_eq_false hn
 clear hk
 go_enter Tryz.func58,Tryz.ntmps58
 go_wp2_with (first
  | (go_at_call 56;refine (take_yes w0 g HW.out.k p h a c 1 _ A cap HH.out HC.out hov hl hs).mono ?_;intro e w1 hT;obtain ⟨A1,cap1,cap2,rfl,st1,j0,j1,j2,j4,HI1,H1,o12,C1,f1,-⟩:=tkF hT HI HW n1 n2 hov;have F1:Hid (Fq w0.heap.size g.T a w w1):=Fq.trans HF.out.fq f1;clear hT f1;obtain ⟨b,off,rfl,t0,t1,ST1⟩:=topF st1 (by simp [top_length]);clear st1)
  | (go_at_call 55;refine (must_true w0 g p h _ H1.out).mono ?_;rintro e w2 ⟨he,hw2⟩;rw [hnv] at he;subst he;rw [hw2];clear hw2 w2))
 go_ret
 exact ⟨rfl,H1.out,⟨A,cap2,C1.out⟩,F1.out⟩
theorem does_12y (w0:World) (g:Ad) (p:Nat) (h:Hp) (a:Ca) (c:Cal) (ia ib ic ii:Int) (Q:Option Addr) (nl q:Nat) (w:World) (hH:Hs w0 g w p h) (hC:Cs w0 w a c) (C:Cw w0 g h) (ho:h.over=false) (hs5:c.stk.length≤500) (hp:0≤c.pc∧c.pc≤100000) (hl:1≤c.stk.length) (hk:(nth va0 (c.top 1) 0).kind=1) (hr:hldB ib (nth va0 (c.top 1) 0).n=true) :
  Calls Tryz.prog 58 #[.pointer (some ⟨p,0,none⟩),.pointer (some ⟨a.q,0,none⟩),.agg (inC 12 ia ib ic ii Q nl q)] w fun e w'=>e=.returned (.int .i64 ia)∧Hs w0 g w' p h∧Cs w0 w' a (c.cut 1)∧Fq w0.heap.size g.T a w w':=by
 have hbs:=hH.base
 obtain ⟨A,cap,hq0,hl0,HF,HH,HC,d10,HI,HW,n1,n2,n1',n2',k1,k2,hs⟩:=dpre 12 ia ib ic ii Q nl q hH hC C hs5
 have hov:=ho
 clear hH hC C ho
 have hnv:(!h.over)=true:=by rw [hov];rfl
 have HRR:Hid (hldB ib (nth va0 (c.top 1) 0).n=true):=hr
 have hz:((nth va0 (c.top 1) 0).kind==1)=true:=by simpa using hk
 clear hk hr
 go_enter Tryz.func58,Tryz.ntmps58
 go_wp2_with ((go_at_call 56;refine (take_yes w0 g HW.out.k p h a c 1 _ A cap HH.out HC.out hov hl hs).mono ?_;intro e w1 hT;obtain ⟨A1,cap1,cap2,rfl,st1,j0,j1,j2,j4,HI1,H1,o12,C1,f1,-⟩:=tkF hT HI HW n1 n2 hov;have F1:Hid (Fq w0.heap.size g.T a w w1):=Fq.trans HF.out.fq f1;clear hT f1;obtain ⟨b,off,rfl,t0,t1,ST1⟩:=topF st1 (by simp [top_length]);clear st1))
 go_region_held3 (fun w'=>w'.cell? ⟨b,off,none⟩=some (.int .i64 (nth va0 (c.top 1) 0).kind)∧w'.cell? ⟨b,off+1,none⟩=some (.int .i64 (nth va0 (c.top 1) 0).n)∧w'.cell? ⟨w.heap.size,2,none⟩=some (.int .i64 ib))
  (go_keep)
  (first
   | (go_at_call 55;refine (must_true w0 g p h _ (by first|exact H1.out.cf (Cf.drew (Cf.refl _ _ _))|exact H1.out)).mono ?_;rintro e w2 ⟨he,hw2⟩;rw [hnv] at he;subst he;rw [hw2];clear hw2 w2)
   | (go_at_call 111;refine (rholds_any _ _ _).mono ?_;rintro e w3 ⟨he,hw3⟩;rw [HRR.out] at he;subst he;rw [hw3];clear hw3 w3))
 go_wp2
 go_ret
 have FD:Fr w0.heap.size g.T w1 w1.drew:=Fr.drew (Fr.refl _ _ _)
 exact ⟨rfl,H1.out.cf (Cf.drew (Cf.refl _ _ _)),⟨A,cap2,C1.out.fr HW.out.k FD⟩,F1.out.trans FD.fq⟩
theorem does_12n (w0:World) (g:Ad) (p:Nat) (h:Hp) (a:Ca) (c:Cal) (ia ib ic ii:Int) (Q:Option Addr) (nl q:Nat) (w:World) (hH:Hs w0 g w p h) (hC:Cs w0 w a c) (C:Cw w0 g h) (ho:h.over=false) (hs5:c.stk.length≤500) (hp:0≤c.pc∧c.pc≤100000) (hl:1≤c.stk.length) (hk:(nth va0 (c.top 1) 0).kind=1) (hr:hldB ib (nth va0 (c.top 1) 0).n=false) :
  Calls Tryz.prog 58 #[.pointer (some ⟨p,0,none⟩),.pointer (some ⟨a.q,0,none⟩),.agg (inC 12 ia ib ic ii Q nl q)] w fun e w'=>e=.returned (.int .i64 (c.pc+1))∧Hs w0 g w' p h∧Cs w0 w' a (c.cut 1)∧Fq w0.heap.size g.T a w w':=by
 have hbs:=hH.base
 obtain ⟨A,cap,hq0,hl0,HF,HH,HC,d10,HI,HW,n1,n2,n1',n2',k1,k2,hs⟩:=dpre 12 ia ib ic ii Q nl q hH hC C hs5
 have hov:=ho
 clear hH hC C ho
 have hnv:(!h.over)=true:=by rw [hov];rfl
 have HRR:Hid (hldB ib (nth va0 (c.top 1) 0).n=false):=hr
 have hz:((nth va0 (c.top 1) 0).kind==1)=true:=by simpa using hk
 clear hk hr
 go_enter Tryz.func58,Tryz.ntmps58
 go_wp2_with ((go_at_call 56;refine (take_yes w0 g HW.out.k p h a c 1 _ A cap HH.out HC.out hov hl hs).mono ?_;intro e w1 hT;obtain ⟨A1,cap1,cap2,rfl,st1,j0,j1,j2,j4,HI1,H1,o12,C1,f1,-⟩:=tkF hT HI HW n1 n2 hov;have F1:Hid (Fq w0.heap.size g.T a w w1):=Fq.trans HF.out.fq f1;clear hT f1;obtain ⟨b,off,rfl,t0,t1,ST1⟩:=topF st1 (by simp [top_length]);clear st1))
 go_region_held3 (fun w'=>w'.cell? ⟨b,off,none⟩=some (.int .i64 (nth va0 (c.top 1) 0).kind)∧w'.cell? ⟨b,off+1,none⟩=some (.int .i64 (nth va0 (c.top 1) 0).n)∧w'.cell? ⟨w.heap.size,2,none⟩=some (.int .i64 ib))
  (go_keep)
  (first
   | (go_at_call 55;refine (must_true w0 g p h _ (by first|exact H1.out.cf (Cf.drew (Cf.refl _ _ _))|exact H1.out)).mono ?_;rintro e w2 ⟨he,hw2⟩;rw [hnv] at he;subst he;rw [hw2];clear hw2 w2)
   | (go_at_call 111;refine (rholds_any _ _ _).mono ?_;rintro e w3 ⟨he,hw3⟩;rw [HRR.out] at he;subst he;rw [hw3];clear hw3 w3))
 go_wp2
 go_ret
 have FD:Fr w0.heap.size g.T w1 w1.drew:=Fr.drew (Fr.refl _ _ _)
 exact ⟨rfl,H1.out.cf (Cf.drew (Cf.refl _ _ _)),⟨A,cap2,C1.out.fr HW.out.k FD⟩,F1.out.trans FD.fq⟩
theorem does_no12 (w0:World) (g:Ad) (p:Nat) (h:Hp) (a:Ca) (c:Cal) (ia ib ic ii:Int) (Q:Option Addr) (nl q:Nat) (w:World) (hH:Hs w0 g w p h) (hC:Cs w0 w a c) (C:Cw w0 g h) (ho:h.over=false) (hs5:c.stk.length≤500) (hp:0≤c.pc∧c.pc≤100000) (hl:c.stk.length<1) :
  Calls Tryz.prog 58 #[.pointer (some ⟨p,0,none⟩),.pointer (some ⟨a.q,0,none⟩),.agg (inC 12 ia ib ic ii Q nl q)] w fun e w'=>e=.returned (.int .i64 (c.pc+1))∧Hs w0 g w' p (h.fin 6)∧Cs w0 w' a c∧Fq w0.heap.size g.T a w w':=by
 have hbs:=hH.base
 obtain ⟨A,cap,hq0,hl0,HF,HH,HC,d10,HI,HW,n1,n2,n1',n2',k1,k2,hs⟩:=dpre 12 ia ib ic ii Q nl q hH hC C hs5
 have hov:=ho
 clear hH hC C ho
 have HFO:Hid ((h.fin 6).over=true):=by simp [Hp.fin,hov,Hid]
 have HMM:Hid ((h.fin 6).must false=h.fin 6):=by show (h.fin 6).fin 6=h.fin 6;simp [Hp.fin,hov]
 have hz:((nth va0 (List.replicate 1 va0) 0).kind==1)=false:=by rfl
 have HMF:Hid (Hp.mustB (h.fin 6) false=false):=rfl
 go_enter Tryz.func58,Tryz.ntmps58
 go_wp2_with ((go_at_call 56;refine (take_no w0 g HW.out.k p h a c 1 _ A cap HH.out HC.out hov hl (by omega)).mono ?_;intro e w1 hT;obtain ⟨A1,cap1,cap2,rfl,st1,j0,j1,j2,j4,HI1,H1,o12,C1,f1,-⟩:=tkF hT HI HW n1 n2 HFO.out;have F1:Hid (Fq w0.heap.size g.T a w w1):=Fq.trans HF.out.fq f1;clear hT f1;obtain ⟨b,off,rfl,t0,t1,ST1⟩:=topF st1 (by simp [top_length]);clear st1))
 refine wp_region_held_drew (S:=fun w'=>w'.cell? ⟨b,off,none⟩=some (.int .i64 (nth va0 (List.replicate 1 va0) 0).kind)) (by kernel_rfl) ?_ (fun hHeld=>?_)
 ·exact t0
 refine anyH_take (i:=0) (d:=some 36) (v:=?_) rfl rfl (by kernel_rfl) (by kernel_rfl) (by kernel_rfl) (fun _ _ _ h=>h) (by rfl) ?_ hHeld ?_
 rotate_left 1
 ·intro w' hSw;go_simp<;>with_reducible rfl
 try simp only [aS,aN,aT,a0,a1]
 refine anyH_take (i:=1) (d:=some 37) (v:=?_) rfl rfl (by kernel_rfl) (by kernel_rfl) (by kernel_rfl) (fun _ _ _ h=>h) (by rfl) ?_ hHeld ?_
 rotate_left 1
 ·intro w' hSw;go_simp<;>with_reducible rfl
 try simp only [aS,aN,aT,a0,a1]
 refine anyH_take (i:=2) (d:=some 38) (v:=?_) rfl rfl (by kernel_rfl) (by kernel_rfl) (by kernel_rfl) (fun _ _ _ h=>h) (by rfl) ?_ hHeld ?_
 rotate_left 1
 ·intro w' hSw;go_simp<;>with_reducible rfl
 try simp only [aS,aN,aT,a0,a1]
 refine anyH_take (i:=3) (d:=some 39) (v:=?_) rfl rfl (by kernel_rfl) (by kernel_rfl) (by kernel_rfl) (fun _ _ _ h=>h) (by rfl) ?_ hHeld ?_
 rotate_left 1
 ·intro w' hSw;go_simp<;>with_reducible rfl
 try simp only [aS,aN,aT,a0,a1]
 refine anyH_take (i:=4) (d:=some 40) (v:=?_) rfl rfl (by kernel_rfl) (by kernel_rfl) (by kernel_rfl) (fun _ _ _ h=>h) (by rfl) ?_ hHeld ?_
 rotate_left 1
 ·intro w' hSw;go_simp<;>with_reducible rfl
 try simp only [aS,aN,aT,a0,a1]
 refine anyH_take (i:=5) (d:=some 41) (v:=?_) rfl rfl (by kernel_rfl) (by kernel_rfl) (by kernel_rfl) (fun _ _ _ h=>h) (by rfl) ?_ hHeld ?_
 rotate_left 1
 ·intro w' hSw;go_simp<;>with_reducible rfl
 try simp only [aS,aN,aT,a0,a1]
 refine wpAnyH_ready (rs:=[6]) (by kernel_rfl) (by simp) ?_
 refine AllReadyH.cons rfl (fun K hK=>?_) AllReadyH.nil
 go_simp
 go_at_call 55
 refine (must_any w0 g HW.out.k p (h.fin 6) false _ (H1.out.cf (Cf.drew (Cf.refl _ _ _)))).mono ?_
 rintro e w2 ⟨he,h2,f2⟩
 rw [HMF.out] at he
 subst he
 rw [HMM.out] at h2
 have F2:Hid (Fr w0.heap.size g.T w1 w2):=Fr.trans (Fr.drew (Fr.refl _ _ _)) f2
 have u0:w2.cell? ⟨b,off,none⟩=some (.int .i64 (nth va0 (List.replicate 1 va0) 0).kind):=by
  have s2:=ST1.out.fr HW.out.k F2.out
  obtain ⟨b',off',hbo,hc2⟩:=s2.fst (by simp [top_length])
  simp only [Option.some.injEq,Addr.mk.injEq] at hbo
  obtain ⟨rfl,rfl,-⟩:=hbo
  have:=(hc2 0 (by simp [top_length])).1
  rw [Nat.zero_mul,Nat.add_zero] at this
  exact this
 go_wp2_with fail
 refine hK.out _ _ u0 (fun hHeld1=>?_)
 clear hK K
 try simp only [aS,aN,aT,a0,a1]
 refine anyH_take (i:=7) (d:=some 43) (v:=?_) rfl rfl (by kernel_rfl) (by kernel_rfl) (by kernel_rfl) (fun _ _ _ h=>h) (by rfl) ?_ hHeld1 ?_
 rotate_left 1
 ·intro w' hSw;go_simp<;>with_reducible rfl
 try simp only [aS,aN,aT,a0,a1]
 refine anyH_skip (i:=8) (d:=some 44) rfl rfl (by kernel_rfl) (by kernel_rfl) (by kernel_rfl) (fun _ _ _ h=>h) (by rfl) hHeld1 ?_
 try simp only [aS,aN,aT,a0,a1]
 refine anyH_skip (i:=9) (d:=some 45) rfl rfl (by kernel_rfl) (by kernel_rfl) (by kernel_rfl) (fun _ _ _ h=>h) (by rfl) hHeld1 ?_
 try simp only [aS,aN,aT,a0,a1]
 refine anyH_skip (i:=10) (d:=some 46) rfl rfl (by kernel_rfl) (by kernel_rfl) (by kernel_rfl) (fun _ _ _ h=>h) (by rfl) hHeld1 ?_
 try simp only [aS,aN,aT,a0,a1]
 refine anyH_skip (i:=11) (d:=some 47) rfl rfl (by kernel_rfl) (by kernel_rfl) (by kernel_rfl) (fun _ _ _ h=>h) (by rfl) hHeld1 ?_
 try simp only [aS,aN,aT,a0,a1]
 refine anyH_skip (i:=12) (d:=some 48) rfl rfl (by kernel_rfl) (by kernel_rfl) (by kernel_rfl) (fun _ _ _ h=>h) (by rfl) hHeld1 ?_
 try simp only [aS,aN,aT,a0,a1]
 refine anyH_skip (i:=13) (d:=some 49) rfl rfl (by kernel_rfl) (by kernel_rfl) (by kernel_rfl) (fun _ _ _ h=>h) (by rfl) hHeld1 ?_
 try simp only [aS,aN,aT,a0,a1]
 refine anyH_skip (i:=14) (d:=some 50) rfl rfl (by kernel_rfl) (by kernel_rfl) (by kernel_rfl) (fun _ _ _ h=>h) (by rfl) hHeld1 ?_
 try simp only [aS,aN,aT,a0,a1]
 refine anyH_take (i:=15) (d:=some 51) (v:=?_) rfl rfl (by kernel_rfl) (by kernel_rfl) (by kernel_rfl) (fun _ _ _ h=>h) (by rfl) ?_ hHeld1 ?_
 rotate_left 1
 ·intro w' hSw;go_simp<;>with_reducible rfl
 try simp only [aS,aN,aT,a0,a1]
 refine wpAnyH_done (by kernel_rfl) ?_ _
 go_wp2
 go_ret
 exact ⟨rfl,h2,⟨A,cap2,C1.out.fr HW.out.k F2.out⟩,F1.out.trans F2.out.fq⟩
theorem does_12x (w0:World) (g:Ad) (p:Nat) (h:Hp) (a:Ca) (c:Cal) (ia ib ic ii:Int) (Q:Option Addr) (nl q:Nat) (w:World) (hH:Hs w0 g w p h) (hC:Cs w0 w a c) (C:Cw w0 g h) (ho:h.over=false) (hs5:c.stk.length≤500) (hp:0≤c.pc∧c.pc≤100000) (hl:1≤c.stk.length) (hk:¬(nth va0 (c.top 1) 0).kind=1) :
  Calls Tryz.prog 58 #[.pointer (some ⟨p,0,none⟩),.pointer (some ⟨a.q,0,none⟩),.agg (inC 12 ia ib ic ii Q nl q)] w fun e w'=>e=.returned (.int .i64 (c.pc+1))∧Hs w0 g w' p (h.fin 6)∧Cs w0 w' a (c.cut 1)∧Fq w0.heap.size g.T a w w':=by
 have hbs:=hH.base
 obtain ⟨A,cap,hq0,hl0,HF,HH,HC,d10,HI,HW,n1,n2,n1',n2',k1,k2,hs⟩:=dpre 12 ia ib ic ii Q nl q hH hC C hs5
 have hov:=ho
 clear hH hC C ho
 have HMM:Hid (h.must false=h.fin 6):=rfl
 have hz:((nth va0 (c.top 1) 0).kind==1)=false:=by simpa using hk
 clear hk
 have HMF:Hid (Hp.mustB h false=false):=rfl
 go_enter Tryz.func58,Tryz.ntmps58
 go_wp2_with ((go_at_call 56;refine (take_yes w0 g HW.out.k p h a c 1 _ A cap HH.out HC.out hov hl hs).mono ?_;intro e w1 hT;obtain ⟨A1,cap1,cap2,rfl,st1,j0,j1,j2,j4,HI1,H1,o12,C1,f1,-⟩:=tkF hT HI HW n1 n2 hov;have F1:Hid (Fq w0.heap.size g.T a w w1):=Fq.trans HF.out.fq f1;clear hT f1;obtain ⟨b,off,rfl,t0,t1,ST1⟩:=topF st1 (by simp [top_length]);clear st1))
 refine wp_region_held_drew (S:=fun w'=>w'.cell? ⟨b,off,none⟩=some (.int .i64 (nth va0 (c.top 1) 0).kind)) (by kernel_rfl) ?_ (fun hHeld=>?_)
 ·exact t0
 refine anyH_take (i:=0) (d:=some 36) (v:=?_) rfl rfl (by kernel_rfl) (by kernel_rfl) (by kernel_rfl) (fun _ _ _ h=>h) (by rfl) ?_ hHeld ?_
 rotate_left 1
 ·intro w' hSw;go_simp<;>with_reducible rfl
 try simp only [aS,aN,aT,a0,a1]
 refine anyH_take (i:=1) (d:=some 37) (v:=?_) rfl rfl (by kernel_rfl) (by kernel_rfl) (by kernel_rfl) (fun _ _ _ h=>h) (by rfl) ?_ hHeld ?_
 rotate_left 1
 ·intro w' hSw;go_simp<;>with_reducible rfl
 try simp only [aS,aN,aT,a0,a1]
 refine anyH_take (i:=2) (d:=some 38) (v:=?_) rfl rfl (by kernel_rfl) (by kernel_rfl) (by kernel_rfl) (fun _ _ _ h=>h) (by rfl) ?_ hHeld ?_
 rotate_left 1
 ·intro w' hSw;go_simp<;>with_reducible rfl
 try simp only [aS,aN,aT,a0,a1]
 refine anyH_take (i:=3) (d:=some 39) (v:=?_) rfl rfl (by kernel_rfl) (by kernel_rfl) (by kernel_rfl) (fun _ _ _ h=>h) (by rfl) ?_ hHeld ?_
 rotate_left 1
 ·intro w' hSw;go_simp<;>with_reducible rfl
 try simp only [aS,aN,aT,a0,a1]
 refine anyH_take (i:=4) (d:=some 40) (v:=?_) rfl rfl (by kernel_rfl) (by kernel_rfl) (by kernel_rfl) (fun _ _ _ h=>h) (by rfl) ?_ hHeld ?_
 rotate_left 1
 ·intro w' hSw;go_simp<;>with_reducible rfl
 try simp only [aS,aN,aT,a0,a1]
 refine anyH_take (i:=5) (d:=some 41) (v:=?_) rfl rfl (by kernel_rfl) (by kernel_rfl) (by kernel_rfl) (fun _ _ _ h=>h) (by rfl) ?_ hHeld ?_
 rotate_left 1
 ·intro w' hSw;go_simp<;>with_reducible rfl
 try simp only [aS,aN,aT,a0,a1]
 refine wpAnyH_ready (rs:=[6]) (by kernel_rfl) (by simp) ?_
 refine AllReadyH.cons rfl (fun K hK=>?_) AllReadyH.nil
 go_simp
 go_at_call 55
 refine (must_any w0 g HW.out.k p h false _ (H1.out.cf (Cf.drew (Cf.refl _ _ _)))).mono ?_
 rintro e w2 ⟨he,h2,f2⟩
 rw [HMF.out] at he
 subst he
 rw [HMM.out] at h2
 have F2:Hid (Fr w0.heap.size g.T w1 w2):=Fr.trans (Fr.drew (Fr.refl _ _ _)) f2
 have u0:w2.cell? ⟨b,off,none⟩=some (.int .i64 (nth va0 (c.top 1) 0).kind):=by
  have s2:=ST1.out.fr HW.out.k F2.out
  obtain ⟨b',off',hbo,hc2⟩:=s2.fst (by simp [top_length])
  simp only [Option.some.injEq,Addr.mk.injEq] at hbo
  obtain ⟨rfl,rfl,-⟩:=hbo
  have:=(hc2 0 (by simp [top_length])).1
  rw [Nat.zero_mul,Nat.add_zero] at this
  exact this
 go_wp2_with fail
 refine hK.out _ _ u0 (fun hHeld1=>?_)
 clear hK K
 try simp only [aS,aN,aT,a0,a1]
 refine anyH_take (i:=7) (d:=some 43) (v:=?_) rfl rfl (by kernel_rfl) (by kernel_rfl) (by kernel_rfl) (fun _ _ _ h=>h) (by rfl) ?_ hHeld1 ?_
 rotate_left 1
 ·intro w' hSw;go_simp<;>with_reducible rfl
 try simp only [aS,aN,aT,a0,a1]
 refine anyH_skip (i:=8) (d:=some 44) rfl rfl (by kernel_rfl) (by kernel_rfl) (by kernel_rfl) (fun _ _ _ h=>h) (by rfl) hHeld1 ?_
 try simp only [aS,aN,aT,a0,a1]
 refine anyH_skip (i:=9) (d:=some 45) rfl rfl (by kernel_rfl) (by kernel_rfl) (by kernel_rfl) (fun _ _ _ h=>h) (by rfl) hHeld1 ?_
 try simp only [aS,aN,aT,a0,a1]
 refine anyH_skip (i:=10) (d:=some 46) rfl rfl (by kernel_rfl) (by kernel_rfl) (by kernel_rfl) (fun _ _ _ h=>h) (by rfl) hHeld1 ?_
 try simp only [aS,aN,aT,a0,a1]
 refine anyH_skip (i:=11) (d:=some 47) rfl rfl (by kernel_rfl) (by kernel_rfl) (by kernel_rfl) (fun _ _ _ h=>h) (by rfl) hHeld1 ?_
 try simp only [aS,aN,aT,a0,a1]
 refine anyH_skip (i:=12) (d:=some 48) rfl rfl (by kernel_rfl) (by kernel_rfl) (by kernel_rfl) (fun _ _ _ h=>h) (by rfl) hHeld1 ?_
 try simp only [aS,aN,aT,a0,a1]
 refine anyH_skip (i:=13) (d:=some 49) rfl rfl (by kernel_rfl) (by kernel_rfl) (by kernel_rfl) (fun _ _ _ h=>h) (by rfl) hHeld1 ?_
 try simp only [aS,aN,aT,a0,a1]
 refine anyH_skip (i:=14) (d:=some 50) rfl rfl (by kernel_rfl) (by kernel_rfl) (by kernel_rfl) (fun _ _ _ h=>h) (by rfl) hHeld1 ?_
 try simp only [aS,aN,aT,a0,a1]
 refine anyH_take (i:=15) (d:=some 51) (v:=?_) rfl rfl (by kernel_rfl) (by kernel_rfl) (by kernel_rfl) (fun _ _ _ h=>h) (by rfl) ?_ hHeld1 ?_
 rotate_left 1
 ·intro w' hSw;go_simp<;>with_reducible rfl
 try simp only [aS,aN,aT,a0,a1]
 refine wpAnyH_done (by kernel_rfl) ?_ _
 go_wp2
 go_ret
 exact ⟨rfl,h2,⟨A,cap2,C1.out.fr HW.out.k F2.out⟩,F1.out.trans F2.out.fq⟩
theorem does_no23 (w0:World) (g:Ad) (p:Nat) (h:Hp) (a:Ca) (c:Cal) (ia ib ic ii:Int) (Q:Option Addr) (nl q:Nat) (w:World) (hH:Hs w0 g w p h) (hC:Cs w0 w a c) (C:Cw w0 g h) (ho:h.over=false) (hs5:c.stk.length≤500) (hp:0≤c.pc∧c.pc≤100000) (hl:c.stk.length<1) :
  Calls Tryz.prog 58 #[.pointer (some ⟨p,0,none⟩),.pointer (some ⟨a.q,0,none⟩),.agg (inC 23 ia ib ic ii Q nl q)] w fun e w'=>e=.returned (.int .i64 (c.pc+1))∧Hs w0 g w' p (h.fin 6)∧Cs w0 w' a c∧Fq w0.heap.size g.T a w w':=by
 have hbs:=hH.base
 obtain ⟨A,cap,hq0,hl0,HF,HH,HC,d10,HI,HW,n1,n2,n1',n2',k1,k2,hs⟩:=dpre 23 ia ib ic ii Q nl q hH hC C hs5
 have hov:=ho
 clear hH hC C ho
 have HFO:Hid ((h.fin 6).over=true):=by simp [Hp.fin,hov,Hid]
 go_enter Tryz.func58,Tryz.ntmps58
 go_wp2_with ((go_at_call 56;refine (take_no w0 g HW.out.k p h a c 1 _ A cap HH.out HC.out hov hl (by omega)).mono ?_;intro e w1 hT;obtain ⟨A1,cap1,cap2,rfl,st1,j0,j1,j2,j4,HI1,H1,o12,C1,f1,-⟩:=tkF hT HI HW n1 n2 HFO.out;have F1:Hid (Fq w0.heap.size g.T a w w1):=Fq.trans HF.out.fq f1;clear hT f1))
 go_ret
 exact ⟨rfl,H1.out,⟨A,cap2,C1.out⟩,F1.out⟩
theorem does_23 (w0:World) (g:Ad) (p:Nat) (h:Hp) (a:Ca) (c:Cal) (ia ib ic ii:Int) (Q:Option Addr) (nl q:Nat) (w:World) (hH:Hs w0 g w p h) (hC:Cs w0 w a c) (C:Cw w0 g h) (ho:h.over=false) (hs5:c.stk.length≤500) (hp:0≤c.pc∧c.pc≤100000) (hl:1≤c.stk.length) :
  Calls Tryz.prog 58 #[.pointer (some ⟨p,0,none⟩),.pointer (some ⟨a.q,0,none⟩),.agg (inC 23 ia ib ic ii Q nl q)] w fun e w'=>e=.returned (.int .i64 (c.pc+1))∧Hs w0 g w' p ((h.putH (c.cut 1) (nth va0 (c.top 1) 0)).putH ((c.cut 1).put (nth va0 (c.top 1) 0)) (nth va0 (c.top 1) 0))∧Cs w0 w' a (((c.cut 1).put (nth va0 (c.top 1) 0)).put (nth va0 (c.top 1) 0))∧Fq w0.heap.size g.T a w w':=by
 have hbs:=hH.base
 obtain ⟨A,cap,hq0,hl0,HF,HH,HC,d10,HI,HW,n1,n2,n1',n2',k1,k2,hs⟩:=dpre 23 ia ib ic ii Q nl q hH hC C hs5
 have hov:=ho
 clear hH hC C ho
 go_enter Tryz.func58,Tryz.ntmps58
 go_wp2_with (first
  | (go_at_call 56;refine (take_yes w0 g HW.out.k p h a c 1 _ A cap HH.out HC.out hov hl hs).mono ?_;intro e w1 hT;obtain ⟨A1,cap1,cap2,rfl,st1,j0,j1,j2,j4,HI1,H1,o12,C1,f1,-⟩:=tkF hT HI HW n1 n2 hov;have F1:Hid (Fq w0.heap.size g.T a w w1):=Fq.trans HF.out.fq f1;clear hT f1;obtain ⟨b,off,rfl,t0,t1,ST1⟩:=topF st1 (by simp [top_length]);clear st1)
  | (go_at_call 60;refine (cput_any w0 g HW.out.k p h a (c.cut 1) (nth va0 (c.top 1) 0) _ H1.out ⟨A,cap2,C1.out⟩ (by have:=cut_le c 1;omega)).mono ?_;rintro e w2 ⟨rfl,h2,c2,f2⟩;have s2:=ST1.out.fq C1.out HW.out.k f2;obtain ⟨b',off',hbo,hc2⟩:=s2.fst (by simp [top_length]);simp only [Option.some.injEq,Addr.mk.injEq] at hbo;obtain ⟨rfl,rfl,-⟩:=hbo;have u0:=(hc2 0 (by simp [top_length])).1;have u1:=(hc2 0 (by simp [top_length])).2;rw [Nat.zero_mul,Nat.add_zero] at u0 u1;clear hc2 s2;have HP:Hid True:=trivial)
  | (go_at_call 60;refine (cput_any w0 g HW.out.k p (h.putH (c.cut 1) (nth va0 (c.top 1) 0)) a ((c.cut 1).put (nth va0 (c.top 1) 0)) (nth va0 (c.top 1) 0) _ h2 c2 (by have:=cut_le c 1;simp [Cal.put];omega)).mono ?_;rintro e w3 ⟨rfl,h3,c3,f3⟩))
 go_ret
 exact ⟨rfl,h3,c3,(F1.out.trans f2).trans f3⟩
end Go.Proofs.YtfncnhlihmnkiaaGreat
