import Derived.Test.YtimjmdfokicbkaaGreatSrak
namespace Go.Proofs.YtimjmdfokicbkaaGreat
set_option linter.unusedVariables false
set_option linter.unusedSimpArgs false
set_option maxHeartbeats 40000000
set_option maxRecDepth 100000
open Go.RowKit
open Go.Value (int)
open Go.IntKind (i64)
section
variable (w0:World) (g:Ad) (p:Nat) (h:Hp) (a:Ca) (c:aH) (ia ib ic ii:Int) (Q:Option Addr) (nl q:Nat) (w:World)
theorem BZ (hH:Hs w0 g w p h) (hC:Cs w0 w a c) (C:Cw w0 g h) (ho:h.over=false) (eP:c.stk.length≤500) (hp:0≤c.pc/\c.pc≤100000) (hl:c.stk.length<1) :
  Calls Tryz.prog 59 #[.pointer (some ⟨p,0,none⟩),.pointer (some ⟨a.q,0,none⟩),.agg (cO 13 ia ib ic ii Q nl q)] w fun e w'=>e=.returned (int i64 (c.pc+1))/\Hs w0 g w' p (h.fin 6)/\Cs w0 w' a c/\Fq w0.heap.size g.T a w w':=by
 have cH:=hH.base
 obtain ⟨A,cap,cU,gJ,HF,HH,HC,d10,HI,HW,n1,n2,qI,qJ,k1,k2,hs⟩:=dpre 13 ia ib ic ii Q nl q hH hC C eP
 have bq:=ho
 clear hH hC C ho
 have l7:Hid ((h.fin 6).over=true):=by simp [Hp.fin,bq,Hid]
 have wS:Hid ((h.fin 6).mustB false=false):=rfl
 have sD:Hid ((h.fin 6).must false=h.fin 6):=by show (h.fin 6).fin 6=h.fin 6;simp [Hp.fin,bq]
 have hz:((nth ag (List.replicate 1 ag) 0).kind==3)=false:=by rfl
 go_enter Tryz.func59,Tryz.ntmps59
 go_wp2_with (first
  | (go_at_call 57;refine (dK w0 g HW.out.k p h a c 1 _ A cap HH.out HC.out bq hl (by omega)).mono ?_;intro e w1 hT;obtain ⟨A1,cV,bc,rfl,cu,j0,j1,j2,j4,gI,H1,iC,C1,f1,-⟩:=kr hT HI HW n1 n2 l7.out;have F1:Hid (Fq w0.heap.size g.T a w w1):=Fq.trans HF.out.fq f1;clear hT f1;obtain ⟨b,off,rfl,t0,t1,jS⟩:=kl cu (by simp [aC]);clear cu)
  | (go_at_call 56;refine (bj w0 g HW.out.k p (h.fin 6) false _ H1.out).mono ?_;rintro e w2 ⟨he,h2,f2⟩;rw [wS.out] at he;subst he;rw [sD.out] at h2))
 go_ret
 exact ⟨rfl,h2,⟨A,bc,C1.out.fr HW.out.k f2⟩,F1.out.trans f2.fq⟩
theorem EZ (hH:Hs w0 g w p h) (hC:Cs w0 w a c) (C:Cw w0 g h) (ho:h.over=false) (eP:c.stk.length≤500) (hp:0≤c.pc/\c.pc≤100000) (hl:1≤c.stk.length) (hk:¬(nth ag (c.top 1) 0).kind=3) :
  Calls Tryz.prog 59 #[.pointer (some ⟨p,0,none⟩),.pointer (some ⟨a.q,0,none⟩),.agg (cO 13 ia ib ic ii Q nl q)] w fun e w'=>e=.returned (int i64 (c.pc+1))/\Hs w0 g w' p (h.fin 6)/\Cs w0 w' a (c.cut 1)/\Fq w0.heap.size g.T a w w':=by
 have cH:=hH.base
 obtain ⟨A,cap,cU,gJ,HF,HH,HC,d10,HI,HW,n1,n2,qI,qJ,k1,k2,hs⟩:=dpre 13 ia ib ic ii Q nl q hH hC C eP
 have bq:=ho
 clear hH hC C ho
 have wS:Hid (h.mustB false=false):=rfl
 have sD:Hid (h.must false=h.fin 6):=rfl
 have hz:((nth ag (c.top 1) 0).kind==3)=false:=by simpa using hk
 clear hk
 go_enter Tryz.func59,Tryz.ntmps59
 go_wp2_with (first
  | (go_at_call 57;refine (bO w0 g HW.out.k p h a c 1 _ A cap HH.out HC.out bq hl hs).mono ?_;intro e w1 hT;obtain ⟨A1,cV,bc,rfl,cu,j0,j1,j2,j4,gI,H1,iC,C1,f1,-⟩:=kr hT HI HW n1 n2 bq;have F1:Hid (Fq w0.heap.size g.T a w w1):=Fq.trans HF.out.fq f1;clear hT f1;obtain ⟨b,off,rfl,t0,t1,jS⟩:=kl cu (by simp [aC]);clear cu)
  | (go_at_call 56;refine (bj w0 g HW.out.k p h false _ H1.out).mono ?_;rintro e w2 ⟨he,h2,f2⟩;rw [wS.out] at he;subst he;rw [sD.out] at h2))
 go_ret
 exact ⟨rfl,h2,⟨A,bc,C1.out.fr HW.out.k f2⟩,F1.out.trans f2.fq⟩
theorem Eu (hH:Hs w0 g w p h) (hC:Cs w0 w a c) (C:Cw w0 g h) (ho:h.over=false) (eP:c.stk.length≤500) (hp:0≤c.pc/\c.pc≤100000) (hl:1≤c.stk.length) (hk:(nth ag (c.top 1) 0).kind=3) (hn:(nth ag (c.top 1) 0).n<0) :
  Calls Tryz.prog 59 #[.pointer (some ⟨p,0,none⟩),.pointer (some ⟨a.q,0,none⟩),.agg (cO 13 ia ib ic ii Q nl q)] w fun e w'=>e=.returned (int i64 ia)/\Hs w0 g w' p h/\Cs w0 w' a (c.cut 1)/\Fq w0.heap.size g.T a w w':=by
 have cH:=hH.base
 obtain ⟨A,cap,cU,gJ,HF,HH,HC,d10,HI,HW,n1,n2,qI,qJ,k1,k2,hs⟩:=dpre 13 ia ib ic ii Q nl q hH hC C eP
 have bq:=ho
 clear hH hC C ho
 have qH:(!h.over)=true:=by rw [bq];rfl
 have hz:((nth ag (c.top 1) 0).kind==3)=true:=by simpa using hk
 have hd:decide ((nth ag (c.top 1) 0).n<0)=true:=decide_eq_true hn
 clear hk
 go_enter Tryz.func59,Tryz.ntmps59
 go_wp2_with (first
  | (go_at_call 57;refine (bO w0 g HW.out.k p h a c 1 _ A cap HH.out HC.out bq hl hs).mono ?_;intro e w1 hT;obtain ⟨A1,cV,bc,rfl,cu,j0,j1,j2,j4,gI,H1,iC,C1,f1,-⟩:=kr hT HI HW n1 n2 bq;have F1:Hid (Fq w0.heap.size g.T a w w1):=Fq.trans HF.out.fq f1;clear hT f1;obtain ⟨b,off,rfl,t0,t1,jS⟩:=kl cu (by simp [aC]);clear cu)
  | (go_at_call 56;refine (dh w0 g p h _ H1.out).mono ?_;rintro e w2 ⟨he,eK⟩;rw [qH] at he;subst he;rw [eK];clear eK w2))
 go_ret
 exact ⟨rfl,H1.out,⟨A,bc,C1.out⟩,F1.out⟩
theorem E0 (hH:Hs w0 g w p h) (hC:Cs w0 w a c) (C:Cw w0 g h) (ho:h.over=false) (eP:c.stk.length≤500) (hp:0≤c.pc/\c.pc≤100000) (hl:1≤c.stk.length) (hk:(nth ag (c.top 1) 0).kind=3) (hn:¬(nth ag (c.top 1) 0).n<0) :
  Calls Tryz.prog 59 #[.pointer (some ⟨p,0,none⟩),.pointer (some ⟨a.q,0,none⟩),.agg (cO 13 ia ib ic ii Q nl q)] w fun e w'=>e=.returned (int i64 (c.pc+1))/\Hs w0 g w' p h/\Cs w0 w' a (c.cut 1)/\Fq w0.heap.size g.T a w w':=by
 have cH:=hH.base
 obtain ⟨A,cap,cU,gJ,HF,HH,HC,d10,HI,HW,n1,n2,qI,qJ,k1,k2,hs⟩:=dpre 13 ia ib ic ii Q nl q hH hC C eP
 have bq:=ho
 clear hH hC C ho
 have qH:(!h.over)=true:=by rw [bq];rfl
 have hz:((nth ag (c.top 1) 0).kind==3)=true:=by simpa using hk
 have hd:decide ((nth ag (c.top 1) 0).n<0)=false:=decide_eq_false hn
 clear hk
 go_enter Tryz.func59,Tryz.ntmps59
 go_wp2_with (first
  | (go_at_call 57;refine (bO w0 g HW.out.k p h a c 1 _ A cap HH.out HC.out bq hl hs).mono ?_;intro e w1 hT;obtain ⟨A1,cV,bc,rfl,cu,j0,j1,j2,j4,gI,H1,iC,C1,f1,-⟩:=kr hT HI HW n1 n2 bq;have F1:Hid (Fq w0.heap.size g.T a w w1):=Fq.trans HF.out.fq f1;clear hT f1;obtain ⟨b,off,rfl,t0,t1,jS⟩:=kl cu (by simp [aC]);clear cu)
  | (go_at_call 56;refine (dh w0 g p h _ H1.out).mono ?_;rintro e w2 ⟨he,eK⟩;rw [qH] at he;subst he;rw [eK];clear eK w2))
 go_ret
 exact ⟨rfl,H1.out,⟨A,bc,C1.out⟩,F1.out⟩
theorem E1 (hH:Hs w0 g w p h) (hC:Cs w0 w a c) (C:Cw w0 g h) (ho:h.over=false) (eP:c.stk.length≤500) (hp:0≤c.pc/\c.pc≤100000) (hl:1≤c.stk.length) (hk:(nth ag (c.top 1) 0).kind=1) (hr:jb ib (nth ag (c.top 1) 0).n=true) :
  Calls Tryz.prog 59 #[.pointer (some ⟨p,0,none⟩),.pointer (some ⟨a.q,0,none⟩),.agg (cO 12 ia ib ic ii Q nl q)] w fun e w'=>e=.returned (int i64 ia)/\Hs w0 g w' p h/\Cs w0 w' a (c.cut 1)/\Fq w0.heap.size g.T a w w':=by
 have cH:=hH.base
 obtain ⟨A,cap,cU,gJ,HF,HH,HC,d10,HI,HW,n1,n2,qI,qJ,k1,k2,hs⟩:=dpre 12 ia ib ic ii Q nl q hH hC C eP
 have bq:=ho
 clear hH hC C ho
 have qH:(!h.over)=true:=by rw [bq];rfl
 have E2:Hid (jb ib (nth ag (c.top 1) 0).n=true):=hr
 have hz:((nth ag (c.top 1) 0).kind==1)=true:=by simpa using hk
 clear hk hr
 go_enter Tryz.func59,Tryz.ntmps59
 go_wp2_with ((go_at_call 57;refine (bO w0 g HW.out.k p h a c 1 _ A cap HH.out HC.out bq hl hs).mono ?_;intro e w1 hT;obtain ⟨A1,cV,bc,rfl,cu,j0,j1,j2,j4,gI,H1,iC,C1,f1,-⟩:=kr hT HI HW n1 n2 bq;have F1:Hid (Fq w0.heap.size g.T a w w1):=Fq.trans HF.out.fq f1;clear hT f1;obtain ⟨b,off,rfl,t0,t1,jS⟩:=kl cu (by simp [aC]);clear cu))
 go_region_held3 (fun w'=>w'.cell? ⟨b,off,none⟩=some (int i64 (nth ag (c.top 1) 0).kind)/\w'.cell? ⟨b,off+1,none⟩=some (int i64 (nth ag (c.top 1) 0).n)/\w'.cell? ⟨w.heap.size,2,none⟩=some (int i64 ib))
  (go_keep)
  (first
   | (go_at_call 56;refine (dh w0 g p h _ (by first|exact H1.out.cf (Cf.drew (Cf.refl _ _ _))|exact H1.out)).mono ?_;rintro e w2 ⟨he,eK⟩;rw [qH] at he;subst he;rw [eK];clear eK w2)
   | (go_at_call 113;refine (pV _ _ _).mono ?_;rintro e w3 ⟨he,lF⟩;rw [E2.out] at he;subst he;rw [lF];clear lF w3))
 go_wp2
 go_ret
 have FD:Fr w0.heap.size g.T w1 w1.drew:=Fr.drew (Fr.refl _ _ _)
 exact ⟨rfl,H1.out.cf (Cf.drew (Cf.refl _ _ _)),⟨A,bc,C1.out.fr HW.out.k FD⟩,F1.out.trans FD.fq⟩
theorem E3 (hH:Hs w0 g w p h) (hC:Cs w0 w a c) (C:Cw w0 g h) (ho:h.over=false) (eP:c.stk.length≤500) (hp:0≤c.pc/\c.pc≤100000) (hl:1≤c.stk.length) (hk:(nth ag (c.top 1) 0).kind=1) (hr:jb ib (nth ag (c.top 1) 0).n=false) :
  Calls Tryz.prog 59 #[.pointer (some ⟨p,0,none⟩),.pointer (some ⟨a.q,0,none⟩),.agg (cO 12 ia ib ic ii Q nl q)] w fun e w'=>e=.returned (int i64 (c.pc+1))/\Hs w0 g w' p h/\Cs w0 w' a (c.cut 1)/\Fq w0.heap.size g.T a w w':=by
 have cH:=hH.base
 obtain ⟨A,cap,cU,gJ,HF,HH,HC,d10,HI,HW,n1,n2,qI,qJ,k1,k2,hs⟩:=dpre 12 ia ib ic ii Q nl q hH hC C eP
 have bq:=ho
 clear hH hC C ho
 have qH:(!h.over)=true:=by rw [bq];rfl
 have E2:Hid (jb ib (nth ag (c.top 1) 0).n=false):=hr
 have hz:((nth ag (c.top 1) 0).kind==1)=true:=by simpa using hk
 clear hk hr
 go_enter Tryz.func59,Tryz.ntmps59
 go_wp2_with ((go_at_call 57;refine (bO w0 g HW.out.k p h a c 1 _ A cap HH.out HC.out bq hl hs).mono ?_;intro e w1 hT;obtain ⟨A1,cV,bc,rfl,cu,j0,j1,j2,j4,gI,H1,iC,C1,f1,-⟩:=kr hT HI HW n1 n2 bq;have F1:Hid (Fq w0.heap.size g.T a w w1):=Fq.trans HF.out.fq f1;clear hT f1;obtain ⟨b,off,rfl,t0,t1,jS⟩:=kl cu (by simp [aC]);clear cu))
 go_region_held3 (fun w'=>w'.cell? ⟨b,off,none⟩=some (int i64 (nth ag (c.top 1) 0).kind)/\w'.cell? ⟨b,off+1,none⟩=some (int i64 (nth ag (c.top 1) 0).n)/\w'.cell? ⟨w.heap.size,2,none⟩=some (int i64 ib))
  (go_keep)
  (first
   | (go_at_call 56;refine (dh w0 g p h _ (by first|exact H1.out.cf (Cf.drew (Cf.refl _ _ _))|exact H1.out)).mono ?_;rintro e w2 ⟨he,eK⟩;rw [qH] at he;subst he;rw [eK];clear eK w2)
   | (go_at_call 113;refine (pV _ _ _).mono ?_;rintro e w3 ⟨he,lF⟩;rw [E2.out] at he;subst he;rw [lF];clear lF w3))
 go_wp2
 go_ret
 have FD:Fr w0.heap.size g.T w1 w1.drew:=Fr.drew (Fr.refl _ _ _)
 exact ⟨rfl,H1.out.cf (Cf.drew (Cf.refl _ _ _)),⟨A,bc,C1.out.fr HW.out.k FD⟩,F1.out.trans FD.fq⟩
theorem Bu (hH:Hs w0 g w p h) (hC:Cs w0 w a c) (C:Cw w0 g h) (ho:h.over=false) (eP:c.stk.length≤500) (hp:0≤c.pc/\c.pc≤100000) (hl:c.stk.length<1) :
  Calls Tryz.prog 59 #[.pointer (some ⟨p,0,none⟩),.pointer (some ⟨a.q,0,none⟩),.agg (cO 12 ia ib ic ii Q nl q)] w fun e w'=>e=.returned (int i64 (c.pc+1))/\Hs w0 g w' p (h.fin 6)/\Cs w0 w' a c/\Fq w0.heap.size g.T a w w':=by
 have cH:=hH.base
 obtain ⟨A,cap,cU,gJ,HF,HH,HC,d10,HI,HW,n1,n2,qI,qJ,k1,k2,hs⟩:=dpre 12 ia ib ic ii Q nl q hH hC C eP
 have bq:=ho
 clear hH hC C ho
 have l7:Hid ((h.fin 6).over=true):=by simp [Hp.fin,bq,Hid]
 have sD:Hid ((h.fin 6).must false=h.fin 6):=by show (h.fin 6).fin 6=h.fin 6;simp [Hp.fin,bq]
 have hz:((nth ag (List.replicate 1 ag) 0).kind==1)=false:=by rfl
 have wS:Hid (Hp.mustB (h.fin 6) false=false):=rfl
 go_enter Tryz.func59,Tryz.ntmps59
 go_wp2_with ((go_at_call 57;refine (dK w0 g HW.out.k p h a c 1 _ A cap HH.out HC.out bq hl (by omega)).mono ?_;intro e w1 hT;obtain ⟨A1,cV,bc,rfl,cu,j0,j1,j2,j4,gI,H1,iC,C1,f1,-⟩:=kr hT HI HW n1 n2 l7.out;have F1:Hid (Fq w0.heap.size g.T a w w1):=Fq.trans HF.out.fq f1;clear hT f1;obtain ⟨b,off,rfl,t0,t1,jS⟩:=kl cu (by simp [aC]);clear cu))
 refine wp_region_held_drew (S:=fun w'=>w'.cell? ⟨b,off,none⟩=some (int i64 (nth ag (List.replicate 1 ag) 0).kind)) (by kernel_rfl) ?_ (fun hHeld=>?_)
 ·exact t0
 refine bR (i:=0) (d:=some 36) (v:=?_) rfl rfl (by kernel_rfl) (by kernel_rfl) (by kernel_rfl) (fun _ _ _ h=>h) (by rfl) ?_ hHeld ?_
 rotate_left 1
 ·intro w' hSw;go_simp<;>with_reducible rfl
 try simp only [aS,aN,aT,a0,a1]
 refine bR (i:=1) (d:=some 37) (v:=?_) rfl rfl (by kernel_rfl) (by kernel_rfl) (by kernel_rfl) (fun _ _ _ h=>h) (by rfl) ?_ hHeld ?_
 rotate_left 1
 ·intro w' hSw;go_simp<;>with_reducible rfl
 try simp only [aS,aN,aT,a0,a1]
 refine bR (i:=2) (d:=some 38) (v:=?_) rfl rfl (by kernel_rfl) (by kernel_rfl) (by kernel_rfl) (fun _ _ _ h=>h) (by rfl) ?_ hHeld ?_
 rotate_left 1
 ·intro w' hSw;go_simp<;>with_reducible rfl
 try simp only [aS,aN,aT,a0,a1]
 refine bR (i:=3) (d:=some 39) (v:=?_) rfl rfl (by kernel_rfl) (by kernel_rfl) (by kernel_rfl) (fun _ _ _ h=>h) (by rfl) ?_ hHeld ?_
 rotate_left 1
 ·intro w' hSw;go_simp<;>with_reducible rfl
 try simp only [aS,aN,aT,a0,a1]
 refine bR (i:=4) (d:=some 40) (v:=?_) rfl rfl (by kernel_rfl) (by kernel_rfl) (by kernel_rfl) (fun _ _ _ h=>h) (by rfl) ?_ hHeld ?_
 rotate_left 1
 ·intro w' hSw;go_simp<;>with_reducible rfl
 try simp only [aS,aN,aT,a0,a1]
 refine bR (i:=5) (d:=some 41) (v:=?_) rfl rfl (by kernel_rfl) (by kernel_rfl) (by kernel_rfl) (fun _ _ _ h=>h) (by rfl) ?_ hHeld ?_
 rotate_left 1
 ·intro w' hSw;go_simp<;>with_reducible rfl
 try simp only [aS,aN,aT,a0,a1]
 refine wpAnyH_ready (rs:=[6]) (by kernel_rfl) (by simp) ?_
 refine AllReadyH.cons rfl (fun K hK=>?_) AllReadyH.nil
 go_simp
 go_at_call 56
 refine (bj w0 g HW.out.k p (h.fin 6) false _ (H1.out.cf (Cf.drew (Cf.refl _ _ _)))).mono ?_
 rintro e w2 ⟨he,h2,f2⟩
 rw [wS.out] at he
 subst he
 rw [sD.out] at h2
 have F2:Hid (Fr w0.heap.size g.T w1 w2):=Fr.trans (Fr.drew (Fr.refl _ _ _)) f2
 have u0:w2.cell? ⟨b,off,none⟩=some (int i64 (nth ag (List.replicate 1 ag) 0).kind):=by
  have s2:=jS.out.fr HW.out.k F2.out
  obtain ⟨b',gp,Ah,vC⟩:=s2.fst (by simp [aC])
  simp only [Option.some.injEq,Addr.mk.injEq] at Ah
  obtain ⟨rfl,rfl,-⟩:=Ah
  have:=(vC 0 (by simp [aC])).1
  rw [Nat.zero_mul,Nat.add_zero] at this
  exact this
 go_wp2_with fail
 refine hK.out _ _ u0 (fun ah=>?_)
 clear hK K
 try simp only [aS,aN,aT,a0,a1]
 refine bR (i:=7) (d:=some 43) (v:=?_) rfl rfl (by kernel_rfl) (by kernel_rfl) (by kernel_rfl) (fun _ _ _ h=>h) (by rfl) ?_ ah ?_
 rotate_left 1
 ·intro w' hSw;go_simp<;>with_reducible rfl
 try simp only [aS,aN,aT,a0,a1]
 refine br (i:=8) (d:=some 44) rfl rfl (by kernel_rfl) (by kernel_rfl) (by kernel_rfl) (fun _ _ _ h=>h) (by rfl) ah ?_
 try simp only [aS,aN,aT,a0,a1]
 refine br (i:=9) (d:=some 45) rfl rfl (by kernel_rfl) (by kernel_rfl) (by kernel_rfl) (fun _ _ _ h=>h) (by rfl) ah ?_
 try simp only [aS,aN,aT,a0,a1]
 refine br (i:=10) (d:=some 46) rfl rfl (by kernel_rfl) (by kernel_rfl) (by kernel_rfl) (fun _ _ _ h=>h) (by rfl) ah ?_
 try simp only [aS,aN,aT,a0,a1]
 refine br (i:=11) (d:=some 47) rfl rfl (by kernel_rfl) (by kernel_rfl) (by kernel_rfl) (fun _ _ _ h=>h) (by rfl) ah ?_
 try simp only [aS,aN,aT,a0,a1]
 refine br (i:=12) (d:=some 48) rfl rfl (by kernel_rfl) (by kernel_rfl) (by kernel_rfl) (fun _ _ _ h=>h) (by rfl) ah ?_
 try simp only [aS,aN,aT,a0,a1]
 refine br (i:=13) (d:=some 49) rfl rfl (by kernel_rfl) (by kernel_rfl) (by kernel_rfl) (fun _ _ _ h=>h) (by rfl) ah ?_
 try simp only [aS,aN,aT,a0,a1]
 refine br (i:=14) (d:=some 50) rfl rfl (by kernel_rfl) (by kernel_rfl) (by kernel_rfl) (fun _ _ _ h=>h) (by rfl) ah ?_
 try simp only [aS,aN,aT,a0,a1]
 refine bR (i:=15) (d:=some 51) (v:=?_) rfl rfl (by kernel_rfl) (by kernel_rfl) (by kernel_rfl) (fun _ _ _ h=>h) (by rfl) ?_ ah ?_
 rotate_left 1
 ·intro w' hSw;go_simp<;>with_reducible rfl
 try simp only [aS,aN,aT,a0,a1]
 refine wpAnyH_done (by kernel_rfl) ?_ _
 go_wp2
 go_ret
 exact ⟨rfl,h2,⟨A,bc,C1.out.fr HW.out.k F2.out⟩,F1.out.trans F2.out.fq⟩
theorem E4 (hH:Hs w0 g w p h) (hC:Cs w0 w a c) (C:Cw w0 g h) (ho:h.over=false) (eP:c.stk.length≤500) (hp:0≤c.pc/\c.pc≤100000) (hl:1≤c.stk.length) (hk:¬(nth ag (c.top 1) 0).kind=1) :
  Calls Tryz.prog 59 #[.pointer (some ⟨p,0,none⟩),.pointer (some ⟨a.q,0,none⟩),.agg (cO 12 ia ib ic ii Q nl q)] w fun e w'=>e=.returned (int i64 (c.pc+1))/\Hs w0 g w' p (h.fin 6)/\Cs w0 w' a (c.cut 1)/\Fq w0.heap.size g.T a w w':=by
 have cH:=hH.base
 obtain ⟨A,cap,cU,gJ,HF,HH,HC,d10,HI,HW,n1,n2,qI,qJ,k1,k2,hs⟩:=dpre 12 ia ib ic ii Q nl q hH hC C eP
 have bq:=ho
 clear hH hC C ho
 have sD:Hid (h.must false=h.fin 6):=rfl
 have hz:((nth ag (c.top 1) 0).kind==1)=false:=by simpa using hk
 clear hk
 have wS:Hid (Hp.mustB h false=false):=rfl
 go_enter Tryz.func59,Tryz.ntmps59
 go_wp2_with ((go_at_call 57;refine (bO w0 g HW.out.k p h a c 1 _ A cap HH.out HC.out bq hl hs).mono ?_;intro e w1 hT;obtain ⟨A1,cV,bc,rfl,cu,j0,j1,j2,j4,gI,H1,iC,C1,f1,-⟩:=kr hT HI HW n1 n2 bq;have F1:Hid (Fq w0.heap.size g.T a w w1):=Fq.trans HF.out.fq f1;clear hT f1;obtain ⟨b,off,rfl,t0,t1,jS⟩:=kl cu (by simp [aC]);clear cu))
 refine wp_region_held_drew (S:=fun w'=>w'.cell? ⟨b,off,none⟩=some (int i64 (nth ag (c.top 1) 0).kind)) (by kernel_rfl) ?_ (fun hHeld=>?_)
 ·exact t0
 refine bR (i:=0) (d:=some 36) (v:=?_) rfl rfl (by kernel_rfl) (by kernel_rfl) (by kernel_rfl) (fun _ _ _ h=>h) (by rfl) ?_ hHeld ?_
 rotate_left 1
 ·intro w' hSw;go_simp<;>with_reducible rfl
 try simp only [aS,aN,aT,a0,a1]
 refine bR (i:=1) (d:=some 37) (v:=?_) rfl rfl (by kernel_rfl) (by kernel_rfl) (by kernel_rfl) (fun _ _ _ h=>h) (by rfl) ?_ hHeld ?_
 rotate_left 1
 ·intro w' hSw;go_simp<;>with_reducible rfl
 try simp only [aS,aN,aT,a0,a1]
 refine bR (i:=2) (d:=some 38) (v:=?_) rfl rfl (by kernel_rfl) (by kernel_rfl) (by kernel_rfl) (fun _ _ _ h=>h) (by rfl) ?_ hHeld ?_
 rotate_left 1
 ·intro w' hSw;go_simp<;>with_reducible rfl
 try simp only [aS,aN,aT,a0,a1]
 refine bR (i:=3) (d:=some 39) (v:=?_) rfl rfl (by kernel_rfl) (by kernel_rfl) (by kernel_rfl) (fun _ _ _ h=>h) (by rfl) ?_ hHeld ?_
 rotate_left 1
 ·intro w' hSw;go_simp<;>with_reducible rfl
 try simp only [aS,aN,aT,a0,a1]
 refine bR (i:=4) (d:=some 40) (v:=?_) rfl rfl (by kernel_rfl) (by kernel_rfl) (by kernel_rfl) (fun _ _ _ h=>h) (by rfl) ?_ hHeld ?_
 rotate_left 1
 ·intro w' hSw;go_simp<;>with_reducible rfl
 try simp only [aS,aN,aT,a0,a1]
 refine bR (i:=5) (d:=some 41) (v:=?_) rfl rfl (by kernel_rfl) (by kernel_rfl) (by kernel_rfl) (fun _ _ _ h=>h) (by rfl) ?_ hHeld ?_
 rotate_left 1
 ·intro w' hSw;go_simp<;>with_reducible rfl
 try simp only [aS,aN,aT,a0,a1]
 refine wpAnyH_ready (rs:=[6]) (by kernel_rfl) (by simp) ?_
 refine AllReadyH.cons rfl (fun K hK=>?_) AllReadyH.nil
 go_simp
 go_at_call 56
 refine (bj w0 g HW.out.k p h false _ (H1.out.cf (Cf.drew (Cf.refl _ _ _)))).mono ?_
 rintro e w2 ⟨he,h2,f2⟩
 rw [wS.out] at he
 subst he
 rw [sD.out] at h2
 have F2:Hid (Fr w0.heap.size g.T w1 w2):=Fr.trans (Fr.drew (Fr.refl _ _ _)) f2
 have u0:w2.cell? ⟨b,off,none⟩=some (int i64 (nth ag (c.top 1) 0).kind):=by
  have s2:=jS.out.fr HW.out.k F2.out
  obtain ⟨b',gp,Ah,vC⟩:=s2.fst (by simp [aC])
  simp only [Option.some.injEq,Addr.mk.injEq] at Ah
  obtain ⟨rfl,rfl,-⟩:=Ah
  have:=(vC 0 (by simp [aC])).1
  rw [Nat.zero_mul,Nat.add_zero] at this
  exact this
 go_wp2_with fail
 refine hK.out _ _ u0 (fun ah=>?_)
 clear hK K
 try simp only [aS,aN,aT,a0,a1]
 refine bR (i:=7) (d:=some 43) (v:=?_) rfl rfl (by kernel_rfl) (by kernel_rfl) (by kernel_rfl) (fun _ _ _ h=>h) (by rfl) ?_ ah ?_
 rotate_left 1
 ·intro w' hSw;go_simp<;>with_reducible rfl
 try simp only [aS,aN,aT,a0,a1]
 refine br (i:=8) (d:=some 44) rfl rfl (by kernel_rfl) (by kernel_rfl) (by kernel_rfl) (fun _ _ _ h=>h) (by rfl) ah ?_
 try simp only [aS,aN,aT,a0,a1]
 refine br (i:=9) (d:=some 45) rfl rfl (by kernel_rfl) (by kernel_rfl) (by kernel_rfl) (fun _ _ _ h=>h) (by rfl) ah ?_
 try simp only [aS,aN,aT,a0,a1]
 refine br (i:=10) (d:=some 46) rfl rfl (by kernel_rfl) (by kernel_rfl) (by kernel_rfl) (fun _ _ _ h=>h) (by rfl) ah ?_
 try simp only [aS,aN,aT,a0,a1]
 refine br (i:=11) (d:=some 47) rfl rfl (by kernel_rfl) (by kernel_rfl) (by kernel_rfl) (fun _ _ _ h=>h) (by rfl) ah ?_
 try simp only [aS,aN,aT,a0,a1]
 refine br (i:=12) (d:=some 48) rfl rfl (by kernel_rfl) (by kernel_rfl) (by kernel_rfl) (fun _ _ _ h=>h) (by rfl) ah ?_
 try simp only [aS,aN,aT,a0,a1]
 refine br (i:=13) (d:=some 49) rfl rfl (by kernel_rfl) (by kernel_rfl) (by kernel_rfl) (fun _ _ _ h=>h) (by rfl) ah ?_
 try simp only [aS,aN,aT,a0,a1]
 refine br (i:=14) (d:=some 50) rfl rfl (by kernel_rfl) (by kernel_rfl) (by kernel_rfl) (fun _ _ _ h=>h) (by rfl) ah ?_
 try simp only [aS,aN,aT,a0,a1]
 refine bR (i:=15) (d:=some 51) (v:=?_) rfl rfl (by kernel_rfl) (by kernel_rfl) (by kernel_rfl) (fun _ _ _ h=>h) (by rfl) ?_ ah ?_
 rotate_left 1
 ·intro w' hSw;go_simp<;>with_reducible rfl
 try simp only [aS,aN,aT,a0,a1]
 refine wpAnyH_done (by kernel_rfl) ?_ _
 go_wp2
 go_ret
 exact ⟨rfl,h2,⟨A,bc,C1.out.fr HW.out.k F2.out⟩,F1.out.trans F2.out.fq⟩
theorem B5 (hH:Hs w0 g w p h) (hC:Cs w0 w a c) (C:Cw w0 g h) (ho:h.over=false) (eP:c.stk.length≤500) (hp:0≤c.pc/\c.pc≤100000) (hl:c.stk.length<1) :
  Calls Tryz.prog 59 #[.pointer (some ⟨p,0,none⟩),.pointer (some ⟨a.q,0,none⟩),.agg (cO 23 ia ib ic ii Q nl q)] w fun e w'=>e=.returned (int i64 (c.pc+1))/\Hs w0 g w' p (h.fin 6)/\Cs w0 w' a c/\Fq w0.heap.size g.T a w w':=by
 have cH:=hH.base
 obtain ⟨A,cap,cU,gJ,HF,HH,HC,d10,HI,HW,n1,n2,qI,qJ,k1,k2,hs⟩:=dpre 23 ia ib ic ii Q nl q hH hC C eP
 have bq:=ho
 clear hH hC C ho
 have l7:Hid ((h.fin 6).over=true):=by simp [Hp.fin,bq,Hid]
 go_enter Tryz.func59,Tryz.ntmps59
 go_wp2_with ((go_at_call 57;refine (dK w0 g HW.out.k p h a c 1 _ A cap HH.out HC.out bq hl (by omega)).mono ?_;intro e w1 hT;obtain ⟨A1,cV,bc,rfl,cu,j0,j1,j2,j4,gI,H1,iC,C1,f1,-⟩:=kr hT HI HW n1 n2 l7.out;have F1:Hid (Fq w0.heap.size g.T a w w1):=Fq.trans HF.out.fq f1;clear hT f1))
 go_ret
 exact ⟨rfl,H1.out,⟨A,bc,C1.out⟩,F1.out⟩
theorem Jj (hH:Hs w0 g w p h) (hC:Cs w0 w a c) (C:Cw w0 g h) (ho:h.over=false) (eP:c.stk.length≤500) (hp:0≤c.pc/\c.pc≤100000) (hl:1≤c.stk.length) :
  Calls Tryz.prog 59 #[.pointer (some ⟨p,0,none⟩),.pointer (some ⟨a.q,0,none⟩),.agg (cO 23 ia ib ic ii Q nl q)] w fun e w'=>e=.returned (int i64 (c.pc+1))/\Hs w0 g w' p ((h.putH (c.cut 1) (nth ag (c.top 1) 0)).putH ((c.cut 1).put (nth ag (c.top 1) 0)) (nth ag (c.top 1) 0))/\Cs w0 w' a (((c.cut 1).put (nth ag (c.top 1) 0)).put (nth ag (c.top 1) 0))/\Fq w0.heap.size g.T a w w':=by
 have cH:=hH.base
 obtain ⟨A,cap,cU,gJ,HF,HH,HC,d10,HI,HW,n1,n2,qI,qJ,k1,k2,hs⟩:=dpre 23 ia ib ic ii Q nl q hH hC C eP
 have bq:=ho
 clear hH hC C ho
 go_enter Tryz.func59,Tryz.ntmps59
 go_wp2_with (first
  | (go_at_call 57;refine (bO w0 g HW.out.k p h a c 1 _ A cap HH.out HC.out bq hl hs).mono ?_;intro e w1 hT;obtain ⟨A1,cV,bc,rfl,cu,j0,j1,j2,j4,gI,H1,iC,C1,f1,-⟩:=kr hT HI HW n1 n2 bq;have F1:Hid (Fq w0.heap.size g.T a w w1):=Fq.trans HF.out.fq f1;clear hT f1;obtain ⟨b,off,rfl,t0,t1,jS⟩:=kl cu (by simp [aC]);clear cu)
  | (go_at_call 61;refine (kh w0 g HW.out.k p h a (c.cut 1) (nth ag (c.top 1) 0) _ H1.out ⟨A,bc,C1.out⟩ (by have:=eU c 1;omega)).mono ?_;rintro e w2 ⟨rfl,h2,c2,f2⟩;have s2:=jS.out.fq C1.out HW.out.k f2;obtain ⟨b',gp,Ah,vC⟩:=s2.fst (by simp [aC]);simp only [Option.some.injEq,Addr.mk.injEq] at Ah;obtain ⟨rfl,rfl,-⟩:=Ah;have u0:=(vC 0 (by simp [aC])).1;have u1:=(vC 0 (by simp [aC])).2;rw [Nat.zero_mul,Nat.add_zero] at u0 u1;clear vC s2;have HP:Hid True:=trivial)
  | (go_at_call 61;refine (kh w0 g HW.out.k p (h.putH (c.cut 1) (nth ag (c.top 1) 0)) a ((c.cut 1).put (nth ag (c.top 1) 0)) (nth ag (c.top 1) 0) _ h2 c2 (by have:=eU c 1;simp [aH.put];omega)).mono ?_;rintro e w3 ⟨rfl,h3,c3,f3⟩))
 go_ret
 exact ⟨rfl,h3,c3,(F1.out.trans f2).trans f3⟩
end
section
variable (w0:World) (g:Ad) (p:Nat) (h:Hp) (a:Ca) (c:aH) (ia ib ic ii:Int) (Q:Option Addr) (nl q:Nat) (w:World)
theorem Jk (hH:Hs w0 g w p h) (hC:Cs w0 w a c) (C:Cw w0 g h) (ho:h.over=false) (eP:c.stk.length≤500) (hp:0≤c.pc/\c.pc≤100000) (pq:0≤ia/\ia<c.locs.length) (hk:¬(nth ag c.locs ia.toNat).kind=ib) :
  Calls Tryz.prog 59 #[.pointer (some ⟨p,0,none⟩),.pointer (some ⟨a.q,0,none⟩),.agg (cO 4 ia ib ic ii Q nl q)] w fun e w'=>e=.returned (int i64 (c.pc+1))/\Hs w0 g w' p (h.fin 6)/\Cs w0 w' a c/\Fq w0.heap.size g.T a w w':=by
 have cH:=hH.base
 obtain ⟨A,cap,H0⟩:=hC
 have cU:a.q<w.heap.size:=af H0.blk
 have gJ:a.lb<w.heap.size:=af H0.loc.blk
 have hbl:Bl w (w.alloc (.cells (cO 4 ia ib ic ii Q nl q) 55)):=(Bl.refl w).alloc _
 have HF:Hid (Fr w0.heap.size g.T w (w.alloc (.cells (cO 4 ia ib ic ii Q nl q) 55))):=Fr.old cH hbl
 have HH:Hid (Hs w0 g (w.alloc (.cells (cO 4 ia ib ic ii Q nl q) 55)) p h):=hH.old hbl
 have HC:Hid (bp w0 (w.alloc (.cells (cO 4 ia ib ic ii Q nl q) 55)) a c A cap):=H0.old hbl
 have d10:=HC.out.cells.c10
 have HI:Hid (cI (w.alloc (.cells (cO 4 ia ib ic ii Q nl q) 55)) w.heap.size 4 ia ib ic ii):=⟨_,b8 rfl⟩
 have HW:Hid (Cw w0 g h):=C
 have n1:w.heap.size≠a.q:=by omega
 have n2:w.heap.size≠a.lb:=by omega
 have qI:a.q≠w.heap.size:=by omega
 have qJ:a.lb≠w.heap.size:=by omega
 have k1:a.q<w.heap.size+1:=by omega
 have k2:a.lb<w.heap.size+1:=by omega
 have hs:c.stk.length≤1000:=by omega
 have bq:=ho
 have Dl:=hH
 have Jl:=H0
 clear hH C H0 hbl ho
 obtain ⟨n,rfl⟩:∃n:Nat,ia=n:=⟨ia.toNat,by omega⟩
 have kq:n<c.locs.length:=by omega
 have KP:=HC.out.loc.len
 unfold maxLen at KP
 have c8:=HC.out.cells.c8
 have v0:=HC.out.loc.c0 kq
 have v1:=HC.out.loc.c1 kq
 have kp:(0:Int)≤(n:Int):=by omega
 have kb:(n:Int)<(c.locs.length:Int):=by omega
 have j1:=HI.out.c1
 have j2:=HI.out.c2
 rw [Int.toNat_natCast] at hk
 have hz:((nth ag c.locs n).kind==ib)=false:=by simpa using hk
 have wS:Hid (h.mustB false=false):=rfl
 have sD:Hid (h.must false=h.fin 6):=rfl
 clear hk
 go_enter Tryz.func59,Tryz.ntmps59
 go_wp2
 go_region_held3 (fun w'=>w'.cell? ⟨a.q,8,none⟩=some (.slice (some ⟨a.lb,0,none⟩) c.locs.length a.lc)/\w'.cell? ⟨w.heap.size,1,none⟩=some (int i64 (n:Int))/\w'.cell? ⟨a.lb,n*2,none⟩=some (int i64 (nth ag c.locs n).kind)/\w'.cell? ⟨a.lb,n*2+1,none⟩=some (int i64 (nth ag c.locs n).n))
  (go_keep)
  (fail)
 have hb1:Bl w (((w.alloc (.cells (cO 4 (n:Int) ib ic ii Q nl q) 55))).alloc (cS (nth ag c.locs n))).drew:=(((Bl.refl w).alloc _).alloc _).drew
 have Ai:Hid (Hs w0 g (((w.alloc (.cells (cO 4 (n:Int) ib ic ii Q nl q) 55))).alloc (cS (nth ag c.locs n))).drew p h):=Dl.old hb1
 have E5:Hid (bp w0 (((w.alloc (.cells (cO 4 (n:Int) ib ic ii Q nl q) 55))).alloc (cS (nth ag c.locs n))).drew a c A cap):=Jl.old hb1
 have E6:Hid (Fr w0.heap.size g.T w (((w.alloc (.cells (cO 4 (n:Int) ib ic ii Q nl q) 55))).alloc (cS (nth ag c.locs n))).drew):=Fr.old cH hb1
 have WG:((((w.alloc (.cells (cO 4 (n:Int) ib ic ii Q nl q) 55))).alloc (cS (nth ag c.locs n))).drew).cell? ⟨w.heap.size,2,none⟩=some (int i64 ib):=Bl.cell (Bl.drew (Bl.alloc (Bl.refl _) _)) HI.out.c2
 clear hb1
 go_wp2_with (go_at_call 56;refine (bj w0 g HW.out.k p h false _ Ai.out).mono ?_;rintro e w2 ⟨he,h2,f2⟩;rw [wS.out] at he;subst he;rw [sD.out] at h2)
 go_ret
 exact ⟨rfl,h2,⟨A,cap,E5.out.fr HW.out.k f2⟩,(E6.out.trans f2).fq⟩
theorem Jm (hH:Hs w0 g w p h) (hC:Cs w0 w a c) (C:Cw w0 g h) (ho:h.over=false) (eP:c.stk.length≤500) (hp:0≤c.pc/\c.pc≤100000) (pq:0≤ia/\ia<c.locs.length) (hk:(nth ag c.locs ia.toNat).kind=ib) :
  Calls Tryz.prog 59 #[.pointer (some ⟨p,0,none⟩),.pointer (some ⟨a.q,0,none⟩),.agg (cO 4 ia ib ic ii Q nl q)] w fun e w'=>e=.returned (int i64 (c.pc+1))/\Hs w0 g w' p (h.putH c (nth ag c.locs ia.toNat))/\Cs w0 w' a (c.put (nth ag c.locs ia.toNat))/\Fq w0.heap.size g.T a w w':=by
 have cH:=hH.base
 obtain ⟨A,cap,H0⟩:=hC
 have cU:a.q<w.heap.size:=af H0.blk
 have gJ:a.lb<w.heap.size:=af H0.loc.blk
 have hbl:Bl w (w.alloc (.cells (cO 4 ia ib ic ii Q nl q) 55)):=(Bl.refl w).alloc _
 have HF:Hid (Fr w0.heap.size g.T w (w.alloc (.cells (cO 4 ia ib ic ii Q nl q) 55))):=Fr.old cH hbl
 have HH:Hid (Hs w0 g (w.alloc (.cells (cO 4 ia ib ic ii Q nl q) 55)) p h):=hH.old hbl
 have HC:Hid (bp w0 (w.alloc (.cells (cO 4 ia ib ic ii Q nl q) 55)) a c A cap):=H0.old hbl
 have d10:=HC.out.cells.c10
 have HI:Hid (cI (w.alloc (.cells (cO 4 ia ib ic ii Q nl q) 55)) w.heap.size 4 ia ib ic ii):=⟨_,b8 rfl⟩
 have HW:Hid (Cw w0 g h):=C
 have n1:w.heap.size≠a.q:=by omega
 have n2:w.heap.size≠a.lb:=by omega
 have qI:a.q≠w.heap.size:=by omega
 have qJ:a.lb≠w.heap.size:=by omega
 have k1:a.q<w.heap.size+1:=by omega
 have k2:a.lb<w.heap.size+1:=by omega
 have hs:c.stk.length≤1000:=by omega
 have bq:=ho
 have Dl:=hH
 have Jl:=H0
 clear hH C H0 hbl ho
 obtain ⟨n,rfl⟩:∃n:Nat,ia=n:=⟨ia.toNat,by omega⟩
 have kq:n<c.locs.length:=by omega
 have KP:=HC.out.loc.len
 unfold maxLen at KP
 have c8:=HC.out.cells.c8
 have v0:=HC.out.loc.c0 kq
 have v1:=HC.out.loc.c1 kq
 have kp:(0:Int)≤(n:Int):=by omega
 have kb:(n:Int)<(c.locs.length:Int):=by omega
 have j1:=HI.out.c1
 have j2:=HI.out.c2
 rw [Int.toNat_natCast] at hk ⊢
 have hz:((nth ag c.locs n).kind==ib)=true:=by simpa using hk
 have qH:(!h.over)=true:=by rw [bq];rfl
 clear hk
 go_enter Tryz.func59,Tryz.ntmps59
 go_wp2
 go_region_held3 (fun w'=>w'.cell? ⟨a.q,8,none⟩=some (.slice (some ⟨a.lb,0,none⟩) c.locs.length a.lc)/\w'.cell? ⟨w.heap.size,1,none⟩=some (int i64 (n:Int))/\w'.cell? ⟨a.lb,n*2,none⟩=some (int i64 (nth ag c.locs n).kind)/\w'.cell? ⟨a.lb,n*2+1,none⟩=some (int i64 (nth ag c.locs n).n))
  (go_keep)
  (fail)
 have hb1:Bl w (((w.alloc (.cells (cO 4 (n:Int) ib ic ii Q nl q) 55))).alloc (cS (nth ag c.locs n))).drew:=(((Bl.refl w).alloc _).alloc _).drew
 have Ai:Hid (Hs w0 g (((w.alloc (.cells (cO 4 (n:Int) ib ic ii Q nl q) 55))).alloc (cS (nth ag c.locs n))).drew p h):=Dl.old hb1
 have E5:Hid (bp w0 (((w.alloc (.cells (cO 4 (n:Int) ib ic ii Q nl q) 55))).alloc (cS (nth ag c.locs n))).drew a c A cap):=Jl.old hb1
 have E6:Hid (Fr w0.heap.size g.T w (((w.alloc (.cells (cO 4 (n:Int) ib ic ii Q nl q) 55))).alloc (cS (nth ag c.locs n))).drew):=Fr.old cH hb1
 have WG:((((w.alloc (.cells (cO 4 (n:Int) ib ic ii Q nl q) 55))).alloc (cS (nth ag c.locs n))).drew).cell? ⟨w.heap.size,2,none⟩=some (int i64 ib):=Bl.cell (Bl.drew (Bl.alloc (Bl.refl _) _)) HI.out.c2
 clear hb1
 go_wp2_with (first
  | (go_at_call 56;refine (dh w0 g p h _ Ai.out).mono ?_;rintro e w2 ⟨he,eK⟩;rw [qH] at he;subst he;rw [eK];clear eK w2)
  | (go_at_call 61;refine (kh w0 g HW.out.k p h a c (nth ag c.locs n) _ Ai.out ⟨A,cap,E5.out⟩ hs).mono ?_;rintro e w3 ⟨rfl,h3,c3,f3⟩))
 go_ret
 exact ⟨rfl,h3,c3,E6.out.fq.trans f3⟩
theorem E7 (hH:Hs w0 g w p h) (hC:Cs w0 w a c) (C:Cw w0 g h) (ho:h.over=false) (eP:c.stk.length≤500) (hp:0≤c.pc/\c.pc≤100000) (hl:c.stk.length<1) (OU:ib≠0) :
  Calls Tryz.prog 59 #[.pointer (some ⟨p,0,none⟩),.pointer (some ⟨a.q,0,none⟩),.agg (cO 5 ia ib ic ii Q nl q)] w fun e w'=>e=.returned (int i64 (c.pc+1))/\Hs w0 g w' p (h.fin 6)/\Cs w0 w' a c/\Fq w0.heap.size g.T a w w':=by
 have cH:=hH.base
 obtain ⟨A,cap,cU,gJ,HF,HH,HC,d10,HI,HW,n1,n2,qI,qJ,k1,k2,hs⟩:=dpre 5 ia ib ic ii Q nl q hH hC C eP
 have bq:=ho
 clear hH hC C ho
 have l7:Hid ((h.fin 6).over=true):=by simp [Hp.fin,bq,Hid]
 have hz:((0:Int)==ib)=false:=by simpa using Ne.symm OU
 have wS:Hid (Hp.mustB (h.fin 6) false=false):=rfl
 have sD:Hid ((h.fin 6).must false=h.fin 6):=by show (h.fin 6).fin 6=h.fin 6;simp [Hp.fin,bq]
 go_enter Tryz.func59,Tryz.ntmps59
 go_wp2_with ((go_at_call 57;refine (dK w0 g HW.out.k p h a c 1 _ A cap HH.out HC.out bq hl (by omega)).mono ?_;intro e w1 hT;obtain ⟨A1,cV,bc,rfl,cu,j0,j1,j2,j4,gI,H1,iC,C1,f1,-⟩:=kr hT HI HW n1 n2 l7.out;have F1:Hid (Fq w0.heap.size g.T a w w1):=Fq.trans HF.out.fq f1;clear hT f1;obtain ⟨b,off,rfl,t0,t1,jS⟩:=kl cu (by simp [aC]);clear cu;have z0:(nth ag (List.replicate 1 ag) 0).kind=0:=rfl;have z1:(nth ag (List.replicate 1 ag) 0).n=0:=rfl;rw [z0] at t0;rw [z1] at t1;clear z0 z1))
 go_region_held3 (fun w'=>w'.cell? ⟨b,off,none⟩=some (int i64 0)/\w'.cell? ⟨b,off+1,none⟩=some (int i64 0)/\w'.cell? ⟨w.heap.size,2,none⟩=some (int i64 ib))
  (go_keep)
  (first
   | (go_at_call 56;refine (bj w0 g HW.out.k p (h.fin 6) false _ (by first|exact H1.out.cf (Cf.drew (Cf.refl _ _ _))|exact H1.out)).mono ?_;rintro e w2 ⟨he,h2,f2⟩;rw [wS.out] at he;subst he;rw [sD.out] at h2;have F2:Hid (Fr w0.heap.size g.T w1 w2):=Fr.trans (Fr.drew (Fr.refl _ _ _)) f2;clear f2;obtain ⟨u0,u1,Dm⟩:=Lp jS HW F2 (by simp [aC]);obtain ⟨l1,l2,Ag⟩:=Af gI HW F2;have z0:(nth ag (List.replicate 1 ag) 0).kind=0:=rfl;have z1:(nth ag (List.replicate 1 ag) 0).n=0:=rfl;rw [z0] at u0;rw [z1] at u1;clear z0 z1))
 go_wp2
 go_ret
 exact ⟨rfl,h2,⟨A,bc,C1.out.fr HW.out.k F2.out⟩,F1.out.trans F2.out.fq⟩
theorem Jn (hH:Hs w0 g w p h) (hC:Cs w0 w a c) (C:Cw w0 g h) (ho:h.over=false) (eP:c.stk.length≤500) (hp:0≤c.pc/\c.pc≤100000) (hl:1≤c.stk.length) (hk:¬(nth ag (c.top 1) 0).kind=ib) :
  Calls Tryz.prog 59 #[.pointer (some ⟨p,0,none⟩),.pointer (some ⟨a.q,0,none⟩),.agg (cO 5 ia ib ic ii Q nl q)] w fun e w'=>e=.returned (int i64 (c.pc+1))/\Hs w0 g w' p (h.fin 6)/\Cs w0 w' a (c.cut 1)/\Fq w0.heap.size g.T a w w':=by
 have cH:=hH.base
 obtain ⟨A,cap,cU,gJ,HF,HH,HC,d10,HI,HW,n1,n2,qI,qJ,k1,k2,hs⟩:=dpre 5 ia ib ic ii Q nl q hH hC C eP
 have bq:=ho
 clear hH hC C ho
 have hz:((nth ag (c.top 1) 0).kind==ib)=false:=by simpa using hk
 clear hk
 have wS:Hid (Hp.mustB h false=false):=rfl
 have sD:Hid (h.must false=h.fin 6):=rfl
 go_enter Tryz.func59,Tryz.ntmps59
 go_wp2_with ((go_at_call 57;refine (bO w0 g HW.out.k p h a c 1 _ A cap HH.out HC.out bq hl hs).mono ?_;intro e w1 hT;obtain ⟨A1,cV,bc,rfl,cu,j0,j1,j2,j4,gI,H1,iC,C1,f1,-⟩:=kr hT HI HW n1 n2 bq;have F1:Hid (Fq w0.heap.size g.T a w w1):=Fq.trans HF.out.fq f1;clear hT f1;obtain ⟨b,off,rfl,t0,t1,jS⟩:=kl cu (by simp [aC]);clear cu))
 go_region_held3 (fun w'=>w'.cell? ⟨b,off,none⟩=some (int i64 (nth ag (c.top 1) 0).kind)/\w'.cell? ⟨b,off+1,none⟩=some (int i64 (nth ag (c.top 1) 0).n)/\w'.cell? ⟨w.heap.size,2,none⟩=some (int i64 ib))
  (go_keep)
  (first
   | (go_at_call 56;refine (bj w0 g HW.out.k p h false _ (by first|exact H1.out.cf (Cf.drew (Cf.refl _ _ _))|exact H1.out)).mono ?_;rintro e w2 ⟨he,h2,f2⟩;rw [wS.out] at he;subst he;rw [sD.out] at h2;have F2:Hid (Fr w0.heap.size g.T w1 w2):=Fr.trans (Fr.drew (Fr.refl _ _ _)) f2;clear f2;obtain ⟨u0,u1,Dm⟩:=Lp jS HW F2 (by simp [aC]);obtain ⟨l1,l2,Ag⟩:=Af gI HW F2))
 go_wp2
 go_ret
 exact ⟨rfl,h2,⟨A,bc,C1.out.fr HW.out.k F2.out⟩,F1.out.trans F2.out.fq⟩
theorem Jo (hH:Hs w0 g w p h) (hC:Cs w0 w a c) (C:Cw w0 g h) (ho:h.over=false) (eP:c.stk.length≤500) (hp:0≤c.pc/\c.pc≤100000) (hl:1≤c.stk.length) (hk:(nth ag (c.top 1) 0).kind=ib) (pq:0≤ia/\ia<c.locs.length) (hok:gZ c.locs) (Us:ib=2->ia+1<c.locs.length) :
  Calls Tryz.prog 59 #[.pointer (some ⟨p,0,none⟩),.pointer (some ⟨a.q,0,none⟩),.agg (cO 5 ia ib ic ii Q nl q)] w fun e w'=>e=.returned (int i64 (c.pc+1))/\Hs w0 g w' p h/\Cs w0 w' a ({ c.cut 1 with locs:=eu c.locs ia.toNat (nth ag (c.top 1) 0) }:aH)/\Fq w0.heap.size g.T a w w':=by
 have cH:=hH.base
 obtain ⟨A,cap,cU,gJ,HF,HH,HC,d10,HI,HW,n1,n2,qI,qJ,k1,k2,hs⟩:=dpre 5 ia ib ic ii Q nl q hH hC C eP
 have bq:=ho
 clear hH hC C ho
 have qH:(!h.over)=true:=by rw [bq];rfl
 obtain ⟨n,rfl⟩:∃n:Nat,ia=n:=⟨ia.toNat,by omega⟩
 have kq:n<c.locs.length:=by omega
 have KP:=HC.out.loc.len
 unfold maxLen at KP
 have kp:(0:Int)≤(n:Int):=by omega
 have kb:(n:Int)<(c.locs.length:Int):=by omega
 have Pe:Hid ((c.cut 1).locs=c.locs):=by show (c.cut 1).locs=c.locs;unfold aH.cut;split<;>rfl
 have zQ:Hid ((c.cut 1).locs.length=c.locs.length):=by show (c.cut 1).locs.length=c.locs.length;unfold aH.cut;split<;>rfl
 have DB:Hid (gZ c.locs):=hok
 have WH:Hid ((nth ag (c.top 1) 0).kind=2->n+1<c.locs.length):=fun h=>by have:=Us (hk▸h);omega
 have hz:((nth ag (c.top 1) 0).kind==ib)=true:=by simpa using hk
 clear hk hok Us pq
 go_enter Tryz.func59,Tryz.ntmps59
 go_wp2_with ((go_at_call 57;refine (bO w0 g HW.out.k p h a c 1 _ A cap HH.out HC.out bq hl hs).mono ?_;rintro e w1 ⟨A1,cV,bc,rfl,cu,h1,c1,f1,-⟩;have i1:=HI.out.fq HW.out.k f1 n1 n2;have j0:=i1.c0;have j1:=i1.c1;have j2:=i1.c2;have j4:=i1.c4;have gI:Hid (cI w1 w.heap.size 5 (n:Int) ib ic ii):=i1;clear i1;have H1:Hid (Hs w0 g w1 p h):=h1;have iC:w1.cell? ⟨p,12,none⟩=some (.bool false):=(by obtain ⟨vo,vx,hv,X⟩:=h1;rw [X.cells.c12,bq]);clear h1;have C1:Hid (bp w0 w1 a (c.cut 1) A bc):=c1;clear c1;have F1:Hid (Fq w0.heap.size g.T a w w1):=Fq.trans HF.out.fq f1;clear f1;obtain ⟨b,off,rfl,t0,t1,jS⟩:=kl cu (by simp [aC]);clear cu;have c8:=C1.out.cells.c8;rw [zQ.out] at c8))
 go_region_held3 (fun w'=>w'.cell? ⟨b,off,none⟩=some (int i64 (nth ag (c.top 1) 0).kind)/\w'.cell? ⟨b,off+1,none⟩=some (int i64 (nth ag (c.top 1) 0).n)/\w'.cell? ⟨w.heap.size,2,none⟩=some (int i64 ib)/\w'.cell? ⟨w.heap.size,1,none⟩=some (int i64 (n:Int))/\w'.cell? ⟨a.q,8,none⟩=some (.slice (some ⟨a.lb,0,none⟩) c.locs.length a.lc))
  (go_keep)
  (first
   | (go_at_call 56;refine (dh w0 g p h _ (by first|exact H1.out.cf (Cf.drew (Cf.refl _ _ _))|exact H1.out)).mono ?_;rintro e w2 ⟨he,eK⟩;rw [qH] at he;subst he;rw [eK];clear eK w2))
 go_wp2
 have FD:Fr w0.heap.size g.T w1 w1.drew:=Fr.drew (Fr.refl _ _ _)
 have C2:Hid (bp w0 w1.drew.drew a (c.cut 1) A bc):=(C1.out.fr HW.out.k FD).fr (B:=w0.heap.size) HW.out.k (Fr.drew (Fr.refl _ _ _))
 have L2:Hid (cv w1.drew.drew a.lb c.locs):=Pe.out▸C2.out.loc
 go_region_held3 (fun w'=>w'.cell? ⟨b,off,none⟩=some (int i64 (nth ag (c.top 1) 0).kind)/\w'.cell? ⟨b,off+1,none⟩=some (int i64 (nth ag (c.top 1) 0).n)/\w'.cell? ⟨w.heap.size,1,none⟩=some (int i64 (n:Int))/\w'.cell? ⟨a.q,8,none⟩=some (.slice (some ⟨a.lb,0,none⟩) c.locs.length a.lc))
  (go_keep)
  (first
   | (go_at_call 53;refine (sA a.lb c.locs n a.lc (nth ag (c.top 1) 0) _ L2.out DB.out kq WH.out).mono ?_;rintro e w3 ⟨rfl,l3,o3⟩;have S3:=bG.keep jS.out (w':=w3) (fun b cs fz e n=>(o3.block b (af e) n).trans e);obtain ⟨b',gp,Ah,vC⟩:=S3.fst (by simp [aC]);simp only [Option.some.injEq,Addr.mk.injEq] at Ah;obtain ⟨rfl,rfl,-⟩:=Ah;have u0:=(vC 0 (by simp [aC])).1;have u1:=(vC 0 (by simp [aC])).2;rw [Nat.zero_mul,Nat.add_zero] at u0 u1;clear vC S3;have c3:=C2.out.setLoc o3 l3 (by rw [fT,Pe.out]);have y8:=c3.cells.c8;have Ut:(eu c.locs n (nth ag (c.top 1) 0)).length=c.locs.length:=fT _ _ _;dsimp only at y8;rw [Ut] at y8;clear Ut;have C3:Hid (bp w0 w3 a { c.cut 1 with locs:=eu c.locs n (nth ag (c.top 1) 0) } A bc):=c3;clear c3;have y1:w3.cell? ⟨w.heap.size,1,none⟩=some (int i64 (n:Int)):=(by obtain ⟨uu,hu⟩:=gI.out.ex;have:=(o3.block w.heap.size (af hu) n2).trans hu;rw [aa this];rfl)))
 go_wp2
 go_ret
 rw [Int.toNat_natCast]
 have hsz:w0.heap.size≤w1.drew.drew.heap.size:=by have:=C1.out.ownl;have:=af L2.out.blk;omega
 exact ⟨rfl,((H1.out.cf (Cf.drew (Cf.refl _ _ _))).cf (Cf.drew (Cf.refl _ _ _))).cf (o3.cf HW.out.k L2.out C1.out.ownl hsz),⟨A,bc,C3.out⟩,((F1.out.trans FD.fq).trans (Fr.fq (Fr.drew (Fr.refl _ _ _)))).trans (o3.fq C1.out.ownl hsz)⟩
end
section
variable (w0:World) (g:Ad) (p:Nat) (h:Hp) (a:Ca) (c:aH) (ia ib ic ii:Int) (Q:Option Addr) (nl q:Nat) (w:World)
theorem B6 (hH:Hs w0 g w p h) (hC:Cs w0 w a c) (C:Cw w0 g h) (ho:h.over=false) (eP:c.stk.length≤500) (hp:0≤c.pc/\c.pc≤100000) (hl:c.stk.length<2) :
  Calls Tryz.prog 59 #[.pointer (some ⟨p,0,none⟩),.pointer (some ⟨a.q,0,none⟩),.agg (cO 16 ia ib ic ii Q nl q)] w fun e w'=>e=.returned (int i64 (c.pc+1))/\Hs w0 g w' p (h.fin 6)/\Cs w0 w' a c/\Fq w0.heap.size g.T a w w':=by
 have cH:=hH.base
 obtain ⟨A,cap,cU,gJ,HF,HH,HC,d10,HI,HW,n1,n2,qI,qJ,k1,k2,hs⟩:=dpre 16 ia ib ic ii Q nl q hH hC C eP
 have bq:=ho
 clear hH hC C ho
 have l7:Hid ((h.fin 6).over=true):=by simp [Hp.fin,bq,Hid]
 go_enter Tryz.func59,Tryz.ntmps59
 go_wp2_with ((go_at_call 57;refine (dK w0 g HW.out.k p h a c 2 _ A cap HH.out HC.out bq hl (by omega)).mono ?_;intro e w1 hT;obtain ⟨A1,cV,bc,rfl,cu,j0,j1,j2,j4,gI,H1,iC,C1,f1,-⟩:=kr hT HI HW n1 n2 l7.out;have F1:Hid (Fq w0.heap.size g.T a w w1):=Fq.trans HF.out.fq f1;clear hT f1))
 go_ret
 exact ⟨rfl,H1.out,⟨A,bc,C1.out⟩,F1.out⟩
theorem E8 (hH:Hs w0 g w p h) (hC:Cs w0 w a c) (C:Cw w0 g h) (ho:h.over=false) (eP:c.stk.length≤500) (hp:0≤c.pc/\c.pc≤100000) (hl:2≤c.stk.length) (hk:¬(nth ag (c.top 2) 0).kind=3) :
  Calls Tryz.prog 59 #[.pointer (some ⟨p,0,none⟩),.pointer (some ⟨a.q,0,none⟩),.agg (cO 16 ia ib ic ii Q nl q)] w fun e w'=>e=.returned (int i64 (c.pc+1))/\Hs w0 g w' p (h.fin 6)/\Cs w0 w' a (c.cut 2)/\Fq w0.heap.size g.T a w w':=by
 have cH:=hH.base
 obtain ⟨A,cap,cU,gJ,HF,HH,HC,d10,HI,HW,n1,n2,qI,qJ,k1,k2,hs⟩:=dpre 16 ia ib ic ii Q nl q hH hC C eP
 have bq:=ho
 clear hH hC C ho
 have hz:((nth ag (c.top 2) 0).kind==3)=false:=by simpa using hk
 clear hk
 have wS:Hid (Hp.mustB h false=false):=rfl
 have sD:Hid (h.must false=h.fin 6):=rfl
 go_enter Tryz.func59,Tryz.ntmps59
 go_wp2_with (first
  | (go_at_call 57;refine (bO w0 g HW.out.k p h a c 2 _ A cap HH.out HC.out bq hl hs).mono ?_;intro e w1 hT;obtain ⟨A1,cV,bc,rfl,cu,j0,j1,j2,j4,gI,H1,iC,C1,f1,-⟩:=kr hT HI HW n1 n2 bq;have F1:Hid (Fq w0.heap.size g.T a w w1):=Fq.trans HF.out.fq f1;clear hT f1;obtain ⟨b,off,rfl,t0,t1,t2,t3,jS⟩:=yI cu (by simp [aC]);clear cu)
  | (go_at_call 56;refine (bj w0 g HW.out.k p h false _ H1.out).mono ?_;rintro e w2 ⟨he,h2,f2⟩;rw [wS.out] at he;subst he;rw [sD.out] at h2;skip))
 go_ret
 exact ⟨rfl,h2,⟨A,bc,C1.out.fr HW.out.k f2⟩,F1.out.trans f2.fq⟩
theorem E9 (hH:Hs w0 g w p h) (hC:Cs w0 w a c) (C:Cw w0 g h) (ho:h.over=false) (eP:c.stk.length≤500) (hp:0≤c.pc/\c.pc≤100000) (hl:2≤c.stk.length) (hk:(nth ag (c.top 2) 0).kind=3) (h3:(nth ag (c.top 2) 0).kind=3->(nth ag (c.top 2) 0).n<h.objs.length) (h4:(nth ag (c.top 2) 1).kind=3->(nth ag (c.top 2) 1).n<h.objs.length) (pq:0≤ia/\ia<h.file.classes.length) (OU:0≤ib/\ib<(nth cd h.file.classes ia.toNat).fields.length) :
  Calls Tryz.prog 59 #[.pointer (some ⟨p,0,none⟩),.pointer (some ⟨a.q,0,none⟩),.agg (cO 16 ia ib ic ii Q nl q)] w fun e w'=>e=.returned (int i64 (c.pc+1))/\Hs w0 g w' p (h.put (nth ag (c.top 2) 0) ia ib (nth ag (c.top 2) 1))/\Cs w0 w' a (c.cut 2)/\Fq w0.heap.size g.T a w w':=by
 have cH:=hH.base
 obtain ⟨A,cap,cU,gJ,HF,HH,HC,d10,HI,HW,n1,n2,qI,qJ,k1,k2,hs⟩:=dpre 16 ia ib ic ii Q nl q hH hC C eP
 have bq:=ho
 clear hH hC C ho
 have qH:(!h.over)=true:=by rw [bq];rfl
 have H3:Hid ((nth ag (c.top 2) 0).kind=3->(nth ag (c.top 2) 0).n<h.objs.length):=h3
 have H4:Hid ((nth ag (c.top 2) 1).kind=3->(nth ag (c.top 2) 1).n<h.objs.length):=h4
 obtain ⟨n,rfl⟩:∃n:Nat,ia=n:=⟨ia.toNat,by omega⟩
 obtain ⟨m,rfl⟩:∃m:Nat,ib=m:=⟨ib.toNat,by omega⟩
 rw [Int.toNat_natCast] at OU
 have hn:n<h.file.classes.length:=by omega
 have jy:m<(nth cd h.file.classes n).fields.length:=by omega
 have hz:((nth ag (c.top 2) 0).kind==3)=true:=by simpa using hk
 clear hk h3 h4 pq OU
 go_enter Tryz.func59,Tryz.ntmps59
 go_wp2_with (first
  | (go_at_call 57;refine (bO w0 g HW.out.k p h a c 2 _ A cap HH.out HC.out bq hl hs).mono ?_;rintro e w1 ⟨A1,cV,bc,rfl,cu,h1,c1,f1,-⟩;have i1:=HI.out.fq HW.out.k f1 n1 n2;have j0:=i1.c0;have j1:=i1.c1;have j2:=i1.c2;have j4:=i1.c4;have gI:Hid (cI w1 w.heap.size 16 (n:Int) (m:Int) ic ii):=i1;clear i1;have H1:Hid (Hs w0 g w1 p h):=h1;have iC:w1.cell? ⟨p,12,none⟩=some (.bool false):=(by obtain ⟨vo,vx,hv,X⟩:=h1;rw [X.cells.c12,bq]);clear h1;have C1:Hid (bp w0 w1 a (c.cut 2) A bc):=c1;clear c1;have F1:Hid (Fq w0.heap.size g.T a w w1):=Fq.trans HF.out.fq f1;clear f1;obtain ⟨b,off,rfl,t0,t1,t2,t3,jS⟩:=yI cu (by simp [aC]);clear cu)
  | (go_at_call 56;refine (dh w0 g p h _ H1.out).mono ?_;rintro e w2 ⟨he,eK⟩;rw [qH] at he;subst he;rw [eK];clear eK w2))
 go_region_held3 (fun w'=>w'.cell? ⟨b,off,none⟩=some (int i64 (nth ag (c.top 2) 0).kind)/\w'.cell? ⟨b,off+1,none⟩=some (int i64 (nth ag (c.top 2) 0).n)/\w'.cell? ⟨b,off+2,none⟩=some (int i64 (nth ag (c.top 2) 1).kind)/\w'.cell? ⟨b,off+2+1,none⟩=some (int i64 (nth ag (c.top 2) 1).n)/\w'.cell? ⟨w.heap.size,1,none⟩=some (int i64 (n:Int))/\w'.cell? ⟨w.heap.size,2,none⟩=some (int i64 (m:Int)))
  (go_keep)
  (first
   | (go_at_call 117;refine (Ja w0 g p h (nth ag (c.top 2) 0) n m (nth ag (c.top 2) 1) _ (by first|exact H1.out.cf (Cf.drew (Cf.refl _ _ _))|exact H1.out) HW.out H3.out H4.out hn jy).mono ?_;rintro e w2 ⟨rfl,h2,f2⟩;have F2:Hid (Fr w0.heap.size g.T w1 w2):=Fr.trans (Fr.drew (Fr.refl _ _ _)) f2;clear f2;obtain ⟨u0,u1,u2,u3,Dm⟩:=Pd jS HW F2 (by simp [aC]);have i2:=gI.out.fr HW.out.k F2.out;have l1:=i2.c1;have l2:=i2.c2;have Ag:Hid (cI w2 w.heap.size 16 (n:Int) (m:Int) ic ii):=i2;clear i2))
 go_wp2
 go_ret
 exact ⟨rfl,h2,⟨A,bc,C1.out.fr HW.out.k F2.out⟩,F1.out.trans F2.out.fq⟩
end
section
variable (w0:World) (g:Ad) (p:Nat) (h:Hp) (a:Ca) (c:aH) (ia ib ic ii:Int) (Q:Option Addr) (nl q:Nat) (w:World)
theorem B8 (hH:Hs w0 g w p h) (hC:Cs w0 w a c) (C:Cw w0 g h) (ho:h.over=false) (hs:c.stk.length≤1000) (hl:c.stk.length<2) :
  Calls Tryz.prog 118 #[.pointer (some ⟨p,0,none⟩),.pointer (some ⟨a.q,0,none⟩),.agg (cO 6 ia ib ic ii Q nl q)] w fun e w'=>e=.returned (iA ag)/\Hs w0 g w' p (h.fin 6)/\Cs w0 w' a c/\Fq w0.heap.size g.T a w w':=by
 have cH:=hH.base
 obtain ⟨A,cap,HE,cU,gJ,HF,HH,HC,HI,HR,HW,bN,bU,n1,n2,n3,n4⟩:=jE 6 ia ib ic ii Q nl q hH hC C
 have bq:=ho
 clear hH hC C ho
 have l7:Hid ((h.fin 6).over=true):=by simp [Hp.fin,bq,Hid]
 go_enter Tryz.func118,Tryz.ntmps118
 go_wp2_with ((go_at_call 57;refine (dK w0 g HW.out.k p h a c 2 _ A cap HH.out HC.out bq hl (by omega)).mono ?_;intro e w1 hT;obtain ⟨A1,cV,bc,rfl,cu,j0,j1,j2,j4,gI,H1,iC,C1,f1,kj⟩:=kr hT HI HW n1 n2 l7.out;obtain ⟨r0,r1,r2,r3,ea⟩:=rC HR HW f1 n3 n4;clear hT))
 (try simp only [Exit.inBlock,Exit.then])
 refine bodyPost_ret (results_cell_row rfl _ _ (w.heap.size+1) _ _ _ _ rfl (ea.out.set ag).blk Tryz.underlying62 rfl bk) rfl ?_
 exact ⟨rfl,H1.out.cf (ea.out.cf HW.out.k bN _ _),⟨A,bc,C1.out.box2 (HE.out.le (Nat.le_refl _)) bU n3 n4 _ _⟩,((HF.out.fq.trans f1)).box2 bU bN _ _⟩
theorem Cb (hH:Hs w0 g w p h) (hC:Cs w0 w a c) (C:Cw w0 g h) (ho:h.over=false) (hs:c.stk.length≤1000) (hl:c.stk.length<2) :
  Calls Tryz.prog 118 #[.pointer (some ⟨p,0,none⟩),.pointer (some ⟨a.q,0,none⟩),.agg (cO 7 ia ib ic ii Q nl q)] w fun e w'=>e=.returned (iA ag)/\Hs w0 g w' p (h.fin 6)/\Cs w0 w' a c/\Fq w0.heap.size g.T a w w':=by
 have cH:=hH.base
 obtain ⟨A,cap,HE,cU,gJ,HF,HH,HC,HI,HR,HW,bN,bU,n1,n2,n3,n4⟩:=jE 7 ia ib ic ii Q nl q hH hC C
 have bq:=ho
 clear hH hC C ho
 have l7:Hid ((h.fin 6).over=true):=by simp [Hp.fin,bq,Hid]
 go_enter Tryz.func118,Tryz.ntmps118
 go_wp2_with ((go_at_call 57;refine (dK w0 g HW.out.k p h a c 2 _ A cap HH.out HC.out bq hl (by omega)).mono ?_;intro e w1 hT;obtain ⟨A1,cV,bc,rfl,cu,j0,j1,j2,j4,gI,H1,iC,C1,f1,kj⟩:=kr hT HI HW n1 n2 l7.out;obtain ⟨r0,r1,r2,r3,ea⟩:=rC HR HW f1 n3 n4;clear hT))
 (try simp only [Exit.inBlock,Exit.then])
 refine bodyPost_ret (results_cell_row rfl _ _ (w.heap.size+1) _ _ _ _ rfl (ea.out.set ag).blk Tryz.underlying62 rfl bk) rfl ?_
 exact ⟨rfl,H1.out.cf (ea.out.cf HW.out.k bN _ _),⟨A,bc,C1.out.box2 (HE.out.le (Nat.le_refl _)) bU n3 n4 _ _⟩,((HF.out.fq.trans f1)).box2 bU bN _ _⟩
theorem yJ (hH:Hs w0 g w p h) (hC:Cs w0 w a c) (C:Cw w0 g h) (ho:h.over=false) (hs:c.stk.length≤1000) (hl:c.stk.length<2) :
  Calls Tryz.prog 118 #[.pointer (some ⟨p,0,none⟩),.pointer (some ⟨a.q,0,none⟩),.agg (cO 10 ia ib ic ii Q nl q)] w fun e w'=>e=.returned (iA ag)/\Hs w0 g w' p (h.fin 6)/\Cs w0 w' a c/\Fq w0.heap.size g.T a w w':=by
 have cH:=hH.base
 obtain ⟨A,cap,HE,cU,gJ,HF,HH,HC,HI,HR,HW,bN,bU,n1,n2,n3,n4⟩:=jE 10 ia ib ic ii Q nl q hH hC C
 have bq:=ho
 clear hH hC C ho
 have l7:Hid ((h.fin 6).over=true):=by simp [Hp.fin,bq,Hid]
 go_enter Tryz.func118,Tryz.ntmps118
 go_wp2_with ((go_at_call 57;refine (dK w0 g HW.out.k p h a c 2 _ A cap HH.out HC.out bq hl (by omega)).mono ?_;intro e w1 hT;obtain ⟨A1,cV,bc,rfl,cu,j0,j1,j2,j4,gI,H1,iC,C1,f1,kj⟩:=kr hT HI HW n1 n2 l7.out;obtain ⟨r0,r1,r2,r3,ea⟩:=rC HR HW f1 n3 n4;clear hT))
 (try simp only [Exit.inBlock,Exit.then])
 refine bodyPost_ret (results_cell_row rfl _ _ (w.heap.size+1) _ _ _ _ rfl (ea.out.set ag).blk Tryz.underlying62 rfl bk) rfl ?_
 exact ⟨rfl,H1.out.cf (ea.out.cf HW.out.k bN _ _),⟨A,bc,C1.out.box2 (HE.out.le (Nat.le_refl _)) bU n3 n4 _ _⟩,((HF.out.fq.trans f1)).box2 bU bN _ _⟩
theorem Cc (hH:Hs w0 g w p h) (hC:Cs w0 w a c) (C:Cw w0 g h) (ho:h.over=false) (hs:c.stk.length≤1000) (hl:c.stk.length<1) :
  Calls Tryz.prog 118 #[.pointer (some ⟨p,0,none⟩),.pointer (some ⟨a.q,0,none⟩),.agg (cO 8 ia ib ic ii Q nl q)] w fun e w'=>e=.returned (iA ag)/\Hs w0 g w' p (h.fin 6)/\Cs w0 w' a c/\Fq w0.heap.size g.T a w w':=by
 have cH:=hH.base
 obtain ⟨A,cap,HE,cU,gJ,HF,HH,HC,HI,HR,HW,bN,bU,n1,n2,n3,n4⟩:=jE 8 ia ib ic ii Q nl q hH hC C
 have bq:=ho
 clear hH hC C ho
 have l7:Hid ((h.fin 6).over=true):=by simp [Hp.fin,bq,Hid]
 go_enter Tryz.func118,Tryz.ntmps118
 go_wp2_with ((go_at_call 57;refine (dK w0 g HW.out.k p h a c 1 _ A cap HH.out HC.out bq hl (by omega)).mono ?_;intro e w1 hT;obtain ⟨A1,cV,bc,rfl,cu,j0,j1,j2,j4,gI,H1,iC,C1,f1,kj⟩:=kr hT HI HW n1 n2 l7.out;obtain ⟨r0,r1,r2,r3,ea⟩:=rC HR HW f1 n3 n4;clear hT))
 (try simp only [Exit.inBlock,Exit.then])
 refine bodyPost_ret (results_cell_row rfl _ _ (w.heap.size+1) _ _ _ _ rfl (ea.out.set ag).blk Tryz.underlying62 rfl bk) rfl ?_
 exact ⟨rfl,H1.out.cf (ea.out.cf HW.out.k bN _ _),⟨A,bc,C1.out.box2 (HE.out.le (Nat.le_refl _)) bU n3 n4 _ _⟩,((HF.out.fq.trans f1)).box2 bU bN _ _⟩
theorem Cd (hH:Hs w0 g w p h) (hC:Cs w0 w a c) (C:Cw w0 g h) (ho:h.over=false) (hs:c.stk.length≤1000) (hl:c.stk.length<1) :
  Calls Tryz.prog 118 #[.pointer (some ⟨p,0,none⟩),.pointer (some ⟨a.q,0,none⟩),.agg (cO 9 ia ib ic ii Q nl q)] w fun e w'=>e=.returned (iA ag)/\Hs w0 g w' p (h.fin 6)/\Cs w0 w' a c/\Fq w0.heap.size g.T a w w':=by
 have cH:=hH.base
 obtain ⟨A,cap,HE,cU,gJ,HF,HH,HC,HI,HR,HW,bN,bU,n1,n2,n3,n4⟩:=jE 9 ia ib ic ii Q nl q hH hC C
 have bq:=ho
 clear hH hC C ho
 have l7:Hid ((h.fin 6).over=true):=by simp [Hp.fin,bq,Hid]
 go_enter Tryz.func118,Tryz.ntmps118
 go_wp2_with ((go_at_call 57;refine (dK w0 g HW.out.k p h a c 1 _ A cap HH.out HC.out bq hl (by omega)).mono ?_;intro e w1 hT;obtain ⟨A1,cV,bc,rfl,cu,j0,j1,j2,j4,gI,H1,iC,C1,f1,kj⟩:=kr hT HI HW n1 n2 l7.out;obtain ⟨r0,r1,r2,r3,ea⟩:=rC HR HW f1 n3 n4;clear hT))
 (try simp only [Exit.inBlock,Exit.then])
 refine bodyPost_ret (results_cell_row rfl _ _ (w.heap.size+1) _ _ _ _ rfl (ea.out.set ag).blk Tryz.underlying62 rfl bk) rfl ?_
 exact ⟨rfl,H1.out.cf (ea.out.cf HW.out.k bN _ _),⟨A,bc,C1.out.box2 (HE.out.le (Nat.le_refl _)) bU n3 n4 _ _⟩,((HF.out.fq.trans f1)).box2 bU bN _ _⟩
theorem yK (hH:Hs w0 g w p h) (hC:Cs w0 w a c) (C:Cw w0 g h) (ho:h.over=false) (hs:c.stk.length≤1000) (hl:c.stk.length<1) :
  Calls Tryz.prog 118 #[.pointer (some ⟨p,0,none⟩),.pointer (some ⟨a.q,0,none⟩),.agg (cO 15 ia ib ic ii Q nl q)] w fun e w'=>e=.returned (iA ag)/\Hs w0 g w' p (h.fin 6)/\Cs w0 w' a c/\Fq w0.heap.size g.T a w w':=by
 have cH:=hH.base
 obtain ⟨A,cap,HE,cU,gJ,HF,HH,HC,HI,HR,HW,bN,bU,n1,n2,n3,n4⟩:=jE 15 ia ib ic ii Q nl q hH hC C
 have bq:=ho
 clear hH hC C ho
 have l7:Hid ((h.fin 6).over=true):=by simp [Hp.fin,bq,Hid]
 go_enter Tryz.func118,Tryz.ntmps118
 go_wp2_with ((go_at_call 57;refine (dK w0 g HW.out.k p h a c 1 _ A cap HH.out HC.out bq hl (by omega)).mono ?_;intro e w1 hT;obtain ⟨A1,cV,bc,rfl,cu,j0,j1,j2,j4,gI,H1,iC,C1,f1,kj⟩:=kr hT HI HW n1 n2 l7.out;obtain ⟨r0,r1,r2,r3,ea⟩:=rC HR HW f1 n3 n4;clear hT))
 (try simp only [Exit.inBlock,Exit.then])
 refine bodyPost_ret (results_cell_row rfl _ _ (w.heap.size+1) _ _ _ _ rfl (ea.out.set ag).blk Tryz.underlying62 rfl bk) rfl ?_
 exact ⟨rfl,H1.out.cf (ea.out.cf HW.out.k bN _ _),⟨A,bc,C1.out.box2 (HE.out.le (Nat.le_refl _)) bU n3 n4 _ _⟩,((HF.out.fq.trans f1)).box2 bU bN _ _⟩
theorem yL (hH:Hs w0 g w p h) (hC:Cs w0 w a c) (C:Cw w0 g h) (ho:h.over=false) (hs:c.stk.length≤1000) (hl:c.stk.length<1) :
  Calls Tryz.prog 118 #[.pointer (some ⟨p,0,none⟩),.pointer (some ⟨a.q,0,none⟩),.agg (cO 17 ia ib ic ii Q nl q)] w fun e w'=>e=.returned (iA ag)/\Hs w0 g w' p (h.fin 6)/\Cs w0 w' a c/\Fq w0.heap.size g.T a w w':=by
 have cH:=hH.base
 obtain ⟨A,cap,HE,cU,gJ,HF,HH,HC,HI,HR,HW,bN,bU,n1,n2,n3,n4⟩:=jE 17 ia ib ic ii Q nl q hH hC C
 have bq:=ho
 clear hH hC C ho
 have l7:Hid ((h.fin 6).over=true):=by simp [Hp.fin,bq,Hid]
 go_enter Tryz.func118,Tryz.ntmps118
 go_wp2_with ((go_at_call 57;refine (dK w0 g HW.out.k p h a c 1 _ A cap HH.out HC.out bq hl (by omega)).mono ?_;intro e w1 hT;obtain ⟨A1,cV,bc,rfl,cu,j0,j1,j2,j4,gI,H1,iC,C1,f1,kj⟩:=kr hT HI HW n1 n2 l7.out;obtain ⟨r0,r1,r2,r3,ea⟩:=rC HR HW f1 n3 n4;clear hT))
 (try simp only [Exit.inBlock,Exit.then])
 refine bodyPost_ret (results_cell_row rfl _ _ (w.heap.size+1) _ _ _ _ rfl (ea.out.set ag).blk Tryz.underlying62 rfl bk) rfl ?_
 exact ⟨rfl,H1.out.cf (ea.out.cf HW.out.k bN _ _),⟨A,bc,C1.out.box2 (HE.out.le (Nat.le_refl _)) bU n3 n4 _ _⟩,((HF.out.fq.trans f1)).box2 bU bN _ _⟩
theorem yM (hH:Hs w0 g w p h) (hC:Cs w0 w a c) (C:Cw w0 g h) (ho:h.over=false) (hs:c.stk.length≤1000) (hl:c.stk.length<1) :
  Calls Tryz.prog 118 #[.pointer (some ⟨p,0,none⟩),.pointer (some ⟨a.q,0,none⟩),.agg (cO 18 ia ib ic ii Q nl q)] w fun e w'=>e=.returned (iA ag)/\Hs w0 g w' p (h.fin 6)/\Cs w0 w' a c/\Fq w0.heap.size g.T a w w':=by
 have cH:=hH.base
 obtain ⟨A,cap,HE,cU,gJ,HF,HH,HC,HI,HR,HW,bN,bU,n1,n2,n3,n4⟩:=jE 18 ia ib ic ii Q nl q hH hC C
 have bq:=ho
 clear hH hC C ho
 have l7:Hid ((h.fin 6).over=true):=by simp [Hp.fin,bq,Hid]
 go_enter Tryz.func118,Tryz.ntmps118
 go_wp2_with ((go_at_call 57;refine (dK w0 g HW.out.k p h a c 1 _ A cap HH.out HC.out bq hl (by omega)).mono ?_;intro e w1 hT;obtain ⟨A1,cV,bc,rfl,cu,j0,j1,j2,j4,gI,H1,iC,C1,f1,kj⟩:=kr hT HI HW n1 n2 l7.out;obtain ⟨r0,r1,r2,r3,ea⟩:=rC HR HW f1 n3 n4;clear hT))
 (try simp only [Exit.inBlock,Exit.then])
 refine bodyPost_ret (results_cell_row rfl _ _ (w.heap.size+1) _ _ _ _ rfl (ea.out.set ag).blk Tryz.underlying62 rfl bk) rfl ?_
 exact ⟨rfl,H1.out.cf (ea.out.cf HW.out.k bN _ _),⟨A,bc,C1.out.box2 (HE.out.le (Nat.le_refl _)) bU n3 n4 _ _⟩,((HF.out.fq.trans f1)).box2 bU bN _ _⟩
theorem Jp (hH:Hs w0 g w p h) (hC:Cs w0 w a c) (C:Cw w0 g h) (ho:h.over=false) (hs:c.stk.length≤1000) :
  Calls Tryz.prog 118 #[.pointer (some ⟨p,0,none⟩),.pointer (some ⟨a.q,0,none⟩),.agg (cO 1 ia ib ic ii Q nl q)] w fun e w'=>e=.returned (iA ⟨1,ii⟩)/\Hs w0 g w' p h/\Cs w0 w' a (c.cut 0)/\Fq w0.heap.size g.T a w w':=by
 have cH:=hH.base
 obtain ⟨A,cap,HE,cU,gJ,HF,HH,HC,HI,HR,HW,bN,bU,n1,n2,n3,n4⟩:=jE 1 ia ib ic ii Q nl q hH hC C
 have bq:=ho
 clear hH hC C ho
 have hl:0≤c.stk.length:=Nat.zero_le _
 go_enter Tryz.func118,Tryz.ntmps118
 go_wp2_with ((go_at_call 57;refine (bO w0 g HW.out.k p h a c 0 _ A cap HH.out HC.out bq hl hs).mono ?_;intro e w1 hT;obtain ⟨A1,cV,bc,rfl,cu,j0,j1,j2,j4,gI,H1,iC,C1,f1,kj⟩:=kr hT HI HW n1 n2 bq;obtain ⟨r0,r1,r2,r3,ea⟩:=rC HR HW f1 n3 n4;clear hT))
 (try simp only [Exit.inBlock,Exit.then])
 refine bodyPost_ret (results_cell_row rfl _ _ (w.heap.size+1) _ _ _ _ rfl (ea.out.set ⟨1,ii⟩).blk Tryz.underlying62 rfl bk) rfl ?_
 exact ⟨rfl,H1.out.cf (ea.out.cf HW.out.k bN _ _),⟨A,bc,C1.out.box2 (HE.out.le (eU _ _)) bU n3 n4 _ _⟩,((HF.out.fq.trans f1)).box2 bU bN _ _⟩
theorem Jq (hH:Hs w0 g w p h) (hC:Cs w0 w a c) (C:Cw w0 g h) (ho:h.over=false) (hs:c.stk.length≤1000) :
  Calls Tryz.prog 118 #[.pointer (some ⟨p,0,none⟩),.pointer (some ⟨a.q,0,none⟩),.agg (cO 2 ia ib ic ii Q nl q)] w fun e w'=>e=.returned (iA ⟨2,ii⟩)/\Hs w0 g w' p h/\Cs w0 w' a (c.cut 0)/\Fq w0.heap.size g.T a w w':=by
 have cH:=hH.base
 obtain ⟨A,cap,HE,cU,gJ,HF,HH,HC,HI,HR,HW,bN,bU,n1,n2,n3,n4⟩:=jE 2 ia ib ic ii Q nl q hH hC C
 have bq:=ho
 clear hH hC C ho
 have hl:0≤c.stk.length:=Nat.zero_le _
 go_enter Tryz.func118,Tryz.ntmps118
 go_wp2_with ((go_at_call 57;refine (bO w0 g HW.out.k p h a c 0 _ A cap HH.out HC.out bq hl hs).mono ?_;intro e w1 hT;obtain ⟨A1,cV,bc,rfl,cu,j0,j1,j2,j4,gI,H1,iC,C1,f1,kj⟩:=kr hT HI HW n1 n2 bq;obtain ⟨r0,r1,r2,r3,ea⟩:=rC HR HW f1 n3 n4;clear hT))
 (try simp only [Exit.inBlock,Exit.then])
 refine bodyPost_ret (results_cell_row rfl _ _ (w.heap.size+1) _ _ _ _ rfl (ea.out.set ⟨2,ii⟩).blk Tryz.underlying62 rfl bk) rfl ?_
 exact ⟨rfl,H1.out.cf (ea.out.cf HW.out.k bN _ _),⟨A,bc,C1.out.box2 (HE.out.le (eU _ _)) bU n3 n4 _ _⟩,((HF.out.fq.trans f1)).box2 bU bN _ _⟩
theorem Jr (hH:Hs w0 g w p h) (hC:Cs w0 w a c) (C:Cw w0 g h) (ho:h.over=false) (hs:c.stk.length≤1000) :
  Calls Tryz.prog 118 #[.pointer (some ⟨p,0,none⟩),.pointer (some ⟨a.q,0,none⟩),.agg (cO 3 ia ib ic ii Q nl q)] w fun e w'=>e=.returned (iA ⟨3,-1⟩)/\Hs w0 g w' p h/\Cs w0 w' a (c.cut 0)/\Fq w0.heap.size g.T a w w':=by
 have cH:=hH.base
 obtain ⟨A,cap,HE,cU,gJ,HF,HH,HC,HI,HR,HW,bN,bU,n1,n2,n3,n4⟩:=jE 3 ia ib ic ii Q nl q hH hC C
 have bq:=ho
 clear hH hC C ho
 have hl:0≤c.stk.length:=Nat.zero_le _
 go_enter Tryz.func118,Tryz.ntmps118
 go_wp2_with ((go_at_call 57;refine (bO w0 g HW.out.k p h a c 0 _ A cap HH.out HC.out bq hl hs).mono ?_;intro e w1 hT;obtain ⟨A1,cV,bc,rfl,cu,j0,j1,j2,j4,gI,H1,iC,C1,f1,kj⟩:=kr hT HI HW n1 n2 bq;obtain ⟨r0,r1,r2,r3,ea⟩:=rC HR HW f1 n3 n4;clear hT))
 (try simp only [Exit.inBlock,Exit.then])
 refine bodyPost_ret (results_cell_row rfl _ _ (w.heap.size+1) _ _ _ _ rfl (ea.out.set ⟨3,-1⟩).blk Tryz.underlying62 rfl bk) rfl ?_
 exact ⟨rfl,H1.out.cf (ea.out.cf HW.out.k bN _ _),⟨A,bc,C1.out.box2 (HE.out.le (eU _ _)) bU n3 n4 _ _⟩,((HF.out.fq.trans f1)).box2 bU bN _ _⟩
end
section
variable (w0:World) (g:Ad) (p:Nat) (h:Hp) (a:Ca) (c:aH) (ia ib ic ii:Int) (Q:Option Addr) (nl q:Nat) (w:World)
theorem Js (hH:Hs w0 g w p h) (hC:Cs w0 w a c) (C:Cw w0 g h) (ho:h.over=false) (hs:c.stk.length≤1000) (hl:2≤c.stk.length) (hx:cP (nth ag (c.top 2) 0).n) (hy:cP (nth ag (c.top 2) 1).n) :
  Calls Tryz.prog 118 #[.pointer (some ⟨p,0,none⟩),.pointer (some ⟨a.q,0,none⟩),.agg (cO 6 ia ib ic ii Q nl q)] w fun e w'=>e=.returned (iA (h.reckV (nth ag (c.top 2) 0) (nth ag (c.top 2) 1) 1 ia))/\Hs w0 g w' p (h.reckH (nth ag (c.top 2) 0) (nth ag (c.top 2) 1) 1 ia)/\Cs w0 w' a (c.cut 2)/\Fq w0.heap.size g.T a w w':=by
 have cH:=hH.base
 obtain ⟨A,cap,HE,cU,gJ,HF,HH,HC,HI,HR,HW,bN,bU,n1,n2,n3,n4⟩:=jE 6 ia ib ic ii Q nl q hH hC C
 have bq:=ho
 clear hH hC C ho
 have HX:Hid (cP (nth ag (c.top 2) 0).n):=hx
 have HY:Hid (cP (nth ag (c.top 2) 1).n):=hy
 clear hx hy
 obtain ⟨V,hV⟩:∃V,h.reckV (nth ag (c.top 2) 0) (nth ag (c.top 2) 1) 1 ia=V:=⟨_,rfl⟩
 rw [hV]
 go_enter Tryz.func118,Tryz.ntmps118
 go_wp2_with ((go_at_call 57;refine (bO w0 g HW.out.k p h a c 2 _ A cap HH.out HC.out bq hl hs).mono ?_;intro e w1 hT;obtain ⟨A1,cV,bc,rfl,cu,j0,j1,j2,j4,gI,H1,iC,C1,f1,kj⟩:=kr hT HI HW n1 n2 bq;obtain ⟨r0,r1,r2,r3,ea⟩:=rC HR HW f1 n3 n4;clear hT;obtain ⟨b,off,rfl,t0,t1,t2,t3,jS⟩:=yI cu (by simp [aC]);have nb:=kI HE.out (by omega) (kj rfl);have Lq:=Ne.symm nb;clear kj;clear cu))
 go_region_held3 (fun w'=>w'.cell? ⟨b,off,none⟩=some (int i64 (nth ag (c.top 2) 0).kind)/\w'.cell? ⟨b,off+1,none⟩=some (int i64 (nth ag (c.top 2) 0).n)/\w'.cell? ⟨b,off+2,none⟩=some (int i64 (nth ag (c.top 2) 1).kind)/\w'.cell? ⟨b,off+2+1,none⟩=some (int i64 (nth ag (c.top 2) 1).n)/\w'.cell? ⟨w.heap.size,1,none⟩=some (int i64 ia))
  (go_keep)
  (first
   | (go_at_call 169;refine (qG w0 g p h (nth ag (c.top 2) 0) (nth ag (c.top 2) 1) 1 ia _ (by first|exact H1.out.cf (Cf.drew (Cf.refl _ _ _))|exact H1.out) HW.out (by omega) HX.out HY.out).mono ?_;rintro e w2 ⟨he,h2,f2⟩;rw [hV] at he;subst he;have F2:Hid (Fr w0.heap.size g.T w1 w2):=Fr.trans (Fr.drew (Fr.refl _ _ _)) f2;clear f2;obtain ⟨u0,u1,u2,u3,Dm⟩:=Pd jS HW F2 (by simp [aC]);obtain ⟨l1,l2,Ag⟩:=Af gI HW F2;obtain ⟨x0,x1,x2,x3,jF⟩:=EY ea HW F2))
 go_wp2
 (try simp only [Exit.inBlock,Exit.then])
 refine bodyPost_ret (results_cell_row rfl _ _ (w.heap.size+1) _ _ _ _ rfl (jF.out.set V).blk Tryz.underlying62 rfl bk) rfl ?_
 exact ⟨rfl,h2.cf (jF.out.cf HW.out.k bN _ _),⟨A,bc,(C1.out.fr HW.out.k F2.out).box2 (HE.out.le (eU _ _)) bU n3 n4 _ _⟩,(((HF.out.fq.trans f1).trans F2.out.fq)).box2 bU bN _ _⟩
theorem Jt (hH:Hs w0 g w p h) (hC:Cs w0 w a c) (C:Cw w0 g h) (ho:h.over=false) (hs:c.stk.length≤1000) (hl:2≤c.stk.length) (hx:cP (nth ag (c.top 2) 0).n) (hy:cP (nth ag (c.top 2) 1).n) :
  Calls Tryz.prog 118 #[.pointer (some ⟨p,0,none⟩),.pointer (some ⟨a.q,0,none⟩),.agg (cO 7 ia ib ic ii Q nl q)] w fun e w'=>e=.returned (iA (h.reckV (nth ag (c.top 2) 0) (nth ag (c.top 2) 1) 2 ia))/\Hs w0 g w' p (h.reckH (nth ag (c.top 2) 0) (nth ag (c.top 2) 1) 2 ia)/\Cs w0 w' a (c.cut 2)/\Fq w0.heap.size g.T a w w':=by
 have cH:=hH.base
 obtain ⟨A,cap,HE,cU,gJ,HF,HH,HC,HI,HR,HW,bN,bU,n1,n2,n3,n4⟩:=jE 7 ia ib ic ii Q nl q hH hC C
 have bq:=ho
 clear hH hC C ho
 have HX:Hid (cP (nth ag (c.top 2) 0).n):=hx
 have HY:Hid (cP (nth ag (c.top 2) 1).n):=hy
 clear hx hy
 obtain ⟨V,hV⟩:∃V,h.reckV (nth ag (c.top 2) 0) (nth ag (c.top 2) 1) 2 ia=V:=⟨_,rfl⟩
 rw [hV]
 go_enter Tryz.func118,Tryz.ntmps118
 go_wp2_with ((go_at_call 57;refine (bO w0 g HW.out.k p h a c 2 _ A cap HH.out HC.out bq hl hs).mono ?_;intro e w1 hT;obtain ⟨A1,cV,bc,rfl,cu,j0,j1,j2,j4,gI,H1,iC,C1,f1,kj⟩:=kr hT HI HW n1 n2 bq;obtain ⟨r0,r1,r2,r3,ea⟩:=rC HR HW f1 n3 n4;clear hT;obtain ⟨b,off,rfl,t0,t1,t2,t3,jS⟩:=yI cu (by simp [aC]);have nb:=kI HE.out (by omega) (kj rfl);have Lq:=Ne.symm nb;clear kj;clear cu))
 go_region_held3 (fun w'=>w'.cell? ⟨b,off,none⟩=some (int i64 (nth ag (c.top 2) 0).kind)/\w'.cell? ⟨b,off+1,none⟩=some (int i64 (nth ag (c.top 2) 0).n)/\w'.cell? ⟨b,off+2,none⟩=some (int i64 (nth ag (c.top 2) 1).kind)/\w'.cell? ⟨b,off+2+1,none⟩=some (int i64 (nth ag (c.top 2) 1).n)/\w'.cell? ⟨w.heap.size,1,none⟩=some (int i64 ia))
  (go_keep)
  (first
   | (go_at_call 169;refine (qG w0 g p h (nth ag (c.top 2) 0) (nth ag (c.top 2) 1) 2 ia _ (by first|exact H1.out.cf (Cf.drew (Cf.refl _ _ _))|exact H1.out) HW.out (by omega) HX.out HY.out).mono ?_;rintro e w2 ⟨he,h2,f2⟩;rw [hV] at he;subst he;have F2:Hid (Fr w0.heap.size g.T w1 w2):=Fr.trans (Fr.drew (Fr.refl _ _ _)) f2;clear f2;obtain ⟨u0,u1,u2,u3,Dm⟩:=Pd jS HW F2 (by simp [aC]);obtain ⟨l1,l2,Ag⟩:=Af gI HW F2;obtain ⟨x0,x1,x2,x3,jF⟩:=EY ea HW F2))
 go_wp2
 (try simp only [Exit.inBlock,Exit.then])
 refine bodyPost_ret (results_cell_row rfl _ _ (w.heap.size+1) _ _ _ _ rfl (jF.out.set V).blk Tryz.underlying62 rfl bk) rfl ?_
 exact ⟨rfl,h2.cf (jF.out.cf HW.out.k bN _ _),⟨A,bc,(C1.out.fr HW.out.k F2.out).box2 (HE.out.le (eU _ _)) bU n3 n4 _ _⟩,(((HF.out.fq.trans f1).trans F2.out.fq)).box2 bU bN _ _⟩
end
section
variable (w0:World) (g:Ad) (p:Nat) (h:Hp) (a:Ca) (c:aH) (ia ib ic ii:Int) (Q:Option Addr) (nl q:Nat) (w:World)
theorem Jv (hH:Hs w0 g w p h) (hC:Cs w0 w a c) (C:Cw w0 g h) (ho:h.over=false) (hs:c.stk.length≤1000) (hl:1≤c.stk.length) :
  Calls Tryz.prog 118 #[.pointer (some ⟨p,0,none⟩),.pointer (some ⟨a.q,0,none⟩),.agg (cO 8 ia ib ic ii Q nl q)] w fun e w'=>e=.returned (iA ⟨2,(nth ag (c.top 1) 0).n⟩)/\Hs w0 g w' p (h.must (decide ((nth ag (c.top 1) 0).kind=1)))/\Cs w0 w' a (c.cut 1)/\Fq w0.heap.size g.T a w w':=by
 have cH:=hH.base
 obtain ⟨A,cap,HE,cU,gJ,HF,HH,HC,HI,HR,HW,bN,bU,n1,n2,n3,n4⟩:=jE 8 ia ib ic ii Q nl q hH hC C
 have bq:=ho
 clear hH hC C ho
 have HD:((nth ag (c.top 1) 0).kind==1)=decide ((nth ag (c.top 1) 0).kind=1):=(by rw [Bool.eq_iff_iff];simp)
 go_enter Tryz.func118,Tryz.ntmps118
 go_wp2_with (first
  | (go_at_call 57;refine (bO w0 g HW.out.k p h a c 1 _ A cap HH.out HC.out bq hl hs).mono ?_;intro e w1 hT;obtain ⟨A1,cV,bc,rfl,cu,j0,j1,j2,j4,gI,H1,iC,C1,f1,kj⟩:=kr hT HI HW n1 n2 bq;obtain ⟨r0,r1,r2,r3,ea⟩:=rC HR HW f1 n3 n4;clear hT;obtain ⟨b,off,rfl,t0,t1,jS⟩:=kl cu (by simp [aC]);have nb:=kI HE.out (by omega) (kj rfl);have Lq:=Ne.symm nb;clear kj;clear cu)
  | (go_at_call 56;refine (bj w0 g HW.out.k p h _ _ H1.out).mono ?_;rintro e w2 ⟨rfl,h2,f2⟩;have F2:Hid (Fr w0.heap.size g.T w1 w2):=f2;clear f2;obtain ⟨u0,u1,Dm⟩:=Lp jS HW F2 (by simp [aC]);obtain ⟨l1,l2,Ag⟩:=Af gI HW F2;obtain ⟨x0,x1,x2,x3,jF⟩:=EY ea HW F2))
 (try simp only [Exit.inBlock,Exit.then])
 refine bodyPost_ret (results_cell_row rfl _ _ (w.heap.size+1) _ _ _ _ rfl (jF.out.set ⟨2,(nth ag (c.top 1) 0).n⟩).blk Tryz.underlying62 rfl bk) rfl ?_
 exact ⟨rfl,h2.cf (jF.out.cf HW.out.k bN _ _),⟨A,bc,(C1.out.fr HW.out.k F2.out).box2 (HE.out.le (eU _ _)) bU n3 n4 _ _⟩,(((HF.out.fq.trans f1).trans F2.out.fq)).box2 bU bN _ _⟩
theorem Jw (hH:Hs w0 g w p h) (hC:Cs w0 w a c) (C:Cw w0 g h) (ho:h.over=false) (hs:c.stk.length≤1000) (hl:1≤c.stk.length) :
  Calls Tryz.prog 118 #[.pointer (some ⟨p,0,none⟩),.pointer (some ⟨a.q,0,none⟩),.agg (cO 9 ia ib ic ii Q nl q)] w fun e w'=>e=.returned (iA ⟨1,wrap32 (nth ag (c.top 1) 0).n⟩)/\Hs w0 g w' p (h.must (decide ((nth ag (c.top 1) 0).kind=2)))/\Cs w0 w' a (c.cut 1)/\Fq w0.heap.size g.T a w w':=by
 have cH:=hH.base
 obtain ⟨A,cap,HE,cU,gJ,HF,HH,HC,HI,HR,HW,bN,bU,n1,n2,n3,n4⟩:=jE 9 ia ib ic ii Q nl q hH hC C
 have bq:=ho
 clear hH hC C ho
 have HD:((nth ag (c.top 1) 0).kind==2)=decide ((nth ag (c.top 1) 0).kind=2):=(by rw [Bool.eq_iff_iff];simp)
 go_enter Tryz.func118,Tryz.ntmps118
 go_wp2_with (first
  | (go_at_call 57;refine (bO w0 g HW.out.k p h a c 1 _ A cap HH.out HC.out bq hl hs).mono ?_;intro e w1 hT;obtain ⟨A1,cV,bc,rfl,cu,j0,j1,j2,j4,gI,H1,iC,C1,f1,kj⟩:=kr hT HI HW n1 n2 bq;obtain ⟨r0,r1,r2,r3,ea⟩:=rC HR HW f1 n3 n4;clear hT;obtain ⟨b,off,rfl,t0,t1,jS⟩:=kl cu (by simp [aC]);have nb:=kI HE.out (by omega) (kj rfl);have Lq:=Ne.symm nb;clear kj;clear cu)
  | (go_at_call 56;refine (bj w0 g HW.out.k p h _ _ H1.out).mono ?_;rintro e w2 ⟨rfl,h2,f2⟩;have F2:Hid (Fr w0.heap.size g.T w1 w2):=f2;clear f2;obtain ⟨u0,u1,Dm⟩:=Lp jS HW F2 (by simp [aC]);obtain ⟨l1,l2,Ag⟩:=Af gI HW F2;obtain ⟨x0,x1,x2,x3,jF⟩:=EY ea HW F2)
  | (go_at_call 51;refine (k8 _ _).mono ?_;rintro e w3 ⟨rfl,lF⟩;rw [lF];clear lF w3))
 (try simp only [Exit.inBlock,Exit.then])
 refine bodyPost_ret (results_cell_row rfl _ _ (w.heap.size+1) _ _ _ _ rfl (jF.out.set ⟨1,wrap32 (nth ag (c.top 1) 0).n⟩).blk Tryz.underlying62 rfl bk) rfl ?_
 exact ⟨rfl,h2.cf (jF.out.cf HW.out.k bN _ _),⟨A,bc,(C1.out.fr HW.out.k F2.out).box2 (HE.out.le (eU _ _)) bU n3 n4 _ _⟩,(((HF.out.fq.trans f1).trans F2.out.fq)).box2 bU bN _ _⟩
theorem Ce (hH:Hs w0 g w p h) (hC:Cs w0 w a c) (C:Cw w0 g h) (ho:h.over=false) (hs:c.stk.length≤1000) (hl:2≤c.stk.length) (hk:(nth ag (c.top 2) 0).kind=2) :
  Calls Tryz.prog 118 #[.pointer (some ⟨p,0,none⟩),.pointer (some ⟨a.q,0,none⟩),.agg (cO 10 ia ib ic ii Q nl q)] w fun e w'=>e=.returned (iA ⟨1,ma (nth ag (c.top 2) 0).n (nth ag (c.top 2) 1).n⟩)/\Hs w0 g w' p (h.must (ct (nth ag (c.top 2) 0) (nth ag (c.top 2) 1) 2))/\Cs w0 w' a (c.cut 2)/\Fq w0.heap.size g.T a w w':=by
 have cH:=hH.base
 obtain ⟨A,cap,HE,cU,gJ,HF,HH,HC,HI,HR,HW,bN,bU,n1,n2,n3,n4⟩:=jE 10 ia ib ic ii Q nl q hH hC C
 have bq:=ho
 clear hH hC C ho
 have Hw:((nth ag (c.top 2) 0).kind==2)=true:=by simpa using hk
 have HD:((nth ag (c.top 2) 1).kind==2)=ct (nth ag (c.top 2) 0) (nth ag (c.top 2) 1) 2:=by unfold ct;rw [decide_eq_true hk,Bool.eq_iff_iff];simp
 clear hk
 go_enter Tryz.func118,Tryz.ntmps118
 go_wp2_with (first
  | (go_at_call 57;refine (bO w0 g HW.out.k p h a c 2 _ A cap HH.out HC.out bq hl hs).mono ?_;intro e w1 hT;obtain ⟨A1,cV,bc,rfl,cu,j0,j1,j2,j4,gI,H1,iC,C1,f1,kj⟩:=kr hT HI HW n1 n2 bq;obtain ⟨r0,r1,r2,r3,ea⟩:=rC HR HW f1 n3 n4;clear hT;obtain ⟨b,off,rfl,t0,t1,t2,t3,jS⟩:=yI cu (by simp [aC]);have nb:=kI HE.out (by omega) (kj rfl);have Lq:=Ne.symm nb;clear kj;clear cu)
  | (go_at_call 56;refine (bj w0 g HW.out.k p h _ _ H1.out).mono ?_;rintro e w2 ⟨rfl,h2,f2⟩;have F2:Hid (Fr w0.heap.size g.T w1 w2):=f2;clear f2;obtain ⟨u0,u1,u2,u3,Dm⟩:=Pd jS HW F2 (by simp [aC]);obtain ⟨l1,l2,Ag⟩:=Af gI HW F2;obtain ⟨x0,x1,x2,x3,jF⟩:=EY ea HW F2))
 go_region_held3 (fun w'=>w'.cell? ⟨b,off+1,none⟩=some (int i64 (nth ag (c.top 2) 0).n)/\w'.cell? ⟨b,off+2+1,none⟩=some (int i64 (nth ag (c.top 2) 1).n))
  (go_keep)
  (first
   | (go_at_call 170;refine (vP _ _ _).mono ?_;rintro e w3 ⟨rfl,lF⟩;rw [lF];clear lF w3))
 go_wp2
 (try simp only [Exit.inBlock,Exit.then])
 have R3:aQ w2.drew (w.heap.size+1) ag:=⟨jF.out.blk⟩
 refine bodyPost_ret (results_cell_row rfl _ _ (w.heap.size+1) _ _ _ _ rfl (R3.set ⟨1,ma (nth ag (c.top 2) 0).n (nth ag (c.top 2) 1).n⟩).blk Tryz.underlying62 rfl bk) rfl ?_
 exact ⟨rfl,(h2.cf (Cf.drew (Cf.refl _ _ _))).cf (R3.cf HW.out.k bN _ _),⟨A,bc,((C1.out.fr HW.out.k F2.out).fr (B:=w0.heap.size) HW.out.k (Fr.drew (Fr.refl _ _ _))).box2 (HE.out.le (eU _ _)) bU n3 n4 _ _⟩,(((HF.out.fq.trans f1).trans F2.out.fq).trans (Fr.fq (Fr.drew (Fr.refl _ _ _)))).box2 bU bN _ _⟩
theorem Cg (hH:Hs w0 g w p h) (hC:Cs w0 w a c) (C:Cw w0 g h) (ho:h.over=false) (hs:c.stk.length≤1000) (hl:2≤c.stk.length) (hk:¬(nth ag (c.top 2) 0).kind=2) :
  Calls Tryz.prog 118 #[.pointer (some ⟨p,0,none⟩),.pointer (some ⟨a.q,0,none⟩),.agg (cO 10 ia ib ic ii Q nl q)] w fun e w'=>e=.returned (iA ⟨1,ma (nth ag (c.top 2) 0).n (nth ag (c.top 2) 1).n⟩)/\Hs w0 g w' p (h.must (ct (nth ag (c.top 2) 0) (nth ag (c.top 2) 1) 2))/\Cs w0 w' a (c.cut 2)/\Fq w0.heap.size g.T a w w':=by
 have cH:=hH.base
 obtain ⟨A,cap,HE,cU,gJ,HF,HH,HC,HI,HR,HW,bN,bU,n1,n2,n3,n4⟩:=jE 10 ia ib ic ii Q nl q hH hC C
 have bq:=ho
 clear hH hC C ho
 have Hw:((nth ag (c.top 2) 0).kind==2)=false:=by simpa using hk
 have HD:ct (nth ag (c.top 2) 0) (nth ag (c.top 2) 1) 2=false:=by unfold ct;rw [decide_eq_false hk];rfl
 rw [HD]
 clear hk HD
 go_enter Tryz.func118,Tryz.ntmps118
 go_wp2_with (first
  | (go_at_call 57;refine (bO w0 g HW.out.k p h a c 2 _ A cap HH.out HC.out bq hl hs).mono ?_;intro e w1 hT;obtain ⟨A1,cV,bc,rfl,cu,j0,j1,j2,j4,gI,H1,iC,C1,f1,kj⟩:=kr hT HI HW n1 n2 bq;obtain ⟨r0,r1,r2,r3,ea⟩:=rC HR HW f1 n3 n4;clear hT;obtain ⟨b,off,rfl,t0,t1,t2,t3,jS⟩:=yI cu (by simp [aC]);have nb:=kI HE.out (by omega) (kj rfl);have Lq:=Ne.symm nb;clear kj;clear cu)
  | (go_at_call 56;refine (bj w0 g HW.out.k p h _ _ H1.out).mono ?_;rintro e w2 ⟨rfl,h2,f2⟩;have F2:Hid (Fr w0.heap.size g.T w1 w2):=f2;clear f2;obtain ⟨u0,u1,u2,u3,Dm⟩:=Pd jS HW F2 (by simp [aC]);obtain ⟨l1,l2,Ag⟩:=Af gI HW F2;obtain ⟨x0,x1,x2,x3,jF⟩:=EY ea HW F2))
 go_region_held3 (fun w'=>w'.cell? ⟨b,off+1,none⟩=some (int i64 (nth ag (c.top 2) 0).n)/\w'.cell? ⟨b,off+2+1,none⟩=some (int i64 (nth ag (c.top 2) 1).n))
  (go_keep)
  (first
   | (go_at_call 170;refine (vP _ _ _).mono ?_;rintro e w3 ⟨rfl,lF⟩;rw [lF];clear lF w3))
 go_wp2
 (try simp only [Exit.inBlock,Exit.then])
 have R3:aQ w2.drew (w.heap.size+1) ag:=⟨jF.out.blk⟩
 refine bodyPost_ret (results_cell_row rfl _ _ (w.heap.size+1) _ _ _ _ rfl (R3.set ⟨1,ma (nth ag (c.top 2) 0).n (nth ag (c.top 2) 1).n⟩).blk Tryz.underlying62 rfl bk) rfl ?_
 exact ⟨rfl,(h2.cf (Cf.drew (Cf.refl _ _ _))).cf (R3.cf HW.out.k bN _ _),⟨A,bc,((C1.out.fr HW.out.k F2.out).fr (B:=w0.heap.size) HW.out.k (Fr.drew (Fr.refl _ _ _))).box2 (HE.out.le (eU _ _)) bU n3 n4 _ _⟩,(((HF.out.fq.trans f1).trans F2.out.fq).trans (Fr.fq (Fr.drew (Fr.refl _ _ _)))).box2 bU bN _ _⟩
end
end Go.Proofs.YtimjmdfokicbkaaGreat
