import Derived.Test.YtgiiapenmjollaaGreatSral
namespace Go.Proofs.YtgiiapenmjollaaGreat
set_option linter.all false
set_option maxHeartbeats 40000000
set_option maxRecDepth 100000
open Go.RowKit
open Go.Value (int)
open Go.IntKind (i64)
section
variable (w0:World) (g:Ad) (p:Nat) (h:Hp) (a:Ca) (c:aH) (ia ib ic ii:Int) (Q:Option Addr) (nl q:Nat) (w:World)
theorem I8 (hH:Hs w0 g w p h) (hC:Cs w0 w a c) (C:Cw w0 g h) (ho:h.over=false) (eP:c.stk.length<=500) (hp:0<=c.pc/\c.pc<=100000) :
  Calls Tryz.prog 58 #[.pointer (some ⟨p,0,none⟩),.pointer (some ⟨a.q,0,none⟩),.agg (cO 11 ia ib ic ii Q nl q)] w fun e w'=>e=.returned (int i64 ia)/\Hs w0 g w' p h/\Cs w0 w' a c/\Fq w0.heap.size g.T a w w':=by
 have cI:=hH.base
 obtain ⟨A,cap,cV,gJ,HF,HH,HC,d10,HI,HW,n1,n2,qL,qM,k1,k2,hs⟩:=dpre 11 ia ib ic ii Q nl q hH hC C eP
 have br:=ho
 clear hH hC C ho
 go_enter Tryz.func58,Tryz.ntmps58
 go_wp2
 go_ret
 exact ⟨rfl,HH.out,⟨A,cap,HC.out⟩,HF.out.fq⟩
theorem I9 (hH:Hs w0 g w p h) (hC:Cs w0 w a c) (C:Cw w0 g h) (ho:h.over=false) (eP:c.stk.length<=500) (hp:0<=c.pc/\c.pc<=100000) :
  Calls Tryz.prog 58 #[.pointer (some ⟨p,0,none⟩),.pointer (some ⟨a.q,0,none⟩),.agg (cO 22 ia ib ic ii Q nl q)] w fun e w'=>e=.returned (int i64 (c.pc+1))/\Hs w0 g w' p (h.must (c.has 1))/\Cs w0 w' a (c.cut 1)/\Fq w0.heap.size g.T a w w':=by
 have cI:=hH.base
 obtain ⟨A,cap,cV,gJ,HF,HH,HC,d10,HI,HW,n1,n2,qL,qM,k1,k2,hs⟩:=dpre 22 ia ib ic ii Q nl q hH hC C eP
 have br:=ho
 clear hH hC C ho
 go_enter Tryz.func58,Tryz.ntmps58
 go_wp2_with (go_at_call 56;refine (EP w0 g HW.out.k p h a c 1 _ A cap HH.out HC.out br (by omega) hs).mono ?_;rintro e w1 ⟨A1,cW,bd,rfl,de,h1,c1,f1,-⟩)
 go_ret
 exact ⟨rfl,h1,⟨A,bd,c1⟩,HF.out.fq.trans f1⟩
theorem BV (hH:Hs w0 g w p h) (hC:Cs w0 w a c) (C:Cw w0 g h) (ho:h.over=false) (eP:c.stk.length<=500) (hp:0<=c.pc/\c.pc<=100000) (hl:c.stk.length<1) :
  Calls Tryz.prog 58 #[.pointer (some ⟨p,0,none⟩),.pointer (some ⟨a.q,0,none⟩),.agg (cO 21 ia ib ic ii Q nl q)] w fun e w'=>e=.returned (int i64 (c.pc+1))/\Hs w0 g w' p (h.fin 6)/\Cs w0 w' a c/\Fq w0.heap.size g.T a w w':=by
 have cI:=hH.base
 obtain ⟨A,cap,cV,gJ,HF,HH,HC,d10,HI,HW,n1,n2,qL,qM,k1,k2,hs⟩:=dpre 21 ia ib ic ii Q nl q hH hC C eP
 have br:=ho
 clear hH hC C ho
 have l9:Hid ((h.fin 6).over=true):=by simp [Hp.fin,br,Hid]
 go_enter Tryz.func58,Tryz.ntmps58
 go_wp2_with ((go_at_call 56;refine (dK w0 g HW.out.k p h a c 1 _ A cap HH.out HC.out br hl (by omega)).mono ?_;intro e w1 hT;obtain ⟨A1,cW,bd,rfl,de,j0,j1,j2,j4,gI,H1,iH,C1,f1,-⟩:=ky hT HI HW n1 n2 l9.out;have F1:Hid (Fq w0.heap.size g.T a w w1):=Fq.trans HF.out.fq f1;clear hT f1))
 go_ret
 exact ⟨rfl,H1.out,⟨A,bd,C1.out⟩,F1.out⟩
theorem BW (hH:Hs w0 g w p h) (hC:Cs w0 w a c) (C:Cw w0 g h) (ho:h.over=false) (eP:c.stk.length<=500) (hp:0<=c.pc/\c.pc<=100000) (hl:c.stk.length<1) :
  Calls Tryz.prog 58 #[.pointer (some ⟨p,0,none⟩),.pointer (some ⟨a.q,0,none⟩),.agg (cO 24 ia ib ic ii Q nl q)] w fun e w'=>e=.returned (int i64 (c.pc+1))/\Hs w0 g w' p (h.fin 6)/\Cs w0 w' a c/\Fq w0.heap.size g.T a w w':=by
 have cI:=hH.base
 obtain ⟨A,cap,cV,gJ,HF,HH,HC,d10,HI,HW,n1,n2,qL,qM,k1,k2,hs⟩:=dpre 24 ia ib ic ii Q nl q hH hC C eP
 have br:=ho
 clear hH hC C ho
 have l9:Hid ((h.fin 6).over=true):=by simp [Hp.fin,br,Hid]
 go_enter Tryz.func58,Tryz.ntmps58
 go_wp2_with ((go_at_call 56;refine (dK w0 g HW.out.k p h a c 1 _ A cap HH.out HC.out br hl (by omega)).mono ?_;intro e w1 hT;obtain ⟨A1,cW,bd,rfl,de,j0,j1,j2,j4,gI,H1,iH,C1,f1,-⟩:=ky hT HI HW n1 n2 l9.out;have F1:Hid (Fq w0.heap.size g.T a w w1):=Fq.trans HF.out.fq f1;clear hT f1))
 go_ret
 exact ⟨rfl,H1.out,⟨A,bd,C1.out⟩,F1.out⟩
theorem Ja (hH:Hs w0 g w p h) (hC:Cs w0 w a c) (C:Cw w0 g h) (ho:h.over=false) (eP:c.stk.length<=500) (hp:0<=c.pc/\c.pc<=100000) (hl:1<=c.stk.length) :
  Calls Tryz.prog 58 #[.pointer (some ⟨p,0,none⟩),.pointer (some ⟨a.q,0,none⟩),.agg (cO 21 ia ib ic ii Q nl q)] w fun e w'=>e=.returned (int i64 (c.pc+1))/\Hs w0 g w' p (h.throw (nth ag (c.top 1) 0))/\Cs w0 w' a (c.cut 1)/\Fq w0.heap.size g.T a w w':=by
 have cI:=hH.base
 obtain ⟨A,cap,cV,gJ,HF,HH,HC,d10,HI,HW,n1,n2,qL,qM,k1,k2,hs⟩:=dpre 21 ia ib ic ii Q nl q hH hC C eP
 have br:=ho
 clear hH hC C ho
 go_enter Tryz.func58,Tryz.ntmps58
 go_wp2_with (first
  | (go_at_call 56;refine (bP w0 g HW.out.k p h a c 1 _ A cap HH.out HC.out br hl hs).mono ?_;intro e w1 hT;obtain ⟨A1,cW,bd,rfl,de,j0,j1,j2,j4,gI,H1,iH,C1,f1,-⟩:=ky hT HI HW n1 n2 br;have F1:Hid (Fq w0.heap.size g.T a w w1):=Fq.trans HF.out.fq f1;clear hT f1;obtain ⟨b,off,rfl,t0,t1,jW⟩:=ko de (by simp [aC]);clear de)
  | (go_at_call 113;refine (BR w0 g p h (nth ag (c.top 1) 0) _ H1.out HW.out).mono ?_;rintro e w2 ⟨rfl,h2,f2⟩))
 go_ret
 exact ⟨rfl,h2,⟨A,bd,C1.out.fr HW.out.k f2⟩,F1.out.trans f2.fq⟩
theorem Jb (hH:Hs w0 g w p h) (hC:Cs w0 w a c) (C:Cw w0 g h) (ho:h.over=false) (eP:c.stk.length<=500) (hp:0<=c.pc/\c.pc<=100000) (hl:1<=c.stk.length) (Jc:h.sh.out.length<=60000) :
  Calls Tryz.prog 58 #[.pointer (some ⟨p,0,none⟩),.pointer (some ⟨a.q,0,none⟩),.agg (cO 24 ia ib ic ii Q nl q)] w fun e w'=>e=.returned (int i64 (c.pc+1))/\Hs w0 g w' p (h.emit (nth ag (c.top 1) 0) ia)/\Cs w0 w' a (c.cut 1)/\Fq w0.heap.size g.T a w w':=by
 have cI:=hH.base
 obtain ⟨A,cap,cV,gJ,HF,HH,HC,d10,HI,HW,n1,n2,qL,qM,k1,k2,hs⟩:=dpre 24 ia ib ic ii Q nl q hH hC C eP
 have br:=ho
 clear hH hC C ho
 go_enter Tryz.func58,Tryz.ntmps58
 go_wp2_with ((go_at_call 56;refine (bP w0 g HW.out.k p h a c 1 _ A cap HH.out HC.out br hl hs).mono ?_;intro e w1 hT;obtain ⟨A1,cW,bd,rfl,de,j0,j1,j2,j4,gI,H1,iH,C1,f1,-⟩:=ky hT HI HW n1 n2 br;have F1:Hid (Fq w0.heap.size g.T a w w1):=Fq.trans HF.out.fq f1;clear hT f1;obtain ⟨b,off,rfl,t0,t1,jW⟩:=ko de (by simp [aC]);clear de))
 go_region_held3 (fun w'=>w'.cell? ⟨b,off,none⟩=some (int i64 (nth ag (c.top 1) 0).kind)/\w'.cell? ⟨b,off+1,none⟩=some (int i64 (nth ag (c.top 1) 0).n)/\w'.cell? ⟨w.heap.size,1,none⟩=some (int i64 ia))
  (go_keep)
  (first
   | (go_at_call 114;refine (EC w0 g HW.out.k p h (nth ag (c.top 1) 0) ia _ (by first|exact H1.out.cf (Cf.drew (Cf.refl _ _ _))|exact H1.out) Jc).mono ?_;rintro e w2 ⟨rfl,h2,f2⟩;have F2:Hid (Fr w0.heap.size g.T w1 w2):=Fr.trans (Fr.drew (Fr.refl _ _ _)) f2;clear f2;obtain ⟨u0,u1,Dl⟩:=Lg jW HW F2 (by simp [aC]);obtain ⟨l1,l2,Af⟩:=Ae gI HW F2))
 go_wp2
 go_ret
 exact ⟨rfl,h2,⟨A,bd,C1.out.fr HW.out.k F2.out⟩,F1.out.trans F2.out.fq⟩
end
section
variable (w0:World) (g:Ad) (p:Nat) (h:Hp) (a:Ca) (c:aH) (ia ib ic ii:Int) (Q:Option Addr) (nl q:Nat) (w:World)
theorem BX (hH:Hs w0 g w p h) (hC:Cs w0 w a c) (C:Cw w0 g h) (ho:h.over=false) (eP:c.stk.length<=500) (hp:0<=c.pc/\c.pc<=100000) (hl:c.stk.length<1) :
  Calls Tryz.prog 58 #[.pointer (some ⟨p,0,none⟩),.pointer (some ⟨a.q,0,none⟩),.agg (cO 13 ia ib ic ii Q nl q)] w fun e w'=>e=.returned (int i64 (c.pc+1))/\Hs w0 g w' p (h.fin 6)/\Cs w0 w' a c/\Fq w0.heap.size g.T a w w':=by
 have cI:=hH.base
 obtain ⟨A,cap,cV,gJ,HF,HH,HC,d10,HI,HW,n1,n2,qL,qM,k1,k2,hs⟩:=dpre 13 ia ib ic ii Q nl q hH hC C eP
 have br:=ho
 clear hH hC C ho
 have l9:Hid ((h.fin 6).over=true):=by simp [Hp.fin,br,Hid]
 have wT:Hid ((h.fin 6).mustB false=false):=rfl
 have sG:Hid ((h.fin 6).must false=h.fin 6):=by show (h.fin 6).fin 6=h.fin 6;simp [Hp.fin,br]
 have hz:((nth ag (List.replicate 1 ag) 0).kind==3)=false:=by rfl
 go_enter Tryz.func58,Tryz.ntmps58
 go_wp2_with (first
  | (go_at_call 56;refine (dK w0 g HW.out.k p h a c 1 _ A cap HH.out HC.out br hl (by omega)).mono ?_;intro e w1 hT;obtain ⟨A1,cW,bd,rfl,de,j0,j1,j2,j4,gI,H1,iH,C1,f1,-⟩:=ky hT HI HW n1 n2 l9.out;have F1:Hid (Fq w0.heap.size g.T a w w1):=Fq.trans HF.out.fq f1;clear hT f1;obtain ⟨b,off,rfl,t0,t1,jW⟩:=ko de (by simp [aC]);clear de)
  | (go_at_call 55;refine (bk w0 g HW.out.k p (h.fin 6) false _ H1.out).mono ?_;rintro e w2 ⟨he,h2,f2⟩;rw [wT.out] at he;subst he;rw [sG.out] at h2))
 go_ret
 exact ⟨rfl,h2,⟨A,bd,C1.out.fr HW.out.k f2⟩,F1.out.trans f2.fq⟩
theorem ET (hH:Hs w0 g w p h) (hC:Cs w0 w a c) (C:Cw w0 g h) (ho:h.over=false) (eP:c.stk.length<=500) (hp:0<=c.pc/\c.pc<=100000) (hl:1<=c.stk.length) (hk:¬(nth ag (c.top 1) 0).kind=3) :
  Calls Tryz.prog 58 #[.pointer (some ⟨p,0,none⟩),.pointer (some ⟨a.q,0,none⟩),.agg (cO 13 ia ib ic ii Q nl q)] w fun e w'=>e=.returned (int i64 (c.pc+1))/\Hs w0 g w' p (h.fin 6)/\Cs w0 w' a (c.cut 1)/\Fq w0.heap.size g.T a w w':=by
 have cI:=hH.base
 obtain ⟨A,cap,cV,gJ,HF,HH,HC,d10,HI,HW,n1,n2,qL,qM,k1,k2,hs⟩:=dpre 13 ia ib ic ii Q nl q hH hC C eP
 have br:=ho
 clear hH hC C ho
 have wT:Hid (h.mustB false=false):=rfl
 have sG:Hid (h.must false=h.fin 6):=rfl
 have hz:((nth ag (c.top 1) 0).kind==3)=false:=by simpa using hk
 clear hk
 go_enter Tryz.func58,Tryz.ntmps58
 go_wp2_with (first
  | (go_at_call 56;refine (bP w0 g HW.out.k p h a c 1 _ A cap HH.out HC.out br hl hs).mono ?_;intro e w1 hT;obtain ⟨A1,cW,bd,rfl,de,j0,j1,j2,j4,gI,H1,iH,C1,f1,-⟩:=ky hT HI HW n1 n2 br;have F1:Hid (Fq w0.heap.size g.T a w w1):=Fq.trans HF.out.fq f1;clear hT f1;obtain ⟨b,off,rfl,t0,t1,jW⟩:=ko de (by simp [aC]);clear de)
  | (go_at_call 55;refine (bk w0 g HW.out.k p h false _ H1.out).mono ?_;rintro e w2 ⟨he,h2,f2⟩;rw [wT.out] at he;subst he;rw [sG.out] at h2))
 go_ret
 exact ⟨rfl,h2,⟨A,bd,C1.out.fr HW.out.k f2⟩,F1.out.trans f2.fq⟩
theorem EU (hH:Hs w0 g w p h) (hC:Cs w0 w a c) (C:Cw w0 g h) (ho:h.over=false) (eP:c.stk.length<=500) (hp:0<=c.pc/\c.pc<=100000) (hl:1<=c.stk.length) (hk:(nth ag (c.top 1) 0).kind=3) (hn:(nth ag (c.top 1) 0).n<0) :
  Calls Tryz.prog 58 #[.pointer (some ⟨p,0,none⟩),.pointer (some ⟨a.q,0,none⟩),.agg (cO 13 ia ib ic ii Q nl q)] w fun e w'=>e=.returned (int i64 ia)/\Hs w0 g w' p h/\Cs w0 w' a (c.cut 1)/\Fq w0.heap.size g.T a w w':=by
 have cI:=hH.base
 obtain ⟨A,cap,cV,gJ,HF,HH,HC,d10,HI,HW,n1,n2,qL,qM,k1,k2,hs⟩:=dpre 13 ia ib ic ii Q nl q hH hC C eP
 have br:=ho
 clear hH hC C ho
 have qK:(!h.over)=true:=by rw [br];rfl
 have hz:((nth ag (c.top 1) 0).kind==3)=true:=by simpa using hk
 have hd:decide ((nth ag (c.top 1) 0).n<0)=true:=decide_eq_true hn
 clear hk
 go_enter Tryz.func58,Tryz.ntmps58
 go_wp2_with (first
  | (go_at_call 56;refine (bP w0 g HW.out.k p h a c 1 _ A cap HH.out HC.out br hl hs).mono ?_;intro e w1 hT;obtain ⟨A1,cW,bd,rfl,de,j0,j1,j2,j4,gI,H1,iH,C1,f1,-⟩:=ky hT HI HW n1 n2 br;have F1:Hid (Fq w0.heap.size g.T a w w1):=Fq.trans HF.out.fq f1;clear hT f1;obtain ⟨b,off,rfl,t0,t1,jW⟩:=ko de (by simp [aC]);clear de)
  | (go_at_call 55;refine (dj w0 g p h _ H1.out).mono ?_;rintro e w2 ⟨he,eK⟩;rw [qK] at he;subst he;rw [eK];clear eK w2))
 go_ret
 exact ⟨rfl,H1.out,⟨A,bd,C1.out⟩,F1.out⟩
theorem EW (hH:Hs w0 g w p h) (hC:Cs w0 w a c) (C:Cw w0 g h) (ho:h.over=false) (eP:c.stk.length<=500) (hp:0<=c.pc/\c.pc<=100000) (hl:1<=c.stk.length) (hk:(nth ag (c.top 1) 0).kind=3) (hn:¬(nth ag (c.top 1) 0).n<0) :
  Calls Tryz.prog 58 #[.pointer (some ⟨p,0,none⟩),.pointer (some ⟨a.q,0,none⟩),.agg (cO 13 ia ib ic ii Q nl q)] w fun e w'=>e=.returned (int i64 (c.pc+1))/\Hs w0 g w' p h/\Cs w0 w' a (c.cut 1)/\Fq w0.heap.size g.T a w w':=by
 have cI:=hH.base
 obtain ⟨A,cap,cV,gJ,HF,HH,HC,d10,HI,HW,n1,n2,qL,qM,k1,k2,hs⟩:=dpre 13 ia ib ic ii Q nl q hH hC C eP
 have br:=ho
 clear hH hC C ho
 have qK:(!h.over)=true:=by rw [br];rfl
 have hz:((nth ag (c.top 1) 0).kind==3)=true:=by simpa using hk
 have hd:decide ((nth ag (c.top 1) 0).n<0)=false:=decide_eq_false hn
 clear hk
 go_enter Tryz.func58,Tryz.ntmps58
 go_wp2_with (first
  | (go_at_call 56;refine (bP w0 g HW.out.k p h a c 1 _ A cap HH.out HC.out br hl hs).mono ?_;intro e w1 hT;obtain ⟨A1,cW,bd,rfl,de,j0,j1,j2,j4,gI,H1,iH,C1,f1,-⟩:=ky hT HI HW n1 n2 br;have F1:Hid (Fq w0.heap.size g.T a w w1):=Fq.trans HF.out.fq f1;clear hT f1;obtain ⟨b,off,rfl,t0,t1,jW⟩:=ko de (by simp [aC]);clear de)
  | (go_at_call 55;refine (dj w0 g p h _ H1.out).mono ?_;rintro e w2 ⟨he,eK⟩;rw [qK] at he;subst he;rw [eK];clear eK w2))
 go_ret
 exact ⟨rfl,H1.out,⟨A,bd,C1.out⟩,F1.out⟩
theorem EX (hH:Hs w0 g w p h) (hC:Cs w0 w a c) (C:Cw w0 g h) (ho:h.over=false) (eP:c.stk.length<=500) (hp:0<=c.pc/\c.pc<=100000) (hl:1<=c.stk.length) (hk:(nth ag (c.top 1) 0).kind=1) (hr:jB ib (nth ag (c.top 1) 0).n=true) :
  Calls Tryz.prog 58 #[.pointer (some ⟨p,0,none⟩),.pointer (some ⟨a.q,0,none⟩),.agg (cO 12 ia ib ic ii Q nl q)] w fun e w'=>e=.returned (int i64 ia)/\Hs w0 g w' p h/\Cs w0 w' a (c.cut 1)/\Fq w0.heap.size g.T a w w':=by
 have cI:=hH.base
 obtain ⟨A,cap,cV,gJ,HF,HH,HC,d10,HI,HW,n1,n2,qL,qM,k1,k2,hs⟩:=dpre 12 ia ib ic ii Q nl q hH hC C eP
 have br:=ho
 clear hH hC C ho
 have qK:(!h.over)=true:=by rw [br];rfl
 have EY:Hid (jB ib (nth ag (c.top 1) 0).n=true):=hr
 have hz:((nth ag (c.top 1) 0).kind==1)=true:=by simpa using hk
 clear hk hr
 go_enter Tryz.func58,Tryz.ntmps58
 go_wp2_with ((go_at_call 56;refine (bP w0 g HW.out.k p h a c 1 _ A cap HH.out HC.out br hl hs).mono ?_;intro e w1 hT;obtain ⟨A1,cW,bd,rfl,de,j0,j1,j2,j4,gI,H1,iH,C1,f1,-⟩:=ky hT HI HW n1 n2 br;have F1:Hid (Fq w0.heap.size g.T a w w1):=Fq.trans HF.out.fq f1;clear hT f1;obtain ⟨b,off,rfl,t0,t1,jW⟩:=ko de (by simp [aC]);clear de))
 go_region_held3 (fun w'=>w'.cell? ⟨b,off,none⟩=some (int i64 (nth ag (c.top 1) 0).kind)/\w'.cell? ⟨b,off+1,none⟩=some (int i64 (nth ag (c.top 1) 0).n)/\w'.cell? ⟨w.heap.size,2,none⟩=some (int i64 ib))
  (go_keep)
  (first
   | (go_at_call 55;refine (dj w0 g p h _ (by first|exact H1.out.cf (Cf.drew (Cf.refl _ _ _))|exact H1.out)).mono ?_;rintro e w2 ⟨he,eK⟩;rw [qK] at he;subst he;rw [eK];clear eK w2)
   | (go_at_call 111;refine (pY _ _ _).mono ?_;rintro e w3 ⟨he,lH⟩;rw [EY.out] at he;subst he;rw [lH];clear lH w3))
 go_wp2
 go_ret
 have FD:Fr w0.heap.size g.T w1 w1.drew:=Fr.drew (Fr.refl _ _ _)
 exact ⟨rfl,H1.out.cf (Cf.drew (Cf.refl _ _ _)),⟨A,bd,C1.out.fr HW.out.k FD⟩,F1.out.trans FD.fq⟩
theorem EZ (hH:Hs w0 g w p h) (hC:Cs w0 w a c) (C:Cw w0 g h) (ho:h.over=false) (eP:c.stk.length<=500) (hp:0<=c.pc/\c.pc<=100000) (hl:1<=c.stk.length) (hk:(nth ag (c.top 1) 0).kind=1) (hr:jB ib (nth ag (c.top 1) 0).n=false) :
  Calls Tryz.prog 58 #[.pointer (some ⟨p,0,none⟩),.pointer (some ⟨a.q,0,none⟩),.agg (cO 12 ia ib ic ii Q nl q)] w fun e w'=>e=.returned (int i64 (c.pc+1))/\Hs w0 g w' p h/\Cs w0 w' a (c.cut 1)/\Fq w0.heap.size g.T a w w':=by
 have cI:=hH.base
 obtain ⟨A,cap,cV,gJ,HF,HH,HC,d10,HI,HW,n1,n2,qL,qM,k1,k2,hs⟩:=dpre 12 ia ib ic ii Q nl q hH hC C eP
 have br:=ho
 clear hH hC C ho
 have qK:(!h.over)=true:=by rw [br];rfl
 have EY:Hid (jB ib (nth ag (c.top 1) 0).n=false):=hr
 have hz:((nth ag (c.top 1) 0).kind==1)=true:=by simpa using hk
 clear hk hr
 go_enter Tryz.func58,Tryz.ntmps58
 go_wp2_with ((go_at_call 56;refine (bP w0 g HW.out.k p h a c 1 _ A cap HH.out HC.out br hl hs).mono ?_;intro e w1 hT;obtain ⟨A1,cW,bd,rfl,de,j0,j1,j2,j4,gI,H1,iH,C1,f1,-⟩:=ky hT HI HW n1 n2 br;have F1:Hid (Fq w0.heap.size g.T a w w1):=Fq.trans HF.out.fq f1;clear hT f1;obtain ⟨b,off,rfl,t0,t1,jW⟩:=ko de (by simp [aC]);clear de))
 go_region_held3 (fun w'=>w'.cell? ⟨b,off,none⟩=some (int i64 (nth ag (c.top 1) 0).kind)/\w'.cell? ⟨b,off+1,none⟩=some (int i64 (nth ag (c.top 1) 0).n)/\w'.cell? ⟨w.heap.size,2,none⟩=some (int i64 ib))
  (go_keep)
  (first
   | (go_at_call 55;refine (dj w0 g p h _ (by first|exact H1.out.cf (Cf.drew (Cf.refl _ _ _))|exact H1.out)).mono ?_;rintro e w2 ⟨he,eK⟩;rw [qK] at he;subst he;rw [eK];clear eK w2)
   | (go_at_call 111;refine (pY _ _ _).mono ?_;rintro e w3 ⟨he,lH⟩;rw [EY.out] at he;subst he;rw [lH];clear lH w3))
 go_wp2
 go_ret
 have FD:Fr w0.heap.size g.T w1 w1.drew:=Fr.drew (Fr.refl _ _ _)
 exact ⟨rfl,H1.out.cf (Cf.drew (Cf.refl _ _ _)),⟨A,bd,C1.out.fr HW.out.k FD⟩,F1.out.trans FD.fq⟩
theorem BZ (hH:Hs w0 g w p h) (hC:Cs w0 w a c) (C:Cw w0 g h) (ho:h.over=false) (eP:c.stk.length<=500) (hp:0<=c.pc/\c.pc<=100000) (hl:c.stk.length<1) :
  Calls Tryz.prog 58 #[.pointer (some ⟨p,0,none⟩),.pointer (some ⟨a.q,0,none⟩),.agg (cO 12 ia ib ic ii Q nl q)] w fun e w'=>e=.returned (int i64 (c.pc+1))/\Hs w0 g w' p (h.fin 6)/\Cs w0 w' a c/\Fq w0.heap.size g.T a w w':=by
 have cI:=hH.base
 obtain ⟨A,cap,cV,gJ,HF,HH,HC,d10,HI,HW,n1,n2,qL,qM,k1,k2,hs⟩:=dpre 12 ia ib ic ii Q nl q hH hC C eP
 have br:=ho
 clear hH hC C ho
 have l9:Hid ((h.fin 6).over=true):=by simp [Hp.fin,br,Hid]
 have sG:Hid ((h.fin 6).must false=h.fin 6):=by show (h.fin 6).fin 6=h.fin 6;simp [Hp.fin,br]
 have hz:((nth ag (List.replicate 1 ag) 0).kind==1)=false:=by rfl
 have wT:Hid (Hp.mustB (h.fin 6) false=false):=rfl
 go_enter Tryz.func58,Tryz.ntmps58
 go_wp2_with ((go_at_call 56;refine (dK w0 g HW.out.k p h a c 1 _ A cap HH.out HC.out br hl (by omega)).mono ?_;intro e w1 hT;obtain ⟨A1,cW,bd,rfl,de,j0,j1,j2,j4,gI,H1,iH,C1,f1,-⟩:=ky hT HI HW n1 n2 l9.out;have F1:Hid (Fq w0.heap.size g.T a w w1):=Fq.trans HF.out.fq f1;clear hT f1;obtain ⟨b,off,rfl,t0,t1,jW⟩:=ko de (by simp [aC]);clear de))
 refine wp_region_held_drew (S:=fun w'=>w'.cell? ⟨b,off,none⟩=some (int i64 (nth ag (List.replicate 1 ag) 0).kind)) (by kernel_rfl) ?_ (fun hHeld=>?_)
 ·exact t0
 refine bR (i:=0) (d:=some 36) (v:=?_) rfl rfl (by kernel_rfl) (by kernel_rfl) (by kernel_rfl) (fun _ _ _ h=>h) (by rfl) ?_ hHeld ?_
 rotate_left 1
 ·intro w' hSw;go_simp<;>with_reducible rfl
 try simp only [aS,aN,aT,a0,a1]
 refine bR (i:=1) (d:=some 37) (v:=?_) rfl rfl (by kernel_rfl) (by kernel_rfl) (by kernel_rfl) (fun _ _ _ h=>h) (by rfl) ?_ hHeld ?_
 rotate_left 1
 ·intro w' hSw;go_simp<;>with_reducible rfl
 try simp only [aS,aN,aT,a0,a1]
 refine bR (i:=2) (d:=some 38) (v:=?_) rfl rfl (by kernel_rfl) (by kernel_rfl) (by kernel_rfl) (fun _ _ _ h=>h) (by rfl) ?_ hHeld ?_
 rotate_left 1
 ·intro w' hSw;go_simp<;>with_reducible rfl
 try simp only [aS,aN,aT,a0,a1]
 refine bR (i:=3) (d:=some 39) (v:=?_) rfl rfl (by kernel_rfl) (by kernel_rfl) (by kernel_rfl) (fun _ _ _ h=>h) (by rfl) ?_ hHeld ?_
 rotate_left 1
 ·intro w' hSw;go_simp<;>with_reducible rfl
 try simp only [aS,aN,aT,a0,a1]
 refine bR (i:=4) (d:=some 40) (v:=?_) rfl rfl (by kernel_rfl) (by kernel_rfl) (by kernel_rfl) (fun _ _ _ h=>h) (by rfl) ?_ hHeld ?_
 rotate_left 1
 ·intro w' hSw;go_simp<;>with_reducible rfl
 try simp only [aS,aN,aT,a0,a1]
 refine bR (i:=5) (d:=some 41) (v:=?_) rfl rfl (by kernel_rfl) (by kernel_rfl) (by kernel_rfl) (fun _ _ _ h=>h) (by rfl) ?_ hHeld ?_
 rotate_left 1
 ·intro w' hSw;go_simp<;>with_reducible rfl
 try simp only [aS,aN,aT,a0,a1]
 refine wpAnyH_ready (rs:=[6]) (by kernel_rfl) (by simp) ?_
 refine AllReadyH.cons rfl (fun K hK=>?_) AllReadyH.nil
 go_simp
 go_at_call 55
 refine (bk w0 g HW.out.k p (h.fin 6) false _ (H1.out.cf (Cf.drew (Cf.refl _ _ _)))).mono ?_
 rintro e w2 ⟨he,h2,f2⟩
 rw [wT.out] at he
 subst he
 rw [sG.out] at h2
 have F2:Hid (Fr w0.heap.size g.T w1 w2):=Fr.trans (Fr.drew (Fr.refl _ _ _)) f2
 have u0:w2.cell? ⟨b,off,none⟩=some (int i64 (nth ag (List.replicate 1 ag) 0).kind):=by
  have s2:=jW.out.fr HW.out.k F2.out
  obtain ⟨b',gj,Ag,vE⟩:=s2.fst (by simp [aC])
  simp only [Option.some.injEq,Addr.mk.injEq] at Ag
  obtain ⟨rfl,rfl,-⟩:=Ag
  have:=(vE 0 (by simp [aC])).1
  rw [Nat.zero_mul,Nat.add_zero] at this
  exact this
 go_wp2_with fail
 refine hK.out _ _ u0 (fun ah=>?_)
 clear hK K
 try simp only [aS,aN,aT,a0,a1]
 refine bR (i:=7) (d:=some 43) (v:=?_) rfl rfl (by kernel_rfl) (by kernel_rfl) (by kernel_rfl) (fun _ _ _ h=>h) (by rfl) ?_ ah ?_
 rotate_left 1
 ·intro w' hSw;go_simp<;>with_reducible rfl
 try simp only [aS,aN,aT,a0,a1]
 refine bt (i:=8) (d:=some 44) rfl rfl (by kernel_rfl) (by kernel_rfl) (by kernel_rfl) (fun _ _ _ h=>h) (by rfl) ah ?_
 try simp only [aS,aN,aT,a0,a1]
 refine bt (i:=9) (d:=some 45) rfl rfl (by kernel_rfl) (by kernel_rfl) (by kernel_rfl) (fun _ _ _ h=>h) (by rfl) ah ?_
 try simp only [aS,aN,aT,a0,a1]
 refine bt (i:=10) (d:=some 46) rfl rfl (by kernel_rfl) (by kernel_rfl) (by kernel_rfl) (fun _ _ _ h=>h) (by rfl) ah ?_
 try simp only [aS,aN,aT,a0,a1]
 refine bt (i:=11) (d:=some 47) rfl rfl (by kernel_rfl) (by kernel_rfl) (by kernel_rfl) (fun _ _ _ h=>h) (by rfl) ah ?_
 try simp only [aS,aN,aT,a0,a1]
 refine bt (i:=12) (d:=some 48) rfl rfl (by kernel_rfl) (by kernel_rfl) (by kernel_rfl) (fun _ _ _ h=>h) (by rfl) ah ?_
 try simp only [aS,aN,aT,a0,a1]
 refine bt (i:=13) (d:=some 49) rfl rfl (by kernel_rfl) (by kernel_rfl) (by kernel_rfl) (fun _ _ _ h=>h) (by rfl) ah ?_
 try simp only [aS,aN,aT,a0,a1]
 refine bt (i:=14) (d:=some 50) rfl rfl (by kernel_rfl) (by kernel_rfl) (by kernel_rfl) (fun _ _ _ h=>h) (by rfl) ah ?_
 try simp only [aS,aN,aT,a0,a1]
 refine bR (i:=15) (d:=some 51) (v:=?_) rfl rfl (by kernel_rfl) (by kernel_rfl) (by kernel_rfl) (fun _ _ _ h=>h) (by rfl) ?_ ah ?_
 rotate_left 1
 ·intro w' hSw;go_simp<;>with_reducible rfl
 try simp only [aS,aN,aT,a0,a1]
 refine wpAnyH_done (by kernel_rfl) ?_ _
 go_wp2
 go_ret
 exact ⟨rfl,h2,⟨A,bd,C1.out.fr HW.out.k F2.out⟩,F1.out.trans F2.out.fq⟩
theorem Eu (hH:Hs w0 g w p h) (hC:Cs w0 w a c) (C:Cw w0 g h) (ho:h.over=false) (eP:c.stk.length<=500) (hp:0<=c.pc/\c.pc<=100000) (hl:1<=c.stk.length) (hk:¬(nth ag (c.top 1) 0).kind=1) :
  Calls Tryz.prog 58 #[.pointer (some ⟨p,0,none⟩),.pointer (some ⟨a.q,0,none⟩),.agg (cO 12 ia ib ic ii Q nl q)] w fun e w'=>e=.returned (int i64 (c.pc+1))/\Hs w0 g w' p (h.fin 6)/\Cs w0 w' a (c.cut 1)/\Fq w0.heap.size g.T a w w':=by
 have cI:=hH.base
 obtain ⟨A,cap,cV,gJ,HF,HH,HC,d10,HI,HW,n1,n2,qL,qM,k1,k2,hs⟩:=dpre 12 ia ib ic ii Q nl q hH hC C eP
 have br:=ho
 clear hH hC C ho
 have sG:Hid (h.must false=h.fin 6):=rfl
 have hz:((nth ag (c.top 1) 0).kind==1)=false:=by simpa using hk
 clear hk
 have wT:Hid (Hp.mustB h false=false):=rfl
 go_enter Tryz.func58,Tryz.ntmps58
 go_wp2_with ((go_at_call 56;refine (bP w0 g HW.out.k p h a c 1 _ A cap HH.out HC.out br hl hs).mono ?_;intro e w1 hT;obtain ⟨A1,cW,bd,rfl,de,j0,j1,j2,j4,gI,H1,iH,C1,f1,-⟩:=ky hT HI HW n1 n2 br;have F1:Hid (Fq w0.heap.size g.T a w w1):=Fq.trans HF.out.fq f1;clear hT f1;obtain ⟨b,off,rfl,t0,t1,jW⟩:=ko de (by simp [aC]);clear de))
 refine wp_region_held_drew (S:=fun w'=>w'.cell? ⟨b,off,none⟩=some (int i64 (nth ag (c.top 1) 0).kind)) (by kernel_rfl) ?_ (fun hHeld=>?_)
 ·exact t0
 refine bR (i:=0) (d:=some 36) (v:=?_) rfl rfl (by kernel_rfl) (by kernel_rfl) (by kernel_rfl) (fun _ _ _ h=>h) (by rfl) ?_ hHeld ?_
 rotate_left 1
 ·intro w' hSw;go_simp<;>with_reducible rfl
 try simp only [aS,aN,aT,a0,a1]
 refine bR (i:=1) (d:=some 37) (v:=?_) rfl rfl (by kernel_rfl) (by kernel_rfl) (by kernel_rfl) (fun _ _ _ h=>h) (by rfl) ?_ hHeld ?_
 rotate_left 1
 ·intro w' hSw;go_simp<;>with_reducible rfl
 try simp only [aS,aN,aT,a0,a1]
 refine bR (i:=2) (d:=some 38) (v:=?_) rfl rfl (by kernel_rfl) (by kernel_rfl) (by kernel_rfl) (fun _ _ _ h=>h) (by rfl) ?_ hHeld ?_
 rotate_left 1
 ·intro w' hSw;go_simp<;>with_reducible rfl
 try simp only [aS,aN,aT,a0,a1]
 refine bR (i:=3) (d:=some 39) (v:=?_) rfl rfl (by kernel_rfl) (by kernel_rfl) (by kernel_rfl) (fun _ _ _ h=>h) (by rfl) ?_ hHeld ?_
 rotate_left 1
 ·intro w' hSw;go_simp<;>with_reducible rfl
 try simp only [aS,aN,aT,a0,a1]
 refine bR (i:=4) (d:=some 40) (v:=?_) rfl rfl (by kernel_rfl) (by kernel_rfl) (by kernel_rfl) (fun _ _ _ h=>h) (by rfl) ?_ hHeld ?_
 rotate_left 1
 ·intro w' hSw;go_simp<;>with_reducible rfl
 try simp only [aS,aN,aT,a0,a1]
 refine bR (i:=5) (d:=some 41) (v:=?_) rfl rfl (by kernel_rfl) (by kernel_rfl) (by kernel_rfl) (fun _ _ _ h=>h) (by rfl) ?_ hHeld ?_
 rotate_left 1
 ·intro w' hSw;go_simp<;>with_reducible rfl
 try simp only [aS,aN,aT,a0,a1]
 refine wpAnyH_ready (rs:=[6]) (by kernel_rfl) (by simp) ?_
 refine AllReadyH.cons rfl (fun K hK=>?_) AllReadyH.nil
 go_simp
 go_at_call 55
 refine (bk w0 g HW.out.k p h false _ (H1.out.cf (Cf.drew (Cf.refl _ _ _)))).mono ?_
 rintro e w2 ⟨he,h2,f2⟩
 rw [wT.out] at he
 subst he
 rw [sG.out] at h2
 have F2:Hid (Fr w0.heap.size g.T w1 w2):=Fr.trans (Fr.drew (Fr.refl _ _ _)) f2
 have u0:w2.cell? ⟨b,off,none⟩=some (int i64 (nth ag (c.top 1) 0).kind):=by
  have s2:=jW.out.fr HW.out.k F2.out
  obtain ⟨b',gj,Ag,vE⟩:=s2.fst (by simp [aC])
  simp only [Option.some.injEq,Addr.mk.injEq] at Ag
  obtain ⟨rfl,rfl,-⟩:=Ag
  have:=(vE 0 (by simp [aC])).1
  rw [Nat.zero_mul,Nat.add_zero] at this
  exact this
 go_wp2_with fail
 refine hK.out _ _ u0 (fun ah=>?_)
 clear hK K
 try simp only [aS,aN,aT,a0,a1]
 refine bR (i:=7) (d:=some 43) (v:=?_) rfl rfl (by kernel_rfl) (by kernel_rfl) (by kernel_rfl) (fun _ _ _ h=>h) (by rfl) ?_ ah ?_
 rotate_left 1
 ·intro w' hSw;go_simp<;>with_reducible rfl
 try simp only [aS,aN,aT,a0,a1]
 refine bt (i:=8) (d:=some 44) rfl rfl (by kernel_rfl) (by kernel_rfl) (by kernel_rfl) (fun _ _ _ h=>h) (by rfl) ah ?_
 try simp only [aS,aN,aT,a0,a1]
 refine bt (i:=9) (d:=some 45) rfl rfl (by kernel_rfl) (by kernel_rfl) (by kernel_rfl) (fun _ _ _ h=>h) (by rfl) ah ?_
 try simp only [aS,aN,aT,a0,a1]
 refine bt (i:=10) (d:=some 46) rfl rfl (by kernel_rfl) (by kernel_rfl) (by kernel_rfl) (fun _ _ _ h=>h) (by rfl) ah ?_
 try simp only [aS,aN,aT,a0,a1]
 refine bt (i:=11) (d:=some 47) rfl rfl (by kernel_rfl) (by kernel_rfl) (by kernel_rfl) (fun _ _ _ h=>h) (by rfl) ah ?_
 try simp only [aS,aN,aT,a0,a1]
 refine bt (i:=12) (d:=some 48) rfl rfl (by kernel_rfl) (by kernel_rfl) (by kernel_rfl) (fun _ _ _ h=>h) (by rfl) ah ?_
 try simp only [aS,aN,aT,a0,a1]
 refine bt (i:=13) (d:=some 49) rfl rfl (by kernel_rfl) (by kernel_rfl) (by kernel_rfl) (fun _ _ _ h=>h) (by rfl) ah ?_
 try simp only [aS,aN,aT,a0,a1]
 refine bt (i:=14) (d:=some 50) rfl rfl (by kernel_rfl) (by kernel_rfl) (by kernel_rfl) (fun _ _ _ h=>h) (by rfl) ah ?_
 try simp only [aS,aN,aT,a0,a1]
 refine bR (i:=15) (d:=some 51) (v:=?_) rfl rfl (by kernel_rfl) (by kernel_rfl) (by kernel_rfl) (fun _ _ _ h=>h) (by rfl) ?_ ah ?_
 rotate_left 1
 ·intro w' hSw;go_simp<;>with_reducible rfl
 try simp only [aS,aN,aT,a0,a1]
 refine wpAnyH_done (by kernel_rfl) ?_ _
 go_wp2
 go_ret
 exact ⟨rfl,h2,⟨A,bd,C1.out.fr HW.out.k F2.out⟩,F1.out.trans F2.out.fq⟩
theorem Bu (hH:Hs w0 g w p h) (hC:Cs w0 w a c) (C:Cw w0 g h) (ho:h.over=false) (eP:c.stk.length<=500) (hp:0<=c.pc/\c.pc<=100000) (hl:c.stk.length<1) :
  Calls Tryz.prog 58 #[.pointer (some ⟨p,0,none⟩),.pointer (some ⟨a.q,0,none⟩),.agg (cO 23 ia ib ic ii Q nl q)] w fun e w'=>e=.returned (int i64 (c.pc+1))/\Hs w0 g w' p (h.fin 6)/\Cs w0 w' a c/\Fq w0.heap.size g.T a w w':=by
 have cI:=hH.base
 obtain ⟨A,cap,cV,gJ,HF,HH,HC,d10,HI,HW,n1,n2,qL,qM,k1,k2,hs⟩:=dpre 23 ia ib ic ii Q nl q hH hC C eP
 have br:=ho
 clear hH hC C ho
 have l9:Hid ((h.fin 6).over=true):=by simp [Hp.fin,br,Hid]
 go_enter Tryz.func58,Tryz.ntmps58
 go_wp2_with ((go_at_call 56;refine (dK w0 g HW.out.k p h a c 1 _ A cap HH.out HC.out br hl (by omega)).mono ?_;intro e w1 hT;obtain ⟨A1,cW,bd,rfl,de,j0,j1,j2,j4,gI,H1,iH,C1,f1,-⟩:=ky hT HI HW n1 n2 l9.out;have F1:Hid (Fq w0.heap.size g.T a w w1):=Fq.trans HF.out.fq f1;clear hT f1))
 go_ret
 exact ⟨rfl,H1.out,⟨A,bd,C1.out⟩,F1.out⟩
theorem Jd (hH:Hs w0 g w p h) (hC:Cs w0 w a c) (C:Cw w0 g h) (ho:h.over=false) (eP:c.stk.length<=500) (hp:0<=c.pc/\c.pc<=100000) (hl:1<=c.stk.length) :
  Calls Tryz.prog 58 #[.pointer (some ⟨p,0,none⟩),.pointer (some ⟨a.q,0,none⟩),.agg (cO 23 ia ib ic ii Q nl q)] w fun e w'=>e=.returned (int i64 (c.pc+1))/\Hs w0 g w' p ((h.putH (c.cut 1) (nth ag (c.top 1) 0)).putH ((c.cut 1).put (nth ag (c.top 1) 0)) (nth ag (c.top 1) 0))/\Cs w0 w' a (((c.cut 1).put (nth ag (c.top 1) 0)).put (nth ag (c.top 1) 0))/\Fq w0.heap.size g.T a w w':=by
 have cI:=hH.base
 obtain ⟨A,cap,cV,gJ,HF,HH,HC,d10,HI,HW,n1,n2,qL,qM,k1,k2,hs⟩:=dpre 23 ia ib ic ii Q nl q hH hC C eP
 have br:=ho
 clear hH hC C ho
 go_enter Tryz.func58,Tryz.ntmps58
 go_wp2_with (first
  | (go_at_call 56;refine (bP w0 g HW.out.k p h a c 1 _ A cap HH.out HC.out br hl hs).mono ?_;intro e w1 hT;obtain ⟨A1,cW,bd,rfl,de,j0,j1,j2,j4,gI,H1,iH,C1,f1,-⟩:=ky hT HI HW n1 n2 br;have F1:Hid (Fq w0.heap.size g.T a w w1):=Fq.trans HF.out.fq f1;clear hT f1;obtain ⟨b,off,rfl,t0,t1,jW⟩:=ko de (by simp [aC]);clear de)
  | (go_at_call 60;refine (km w0 g HW.out.k p h a (c.cut 1) (nth ag (c.top 1) 0) _ H1.out ⟨A,bd,C1.out⟩ (by have:=eW c 1;omega)).mono ?_;rintro e w2 ⟨rfl,h2,c2,f2⟩;have s2:=jW.out.fq C1.out HW.out.k f2;obtain ⟨b',gj,Ag,vE⟩:=s2.fst (by simp [aC]);simp only [Option.some.injEq,Addr.mk.injEq] at Ag;obtain ⟨rfl,rfl,-⟩:=Ag;have u0:=(vE 0 (by simp [aC])).1;have u1:=(vE 0 (by simp [aC])).2;rw [Nat.zero_mul,Nat.add_zero] at u0 u1;clear vE s2;have HP:Hid True:=trivial)
  | (go_at_call 60;refine (km w0 g HW.out.k p (h.putH (c.cut 1) (nth ag (c.top 1) 0)) a ((c.cut 1).put (nth ag (c.top 1) 0)) (nth ag (c.top 1) 0) _ h2 c2 (by have:=eW c 1;simp [aH.put];omega)).mono ?_;rintro e w3 ⟨rfl,h3,c3,f3⟩))
 go_ret
 exact ⟨rfl,h3,c3,(F1.out.trans f2).trans f3⟩
end
section
variable (w0:World) (g:Ad) (p:Nat) (h:Hp) (a:Ca) (c:aH) (ia ib ic ii:Int) (Q:Option Addr) (nl q:Nat) (w:World)
theorem Je (hH:Hs w0 g w p h) (hC:Cs w0 w a c) (C:Cw w0 g h) (ho:h.over=false) (eP:c.stk.length<=500) (hp:0<=c.pc/\c.pc<=100000) (pq:0<=ia/\ia<c.locs.length) (hk:¬(nth ag c.locs ia.toNat).kind=ib) :
  Calls Tryz.prog 58 #[.pointer (some ⟨p,0,none⟩),.pointer (some ⟨a.q,0,none⟩),.agg (cO 4 ia ib ic ii Q nl q)] w fun e w'=>e=.returned (int i64 (c.pc+1))/\Hs w0 g w' p (h.fin 6)/\Cs w0 w' a c/\Fq w0.heap.size g.T a w w':=by
 have cI:=hH.base
 obtain ⟨A,cap,H0⟩:=hC
 have cV:a.q<w.heap.size:=af H0.blk
 have gJ:a.lb<w.heap.size:=af H0.loc.blk
 have hbl:Bl w (w.alloc (.cells (cO 4 ia ib ic ii Q nl q) 55)):=(Bl.refl w).alloc _
 have HF:Hid (Fr w0.heap.size g.T w (w.alloc (.cells (cO 4 ia ib ic ii Q nl q) 55))):=Fr.old cI hbl
 have HH:Hid (Hs w0 g (w.alloc (.cells (cO 4 ia ib ic ii Q nl q) 55)) p h):=hH.old hbl
 have HC:Hid (bq w0 (w.alloc (.cells (cO 4 ia ib ic ii Q nl q) 55)) a c A cap):=H0.old hbl
 have d10:=HC.out.cells.c10
 have HI:Hid (cJ (w.alloc (.cells (cO 4 ia ib ic ii Q nl q) 55)) w.heap.size 4 ia ib ic ii):=⟨_,cd rfl⟩
 have HW:Hid (Cw w0 g h):=C
 have n1:w.heap.size≠a.q:=by omega
 have n2:w.heap.size≠a.lb:=by omega
 have qL:a.q≠w.heap.size:=by omega
 have qM:a.lb≠w.heap.size:=by omega
 have k1:a.q<w.heap.size+1:=by omega
 have k2:a.lb<w.heap.size+1:=by omega
 have hs:c.stk.length<=1000:=by omega
 have br:=ho
 have Dk:=hH
 have Jf:=H0
 clear hH C H0 hbl ho
 obtain ⟨n,rfl⟩:∃n:Nat,ia=n:=⟨ia.toNat,by omega⟩
 have kx:n<c.locs.length:=by omega
 have KI:=HC.out.loc.len
 unfold maxLen at KI
 have c8:=HC.out.cells.c8
 have v0:=HC.out.loc.c0 kx
 have v1:=HC.out.loc.c1 kx
 have kv:(0:Int)<=(n:Int):=by omega
 have kg:(n:Int)<(c.locs.length:Int):=by omega
 have j1:=HI.out.c1
 have j2:=HI.out.c2
 rw [Int.toNat_natCast] at hk
 have hz:((nth ag c.locs n).kind==ib)=false:=by simpa using hk
 have wT:Hid (h.mustB false=false):=rfl
 have sG:Hid (h.must false=h.fin 6):=rfl
 clear hk
 go_enter Tryz.func58,Tryz.ntmps58
 go_wp2
 go_region_held3 (fun w'=>w'.cell? ⟨a.q,8,none⟩=some (.slice (some ⟨a.lb,0,none⟩) c.locs.length a.lc)/\w'.cell? ⟨w.heap.size,1,none⟩=some (int i64 (n:Int))/\w'.cell? ⟨a.lb,n*2,none⟩=some (int i64 (nth ag c.locs n).kind)/\w'.cell? ⟨a.lb,n*2+1,none⟩=some (int i64 (nth ag c.locs n).n))
  (go_keep)
  (fail)
 have hb1:Bl w (((w.alloc (.cells (cO 4 (n:Int) ib ic ii Q nl q) 55))).alloc (cT (nth ag c.locs n))).drew:=(((Bl.refl w).alloc _).alloc _).drew
 have Ah:Hid (Hs w0 g (((w.alloc (.cells (cO 4 (n:Int) ib ic ii Q nl q) 55))).alloc (cT (nth ag c.locs n))).drew p h):=Dk.old hb1
 have E0:Hid (bq w0 (((w.alloc (.cells (cO 4 (n:Int) ib ic ii Q nl q) 55))).alloc (cT (nth ag c.locs n))).drew a c A cap):=Jf.old hb1
 have E1:Hid (Fr w0.heap.size g.T w (((w.alloc (.cells (cO 4 (n:Int) ib ic ii Q nl q) 55))).alloc (cT (nth ag c.locs n))).drew):=Fr.old cI hb1
 have Vu:((((w.alloc (.cells (cO 4 (n:Int) ib ic ii Q nl q) 55))).alloc (cT (nth ag c.locs n))).drew).cell? ⟨w.heap.size,2,none⟩=some (int i64 ib):=Bl.cell (Bl.drew (Bl.alloc (Bl.refl _) _)) HI.out.c2
 clear hb1
 go_wp2_with (go_at_call 55;refine (bk w0 g HW.out.k p h false _ Ah.out).mono ?_;rintro e w2 ⟨he,h2,f2⟩;rw [wT.out] at he;subst he;rw [sG.out] at h2)
 go_ret
 exact ⟨rfl,h2,⟨A,cap,E0.out.fr HW.out.k f2⟩,(E1.out.trans f2).fq⟩
theorem Jg (hH:Hs w0 g w p h) (hC:Cs w0 w a c) (C:Cw w0 g h) (ho:h.over=false) (eP:c.stk.length<=500) (hp:0<=c.pc/\c.pc<=100000) (pq:0<=ia/\ia<c.locs.length) (hk:(nth ag c.locs ia.toNat).kind=ib) :
  Calls Tryz.prog 58 #[.pointer (some ⟨p,0,none⟩),.pointer (some ⟨a.q,0,none⟩),.agg (cO 4 ia ib ic ii Q nl q)] w fun e w'=>e=.returned (int i64 (c.pc+1))/\Hs w0 g w' p (h.putH c (nth ag c.locs ia.toNat))/\Cs w0 w' a (c.put (nth ag c.locs ia.toNat))/\Fq w0.heap.size g.T a w w':=by
 have cI:=hH.base
 obtain ⟨A,cap,H0⟩:=hC
 have cV:a.q<w.heap.size:=af H0.blk
 have gJ:a.lb<w.heap.size:=af H0.loc.blk
 have hbl:Bl w (w.alloc (.cells (cO 4 ia ib ic ii Q nl q) 55)):=(Bl.refl w).alloc _
 have HF:Hid (Fr w0.heap.size g.T w (w.alloc (.cells (cO 4 ia ib ic ii Q nl q) 55))):=Fr.old cI hbl
 have HH:Hid (Hs w0 g (w.alloc (.cells (cO 4 ia ib ic ii Q nl q) 55)) p h):=hH.old hbl
 have HC:Hid (bq w0 (w.alloc (.cells (cO 4 ia ib ic ii Q nl q) 55)) a c A cap):=H0.old hbl
 have d10:=HC.out.cells.c10
 have HI:Hid (cJ (w.alloc (.cells (cO 4 ia ib ic ii Q nl q) 55)) w.heap.size 4 ia ib ic ii):=⟨_,cd rfl⟩
 have HW:Hid (Cw w0 g h):=C
 have n1:w.heap.size≠a.q:=by omega
 have n2:w.heap.size≠a.lb:=by omega
 have qL:a.q≠w.heap.size:=by omega
 have qM:a.lb≠w.heap.size:=by omega
 have k1:a.q<w.heap.size+1:=by omega
 have k2:a.lb<w.heap.size+1:=by omega
 have hs:c.stk.length<=1000:=by omega
 have br:=ho
 have Dk:=hH
 have Jf:=H0
 clear hH C H0 hbl ho
 obtain ⟨n,rfl⟩:∃n:Nat,ia=n:=⟨ia.toNat,by omega⟩
 have kx:n<c.locs.length:=by omega
 have KI:=HC.out.loc.len
 unfold maxLen at KI
 have c8:=HC.out.cells.c8
 have v0:=HC.out.loc.c0 kx
 have v1:=HC.out.loc.c1 kx
 have kv:(0:Int)<=(n:Int):=by omega
 have kg:(n:Int)<(c.locs.length:Int):=by omega
 have j1:=HI.out.c1
 have j2:=HI.out.c2
 rw [Int.toNat_natCast] at hk ⊢
 have hz:((nth ag c.locs n).kind==ib)=true:=by simpa using hk
 have qK:(!h.over)=true:=by rw [br];rfl
 clear hk
 go_enter Tryz.func58,Tryz.ntmps58
 go_wp2
 go_region_held3 (fun w'=>w'.cell? ⟨a.q,8,none⟩=some (.slice (some ⟨a.lb,0,none⟩) c.locs.length a.lc)/\w'.cell? ⟨w.heap.size,1,none⟩=some (int i64 (n:Int))/\w'.cell? ⟨a.lb,n*2,none⟩=some (int i64 (nth ag c.locs n).kind)/\w'.cell? ⟨a.lb,n*2+1,none⟩=some (int i64 (nth ag c.locs n).n))
  (go_keep)
  (fail)
 have hb1:Bl w (((w.alloc (.cells (cO 4 (n:Int) ib ic ii Q nl q) 55))).alloc (cT (nth ag c.locs n))).drew:=(((Bl.refl w).alloc _).alloc _).drew
 have Ah:Hid (Hs w0 g (((w.alloc (.cells (cO 4 (n:Int) ib ic ii Q nl q) 55))).alloc (cT (nth ag c.locs n))).drew p h):=Dk.old hb1
 have E0:Hid (bq w0 (((w.alloc (.cells (cO 4 (n:Int) ib ic ii Q nl q) 55))).alloc (cT (nth ag c.locs n))).drew a c A cap):=Jf.old hb1
 have E1:Hid (Fr w0.heap.size g.T w (((w.alloc (.cells (cO 4 (n:Int) ib ic ii Q nl q) 55))).alloc (cT (nth ag c.locs n))).drew):=Fr.old cI hb1
 have Vu:((((w.alloc (.cells (cO 4 (n:Int) ib ic ii Q nl q) 55))).alloc (cT (nth ag c.locs n))).drew).cell? ⟨w.heap.size,2,none⟩=some (int i64 ib):=Bl.cell (Bl.drew (Bl.alloc (Bl.refl _) _)) HI.out.c2
 clear hb1
 go_wp2_with (first
  | (go_at_call 55;refine (dj w0 g p h _ Ah.out).mono ?_;rintro e w2 ⟨he,eK⟩;rw [qK] at he;subst he;rw [eK];clear eK w2)
  | (go_at_call 60;refine (km w0 g HW.out.k p h a c (nth ag c.locs n) _ Ah.out ⟨A,cap,E0.out⟩ hs).mono ?_;rintro e w3 ⟨rfl,h3,c3,f3⟩))
 go_ret
 exact ⟨rfl,h3,c3,E1.out.fq.trans f3⟩
theorem E2 (hH:Hs w0 g w p h) (hC:Cs w0 w a c) (C:Cw w0 g h) (ho:h.over=false) (eP:c.stk.length<=500) (hp:0<=c.pc/\c.pc<=100000) (hl:c.stk.length<1) (Ox:ib≠0) :
  Calls Tryz.prog 58 #[.pointer (some ⟨p,0,none⟩),.pointer (some ⟨a.q,0,none⟩),.agg (cO 5 ia ib ic ii Q nl q)] w fun e w'=>e=.returned (int i64 (c.pc+1))/\Hs w0 g w' p (h.fin 6)/\Cs w0 w' a c/\Fq w0.heap.size g.T a w w':=by
 have cI:=hH.base
 obtain ⟨A,cap,cV,gJ,HF,HH,HC,d10,HI,HW,n1,n2,qL,qM,k1,k2,hs⟩:=dpre 5 ia ib ic ii Q nl q hH hC C eP
 have br:=ho
 clear hH hC C ho
 have l9:Hid ((h.fin 6).over=true):=by simp [Hp.fin,br,Hid]
 have hz:((0:Int)==ib)=false:=by simpa using Ne.symm Ox
 have wT:Hid (Hp.mustB (h.fin 6) false=false):=rfl
 have sG:Hid ((h.fin 6).must false=h.fin 6):=by show (h.fin 6).fin 6=h.fin 6;simp [Hp.fin,br]
 go_enter Tryz.func58,Tryz.ntmps58
 go_wp2_with ((go_at_call 56;refine (dK w0 g HW.out.k p h a c 1 _ A cap HH.out HC.out br hl (by omega)).mono ?_;intro e w1 hT;obtain ⟨A1,cW,bd,rfl,de,j0,j1,j2,j4,gI,H1,iH,C1,f1,-⟩:=ky hT HI HW n1 n2 l9.out;have F1:Hid (Fq w0.heap.size g.T a w w1):=Fq.trans HF.out.fq f1;clear hT f1;obtain ⟨b,off,rfl,t0,t1,jW⟩:=ko de (by simp [aC]);clear de;have z0:(nth ag (List.replicate 1 ag) 0).kind=0:=rfl;have z1:(nth ag (List.replicate 1 ag) 0).n=0:=rfl;rw [z0] at t0;rw [z1] at t1;clear z0 z1))
 go_region_held3 (fun w'=>w'.cell? ⟨b,off,none⟩=some (int i64 0)/\w'.cell? ⟨b,off+1,none⟩=some (int i64 0)/\w'.cell? ⟨w.heap.size,2,none⟩=some (int i64 ib))
  (go_keep)
  (first
   | (go_at_call 55;refine (bk w0 g HW.out.k p (h.fin 6) false _ (by first|exact H1.out.cf (Cf.drew (Cf.refl _ _ _))|exact H1.out)).mono ?_;rintro e w2 ⟨he,h2,f2⟩;rw [wT.out] at he;subst he;rw [sG.out] at h2;have F2:Hid (Fr w0.heap.size g.T w1 w2):=Fr.trans (Fr.drew (Fr.refl _ _ _)) f2;clear f2;obtain ⟨u0,u1,Dl⟩:=Lg jW HW F2 (by simp [aC]);obtain ⟨l1,l2,Af⟩:=Ae gI HW F2;have z0:(nth ag (List.replicate 1 ag) 0).kind=0:=rfl;have z1:(nth ag (List.replicate 1 ag) 0).n=0:=rfl;rw [z0] at u0;rw [z1] at u1;clear z0 z1))
 go_wp2
 go_ret
 exact ⟨rfl,h2,⟨A,bd,C1.out.fr HW.out.k F2.out⟩,F1.out.trans F2.out.fq⟩
theorem Jh (hH:Hs w0 g w p h) (hC:Cs w0 w a c) (C:Cw w0 g h) (ho:h.over=false) (eP:c.stk.length<=500) (hp:0<=c.pc/\c.pc<=100000) (hl:1<=c.stk.length) (hk:¬(nth ag (c.top 1) 0).kind=ib) :
  Calls Tryz.prog 58 #[.pointer (some ⟨p,0,none⟩),.pointer (some ⟨a.q,0,none⟩),.agg (cO 5 ia ib ic ii Q nl q)] w fun e w'=>e=.returned (int i64 (c.pc+1))/\Hs w0 g w' p (h.fin 6)/\Cs w0 w' a (c.cut 1)/\Fq w0.heap.size g.T a w w':=by
 have cI:=hH.base
 obtain ⟨A,cap,cV,gJ,HF,HH,HC,d10,HI,HW,n1,n2,qL,qM,k1,k2,hs⟩:=dpre 5 ia ib ic ii Q nl q hH hC C eP
 have br:=ho
 clear hH hC C ho
 have hz:((nth ag (c.top 1) 0).kind==ib)=false:=by simpa using hk
 clear hk
 have wT:Hid (Hp.mustB h false=false):=rfl
 have sG:Hid (h.must false=h.fin 6):=rfl
 go_enter Tryz.func58,Tryz.ntmps58
 go_wp2_with ((go_at_call 56;refine (bP w0 g HW.out.k p h a c 1 _ A cap HH.out HC.out br hl hs).mono ?_;intro e w1 hT;obtain ⟨A1,cW,bd,rfl,de,j0,j1,j2,j4,gI,H1,iH,C1,f1,-⟩:=ky hT HI HW n1 n2 br;have F1:Hid (Fq w0.heap.size g.T a w w1):=Fq.trans HF.out.fq f1;clear hT f1;obtain ⟨b,off,rfl,t0,t1,jW⟩:=ko de (by simp [aC]);clear de))
 go_region_held3 (fun w'=>w'.cell? ⟨b,off,none⟩=some (int i64 (nth ag (c.top 1) 0).kind)/\w'.cell? ⟨b,off+1,none⟩=some (int i64 (nth ag (c.top 1) 0).n)/\w'.cell? ⟨w.heap.size,2,none⟩=some (int i64 ib))
  (go_keep)
  (first
   | (go_at_call 55;refine (bk w0 g HW.out.k p h false _ (by first|exact H1.out.cf (Cf.drew (Cf.refl _ _ _))|exact H1.out)).mono ?_;rintro e w2 ⟨he,h2,f2⟩;rw [wT.out] at he;subst he;rw [sG.out] at h2;have F2:Hid (Fr w0.heap.size g.T w1 w2):=Fr.trans (Fr.drew (Fr.refl _ _ _)) f2;clear f2;obtain ⟨u0,u1,Dl⟩:=Lg jW HW F2 (by simp [aC]);obtain ⟨l1,l2,Af⟩:=Ae gI HW F2))
 go_wp2
 go_ret
 exact ⟨rfl,h2,⟨A,bd,C1.out.fr HW.out.k F2.out⟩,F1.out.trans F2.out.fq⟩
theorem Ji (hH:Hs w0 g w p h) (hC:Cs w0 w a c) (C:Cw w0 g h) (ho:h.over=false) (eP:c.stk.length<=500) (hp:0<=c.pc/\c.pc<=100000) (hl:1<=c.stk.length) (hk:(nth ag (c.top 1) 0).kind=ib) (pq:0<=ia/\ia<c.locs.length) (hok:gY c.locs) (TV:ib=2->ia+1<c.locs.length) :
  Calls Tryz.prog 58 #[.pointer (some ⟨p,0,none⟩),.pointer (some ⟨a.q,0,none⟩),.agg (cO 5 ia ib ic ii Q nl q)] w fun e w'=>e=.returned (int i64 (c.pc+1))/\Hs w0 g w' p h/\Cs w0 w' a ({ c.cut 1 with locs:=eZ c.locs ia.toNat (nth ag (c.top 1) 0) }:aH)/\Fq w0.heap.size g.T a w w':=by
 have cI:=hH.base
 obtain ⟨A,cap,cV,gJ,HF,HH,HC,d10,HI,HW,n1,n2,qL,qM,k1,k2,hs⟩:=dpre 5 ia ib ic ii Q nl q hH hC C eP
 have br:=ho
 clear hH hC C ho
 have qK:(!h.over)=true:=by rw [br];rfl
 obtain ⟨n,rfl⟩:∃n:Nat,ia=n:=⟨ia.toNat,by omega⟩
 have kx:n<c.locs.length:=by omega
 have KI:=HC.out.loc.len
 unfold maxLen at KI
 have kv:(0:Int)<=(n:Int):=by omega
 have kg:(n:Int)<(c.locs.length:Int):=by omega
 have OQ:Hid ((c.cut 1).locs=c.locs):=by show (c.cut 1).locs=c.locs;unfold aH.cut;split<;>rfl
 have zP:Hid ((c.cut 1).locs.length=c.locs.length):=by show (c.cut 1).locs.length=c.locs.length;unfold aH.cut;split<;>rfl
 have Dx:Hid (gY c.locs):=hok
 have V0:Hid ((nth ag (c.top 1) 0).kind=2->n+1<c.locs.length):=fun h=>by have:=TV (hk▸h);omega
 have hz:((nth ag (c.top 1) 0).kind==ib)=true:=by simpa using hk
 clear hk hok TV pq
 go_enter Tryz.func58,Tryz.ntmps58
 go_wp2_with ((go_at_call 56;refine (bP w0 g HW.out.k p h a c 1 _ A cap HH.out HC.out br hl hs).mono ?_;rintro e w1 ⟨A1,cW,bd,rfl,de,h1,c1,f1,-⟩;have i1:=HI.out.fq HW.out.k f1 n1 n2;have j0:=i1.c0;have j1:=i1.c1;have j2:=i1.c2;have j4:=i1.c4;have gI:Hid (cJ w1 w.heap.size 5 (n:Int) ib ic ii):=i1;clear i1;have H1:Hid (Hs w0 g w1 p h):=h1;have iH:w1.cell? ⟨p,12,none⟩=some (.bool false):=(by obtain ⟨vo,vx,hv,X⟩:=h1;rw [X.cells.c12,br]);clear h1;have C1:Hid (bq w0 w1 a (c.cut 1) A bd):=c1;clear c1;have F1:Hid (Fq w0.heap.size g.T a w w1):=Fq.trans HF.out.fq f1;clear f1;obtain ⟨b,off,rfl,t0,t1,jW⟩:=ko de (by simp [aC]);clear de;have c8:=C1.out.cells.c8;rw [zP.out] at c8))
 go_region_held3 (fun w'=>w'.cell? ⟨b,off,none⟩=some (int i64 (nth ag (c.top 1) 0).kind)/\w'.cell? ⟨b,off+1,none⟩=some (int i64 (nth ag (c.top 1) 0).n)/\w'.cell? ⟨w.heap.size,2,none⟩=some (int i64 ib)/\w'.cell? ⟨w.heap.size,1,none⟩=some (int i64 (n:Int))/\w'.cell? ⟨a.q,8,none⟩=some (.slice (some ⟨a.lb,0,none⟩) c.locs.length a.lc))
  (go_keep)
  (first
   | (go_at_call 55;refine (dj w0 g p h _ (by first|exact H1.out.cf (Cf.drew (Cf.refl _ _ _))|exact H1.out)).mono ?_;rintro e w2 ⟨he,eK⟩;rw [qK] at he;subst he;rw [eK];clear eK w2))
 go_wp2
 have FD:Fr w0.heap.size g.T w1 w1.drew:=Fr.drew (Fr.refl _ _ _)
 have C2:Hid (bq w0 w1.drew.drew a (c.cut 1) A bd):=(C1.out.fr HW.out.k FD).fr (B:=w0.heap.size) HW.out.k (Fr.drew (Fr.refl _ _ _))
 have L2:Hid (cy w1.drew.drew a.lb c.locs):=OQ.out▸C2.out.loc
 go_region_held3 (fun w'=>w'.cell? ⟨b,off,none⟩=some (int i64 (nth ag (c.top 1) 0).kind)/\w'.cell? ⟨b,off+1,none⟩=some (int i64 (nth ag (c.top 1) 0).n)/\w'.cell? ⟨w.heap.size,1,none⟩=some (int i64 (n:Int))/\w'.cell? ⟨a.q,8,none⟩=some (.slice (some ⟨a.lb,0,none⟩) c.locs.length a.lc))
  (go_keep)
  (first
   | (go_at_call 52;refine (sD a.lb c.locs n a.lc (nth ag (c.top 1) 0) _ L2.out Dx.out kx V0.out).mono ?_;rintro e w3 ⟨rfl,l3,o3⟩;have S3:=bG.keep jW.out (w':=w3) (fun b cs fz e n=>(o3.block b (af e) n).trans e);obtain ⟨b',gj,Ag,vE⟩:=S3.fst (by simp [aC]);simp only [Option.some.injEq,Addr.mk.injEq] at Ag;obtain ⟨rfl,rfl,-⟩:=Ag;have u0:=(vE 0 (by simp [aC])).1;have u1:=(vE 0 (by simp [aC])).2;rw [Nat.zero_mul,Nat.add_zero] at u0 u1;clear vE S3;have c3:=C2.out.setLoc o3 l3 (by rw [fS,OQ.out]);have y8:=c3.cells.c8;have TW:(eZ c.locs n (nth ag (c.top 1) 0)).length=c.locs.length:=fS _ _ _;dsimp only at y8;rw [TW] at y8;clear TW;have C3:Hid (bq w0 w3 a { c.cut 1 with locs:=eZ c.locs n (nth ag (c.top 1) 0) } A bd):=c3;clear c3;have y1:w3.cell? ⟨w.heap.size,1,none⟩=some (int i64 (n:Int)):=(by obtain ⟨uu,hu⟩:=gI.out.ex;have:=(o3.block w.heap.size (af hu) n2).trans hu;rw [aa this];rfl)))
 go_wp2
 go_ret
 rw [Int.toNat_natCast]
 have hsz:w0.heap.size<=w1.drew.drew.heap.size:=by have:=C1.out.ownl;have:=af L2.out.blk;omega
 exact ⟨rfl,((H1.out.cf (Cf.drew (Cf.refl _ _ _))).cf (Cf.drew (Cf.refl _ _ _))).cf (o3.cf HW.out.k L2.out C1.out.ownl hsz),⟨A,bd,C3.out⟩,((F1.out.trans FD.fq).trans (Fr.fq (Fr.drew (Fr.refl _ _ _)))).trans (o3.fq C1.out.ownl hsz)⟩
end
section
variable (w0:World) (g:Ad) (p:Nat) (h:Hp) (a:Ca) (c:aH) (ia ib ic ii:Int) (Q:Option Addr) (nl q:Nat) (w:World)
theorem B5 (hH:Hs w0 g w p h) (hC:Cs w0 w a c) (C:Cw w0 g h) (ho:h.over=false) (eP:c.stk.length<=500) (hp:0<=c.pc/\c.pc<=100000) (hl:c.stk.length<2) :
  Calls Tryz.prog 58 #[.pointer (some ⟨p,0,none⟩),.pointer (some ⟨a.q,0,none⟩),.agg (cO 16 ia ib ic ii Q nl q)] w fun e w'=>e=.returned (int i64 (c.pc+1))/\Hs w0 g w' p (h.fin 6)/\Cs w0 w' a c/\Fq w0.heap.size g.T a w w':=by
 have cI:=hH.base
 obtain ⟨A,cap,cV,gJ,HF,HH,HC,d10,HI,HW,n1,n2,qL,qM,k1,k2,hs⟩:=dpre 16 ia ib ic ii Q nl q hH hC C eP
 have br:=ho
 clear hH hC C ho
 have l9:Hid ((h.fin 6).over=true):=by simp [Hp.fin,br,Hid]
 go_enter Tryz.func58,Tryz.ntmps58
 go_wp2_with ((go_at_call 56;refine (dK w0 g HW.out.k p h a c 2 _ A cap HH.out HC.out br hl (by omega)).mono ?_;intro e w1 hT;obtain ⟨A1,cW,bd,rfl,de,j0,j1,j2,j4,gI,H1,iH,C1,f1,-⟩:=ky hT HI HW n1 n2 l9.out;have F1:Hid (Fq w0.heap.size g.T a w w1):=Fq.trans HF.out.fq f1;clear hT f1))
 go_ret
 exact ⟨rfl,H1.out,⟨A,bd,C1.out⟩,F1.out⟩
theorem E3 (hH:Hs w0 g w p h) (hC:Cs w0 w a c) (C:Cw w0 g h) (ho:h.over=false) (eP:c.stk.length<=500) (hp:0<=c.pc/\c.pc<=100000) (hl:2<=c.stk.length) (hk:¬(nth ag (c.top 2) 0).kind=3) :
  Calls Tryz.prog 58 #[.pointer (some ⟨p,0,none⟩),.pointer (some ⟨a.q,0,none⟩),.agg (cO 16 ia ib ic ii Q nl q)] w fun e w'=>e=.returned (int i64 (c.pc+1))/\Hs w0 g w' p (h.fin 6)/\Cs w0 w' a (c.cut 2)/\Fq w0.heap.size g.T a w w':=by
 have cI:=hH.base
 obtain ⟨A,cap,cV,gJ,HF,HH,HC,d10,HI,HW,n1,n2,qL,qM,k1,k2,hs⟩:=dpre 16 ia ib ic ii Q nl q hH hC C eP
 have br:=ho
 clear hH hC C ho
 have hz:((nth ag (c.top 2) 0).kind==3)=false:=by simpa using hk
 clear hk
 have wT:Hid (Hp.mustB h false=false):=rfl
 have sG:Hid (h.must false=h.fin 6):=rfl
 go_enter Tryz.func58,Tryz.ntmps58
 go_wp2_with (first
  | (go_at_call 56;refine (bP w0 g HW.out.k p h a c 2 _ A cap HH.out HC.out br hl hs).mono ?_;intro e w1 hT;obtain ⟨A1,cW,bd,rfl,de,j0,j1,j2,j4,gI,H1,iH,C1,f1,-⟩:=ky hT HI HW n1 n2 br;have F1:Hid (Fq w0.heap.size g.T a w w1):=Fq.trans HF.out.fq f1;clear hT f1;obtain ⟨b,off,rfl,t0,t1,t2,t3,jW⟩:=yK de (by simp [aC]);clear de)
  | (go_at_call 55;refine (bk w0 g HW.out.k p h false _ H1.out).mono ?_;rintro e w2 ⟨he,h2,f2⟩;rw [wT.out] at he;subst he;rw [sG.out] at h2;skip))
 go_ret
 exact ⟨rfl,h2,⟨A,bd,C1.out.fr HW.out.k f2⟩,F1.out.trans f2.fq⟩
theorem E4 (hH:Hs w0 g w p h) (hC:Cs w0 w a c) (C:Cw w0 g h) (ho:h.over=false) (eP:c.stk.length<=500) (hp:0<=c.pc/\c.pc<=100000) (hl:2<=c.stk.length) (hk:(nth ag (c.top 2) 0).kind=3) (h3:(nth ag (c.top 2) 0).kind=3->(nth ag (c.top 2) 0).n<h.objs.length) (h4:(nth ag (c.top 2) 1).kind=3->(nth ag (c.top 2) 1).n<h.objs.length) (pq:0<=ia/\ia<h.file.classes.length) (Ox:0<=ib/\ib<(nth cg h.file.classes ia.toNat).fields.length) :
  Calls Tryz.prog 58 #[.pointer (some ⟨p,0,none⟩),.pointer (some ⟨a.q,0,none⟩),.agg (cO 16 ia ib ic ii Q nl q)] w fun e w'=>e=.returned (int i64 (c.pc+1))/\Hs w0 g w' p (h.put (nth ag (c.top 2) 0) ia ib (nth ag (c.top 2) 1))/\Cs w0 w' a (c.cut 2)/\Fq w0.heap.size g.T a w w':=by
 have cI:=hH.base
 obtain ⟨A,cap,cV,gJ,HF,HH,HC,d10,HI,HW,n1,n2,qL,qM,k1,k2,hs⟩:=dpre 16 ia ib ic ii Q nl q hH hC C eP
 have br:=ho
 clear hH hC C ho
 have qK:(!h.over)=true:=by rw [br];rfl
 have H3:Hid ((nth ag (c.top 2) 0).kind=3->(nth ag (c.top 2) 0).n<h.objs.length):=h3
 have H4:Hid ((nth ag (c.top 2) 1).kind=3->(nth ag (c.top 2) 1).n<h.objs.length):=h4
 obtain ⟨n,rfl⟩:∃n:Nat,ia=n:=⟨ia.toNat,by omega⟩
 obtain ⟨m,rfl⟩:∃m:Nat,ib=m:=⟨ib.toNat,by omega⟩
 rw [Int.toNat_natCast] at Ox
 have hn:n<h.file.classes.length:=by omega
 have jX:m<(nth cg h.file.classes n).fields.length:=by omega
 have hz:((nth ag (c.top 2) 0).kind==3)=true:=by simpa using hk
 clear hk h3 h4 pq Ox
 go_enter Tryz.func58,Tryz.ntmps58
 go_wp2_with (first
  | (go_at_call 56;refine (bP w0 g HW.out.k p h a c 2 _ A cap HH.out HC.out br hl hs).mono ?_;rintro e w1 ⟨A1,cW,bd,rfl,de,h1,c1,f1,-⟩;have i1:=HI.out.fq HW.out.k f1 n1 n2;have j0:=i1.c0;have j1:=i1.c1;have j2:=i1.c2;have j4:=i1.c4;have gI:Hid (cJ w1 w.heap.size 16 (n:Int) (m:Int) ic ii):=i1;clear i1;have H1:Hid (Hs w0 g w1 p h):=h1;have iH:w1.cell? ⟨p,12,none⟩=some (.bool false):=(by obtain ⟨vo,vx,hv,X⟩:=h1;rw [X.cells.c12,br]);clear h1;have C1:Hid (bq w0 w1 a (c.cut 2) A bd):=c1;clear c1;have F1:Hid (Fq w0.heap.size g.T a w w1):=Fq.trans HF.out.fq f1;clear f1;obtain ⟨b,off,rfl,t0,t1,t2,t3,jW⟩:=yK de (by simp [aC]);clear de)
  | (go_at_call 55;refine (dj w0 g p h _ H1.out).mono ?_;rintro e w2 ⟨he,eK⟩;rw [qK] at he;subst he;rw [eK];clear eK w2))
 go_region_held3 (fun w'=>w'.cell? ⟨b,off,none⟩=some (int i64 (nth ag (c.top 2) 0).kind)/\w'.cell? ⟨b,off+1,none⟩=some (int i64 (nth ag (c.top 2) 0).n)/\w'.cell? ⟨b,off+2,none⟩=some (int i64 (nth ag (c.top 2) 1).kind)/\w'.cell? ⟨b,off+2+1,none⟩=some (int i64 (nth ag (c.top 2) 1).n)/\w'.cell? ⟨w.heap.size,1,none⟩=some (int i64 (n:Int))/\w'.cell? ⟨w.heap.size,2,none⟩=some (int i64 (m:Int)))
  (go_keep)
  (first
   | (go_at_call 115;refine (I4 w0 g p h (nth ag (c.top 2) 0) n m (nth ag (c.top 2) 1) _ (by first|exact H1.out.cf (Cf.drew (Cf.refl _ _ _))|exact H1.out) HW.out H3.out H4.out hn jX).mono ?_;rintro e w2 ⟨rfl,h2,f2⟩;have F2:Hid (Fr w0.heap.size g.T w1 w2):=Fr.trans (Fr.drew (Fr.refl _ _ _)) f2;clear f2;obtain ⟨u0,u1,u2,u3,Dl⟩:=OP jW HW F2 (by simp [aC]);have i2:=gI.out.fr HW.out.k F2.out;have l1:=i2.c1;have l2:=i2.c2;have Af:Hid (cJ w2 w.heap.size 16 (n:Int) (m:Int) ic ii):=i2;clear i2))
 go_wp2
 go_ret
 exact ⟨rfl,h2,⟨A,bd,C1.out.fr HW.out.k F2.out⟩,F1.out.trans F2.out.fq⟩
end
section
variable (w0:World) (g:Ad) (p:Nat) (h:Hp) (a:Ca) (c:aH) (ia ib ic ii:Int) (Q:Option Addr) (nl q:Nat) (w:World)
theorem B6 (hH:Hs w0 g w p h) (hC:Cs w0 w a c) (C:Cw w0 g h) (ho:h.over=false) (hs:c.stk.length<=1000) (hl:c.stk.length<2) :
  Calls Tryz.prog 116 #[.pointer (some ⟨p,0,none⟩),.pointer (some ⟨a.q,0,none⟩),.agg (cO 6 ia ib ic ii Q nl q)] w fun e w'=>e=.returned (iE ag)/\Hs w0 g w' p (h.fin 6)/\Cs w0 w' a c/\Fq w0.heap.size g.T a w w':=by
 have cI:=hH.base
 obtain ⟨A,cap,HE,cV,gJ,HF,HH,HC,HI,HR,HW,bN,bV,n1,n2,n3,n4⟩:=jF 6 ia ib ic ii Q nl q hH hC C
 have br:=ho
 clear hH hC C ho
 have l9:Hid ((h.fin 6).over=true):=by simp [Hp.fin,br,Hid]
 go_enter Tryz.func116,Tryz.ntmps116
 go_wp2_with ((go_at_call 56;refine (dK w0 g HW.out.k p h a c 2 _ A cap HH.out HC.out br hl (by omega)).mono ?_;intro e w1 hT;obtain ⟨A1,cW,bd,rfl,de,j0,j1,j2,j4,gI,H1,iH,C1,f1,kn⟩:=ky hT HI HW n1 n2 l9.out;obtain ⟨r0,r1,r2,r3,ea⟩:=rF HR HW f1 n3 n4;clear hT))
 (try simp only [Exit.inBlock,Exit.then])
 refine bodyPost_ret (results_cell_row rfl _ _ (w.heap.size+1) _ _ _ _ rfl (ea.out.set ag).blk Tryz.underlying62 rfl bp) rfl ?_
 exact ⟨rfl,H1.out.cf (ea.out.cf HW.out.k bN _ _),⟨A,bd,C1.out.box2 (HE.out.le (Nat.le_refl _)) bV n3 n4 _ _⟩,((HF.out.fq.trans f1)).box2 bV bN _ _⟩
theorem B8 (hH:Hs w0 g w p h) (hC:Cs w0 w a c) (C:Cw w0 g h) (ho:h.over=false) (hs:c.stk.length<=1000) (hl:c.stk.length<2) :
  Calls Tryz.prog 116 #[.pointer (some ⟨p,0,none⟩),.pointer (some ⟨a.q,0,none⟩),.agg (cO 7 ia ib ic ii Q nl q)] w fun e w'=>e=.returned (iE ag)/\Hs w0 g w' p (h.fin 6)/\Cs w0 w' a c/\Fq w0.heap.size g.T a w w':=by
 have cI:=hH.base
 obtain ⟨A,cap,HE,cV,gJ,HF,HH,HC,HI,HR,HW,bN,bV,n1,n2,n3,n4⟩:=jF 7 ia ib ic ii Q nl q hH hC C
 have br:=ho
 clear hH hC C ho
 have l9:Hid ((h.fin 6).over=true):=by simp [Hp.fin,br,Hid]
 go_enter Tryz.func116,Tryz.ntmps116
 go_wp2_with ((go_at_call 56;refine (dK w0 g HW.out.k p h a c 2 _ A cap HH.out HC.out br hl (by omega)).mono ?_;intro e w1 hT;obtain ⟨A1,cW,bd,rfl,de,j0,j1,j2,j4,gI,H1,iH,C1,f1,kn⟩:=ky hT HI HW n1 n2 l9.out;obtain ⟨r0,r1,r2,r3,ea⟩:=rF HR HW f1 n3 n4;clear hT))
 (try simp only [Exit.inBlock,Exit.then])
 refine bodyPost_ret (results_cell_row rfl _ _ (w.heap.size+1) _ _ _ _ rfl (ea.out.set ag).blk Tryz.underlying62 rfl bp) rfl ?_
 exact ⟨rfl,H1.out.cf (ea.out.cf HW.out.k bN _ _),⟨A,bd,C1.out.box2 (HE.out.le (Nat.le_refl _)) bV n3 n4 _ _⟩,((HF.out.fq.trans f1)).box2 bV bN _ _⟩
theorem yL (hH:Hs w0 g w p h) (hC:Cs w0 w a c) (C:Cw w0 g h) (ho:h.over=false) (hs:c.stk.length<=1000) (hl:c.stk.length<2) :
  Calls Tryz.prog 116 #[.pointer (some ⟨p,0,none⟩),.pointer (some ⟨a.q,0,none⟩),.agg (cO 10 ia ib ic ii Q nl q)] w fun e w'=>e=.returned (iE ag)/\Hs w0 g w' p (h.fin 6)/\Cs w0 w' a c/\Fq w0.heap.size g.T a w w':=by
 have cI:=hH.base
 obtain ⟨A,cap,HE,cV,gJ,HF,HH,HC,HI,HR,HW,bN,bV,n1,n2,n3,n4⟩:=jF 10 ia ib ic ii Q nl q hH hC C
 have br:=ho
 clear hH hC C ho
 have l9:Hid ((h.fin 6).over=true):=by simp [Hp.fin,br,Hid]
 go_enter Tryz.func116,Tryz.ntmps116
 go_wp2_with ((go_at_call 56;refine (dK w0 g HW.out.k p h a c 2 _ A cap HH.out HC.out br hl (by omega)).mono ?_;intro e w1 hT;obtain ⟨A1,cW,bd,rfl,de,j0,j1,j2,j4,gI,H1,iH,C1,f1,kn⟩:=ky hT HI HW n1 n2 l9.out;obtain ⟨r0,r1,r2,r3,ea⟩:=rF HR HW f1 n3 n4;clear hT))
 (try simp only [Exit.inBlock,Exit.then])
 refine bodyPost_ret (results_cell_row rfl _ _ (w.heap.size+1) _ _ _ _ rfl (ea.out.set ag).blk Tryz.underlying62 rfl bp) rfl ?_
 exact ⟨rfl,H1.out.cf (ea.out.cf HW.out.k bN _ _),⟨A,bd,C1.out.box2 (HE.out.le (Nat.le_refl _)) bV n3 n4 _ _⟩,((HF.out.fq.trans f1)).box2 bV bN _ _⟩
theorem Cb (hH:Hs w0 g w p h) (hC:Cs w0 w a c) (C:Cw w0 g h) (ho:h.over=false) (hs:c.stk.length<=1000) (hl:c.stk.length<1) :
  Calls Tryz.prog 116 #[.pointer (some ⟨p,0,none⟩),.pointer (some ⟨a.q,0,none⟩),.agg (cO 8 ia ib ic ii Q nl q)] w fun e w'=>e=.returned (iE ag)/\Hs w0 g w' p (h.fin 6)/\Cs w0 w' a c/\Fq w0.heap.size g.T a w w':=by
 have cI:=hH.base
 obtain ⟨A,cap,HE,cV,gJ,HF,HH,HC,HI,HR,HW,bN,bV,n1,n2,n3,n4⟩:=jF 8 ia ib ic ii Q nl q hH hC C
 have br:=ho
 clear hH hC C ho
 have l9:Hid ((h.fin 6).over=true):=by simp [Hp.fin,br,Hid]
 go_enter Tryz.func116,Tryz.ntmps116
 go_wp2_with ((go_at_call 56;refine (dK w0 g HW.out.k p h a c 1 _ A cap HH.out HC.out br hl (by omega)).mono ?_;intro e w1 hT;obtain ⟨A1,cW,bd,rfl,de,j0,j1,j2,j4,gI,H1,iH,C1,f1,kn⟩:=ky hT HI HW n1 n2 l9.out;obtain ⟨r0,r1,r2,r3,ea⟩:=rF HR HW f1 n3 n4;clear hT))
 (try simp only [Exit.inBlock,Exit.then])
 refine bodyPost_ret (results_cell_row rfl _ _ (w.heap.size+1) _ _ _ _ rfl (ea.out.set ag).blk Tryz.underlying62 rfl bp) rfl ?_
 exact ⟨rfl,H1.out.cf (ea.out.cf HW.out.k bN _ _),⟨A,bd,C1.out.box2 (HE.out.le (Nat.le_refl _)) bV n3 n4 _ _⟩,((HF.out.fq.trans f1)).box2 bV bN _ _⟩
theorem Cc (hH:Hs w0 g w p h) (hC:Cs w0 w a c) (C:Cw w0 g h) (ho:h.over=false) (hs:c.stk.length<=1000) (hl:c.stk.length<1) :
  Calls Tryz.prog 116 #[.pointer (some ⟨p,0,none⟩),.pointer (some ⟨a.q,0,none⟩),.agg (cO 9 ia ib ic ii Q nl q)] w fun e w'=>e=.returned (iE ag)/\Hs w0 g w' p (h.fin 6)/\Cs w0 w' a c/\Fq w0.heap.size g.T a w w':=by
 have cI:=hH.base
 obtain ⟨A,cap,HE,cV,gJ,HF,HH,HC,HI,HR,HW,bN,bV,n1,n2,n3,n4⟩:=jF 9 ia ib ic ii Q nl q hH hC C
 have br:=ho
 clear hH hC C ho
 have l9:Hid ((h.fin 6).over=true):=by simp [Hp.fin,br,Hid]
 go_enter Tryz.func116,Tryz.ntmps116
 go_wp2_with ((go_at_call 56;refine (dK w0 g HW.out.k p h a c 1 _ A cap HH.out HC.out br hl (by omega)).mono ?_;intro e w1 hT;obtain ⟨A1,cW,bd,rfl,de,j0,j1,j2,j4,gI,H1,iH,C1,f1,kn⟩:=ky hT HI HW n1 n2 l9.out;obtain ⟨r0,r1,r2,r3,ea⟩:=rF HR HW f1 n3 n4;clear hT))
 (try simp only [Exit.inBlock,Exit.then])
 refine bodyPost_ret (results_cell_row rfl _ _ (w.heap.size+1) _ _ _ _ rfl (ea.out.set ag).blk Tryz.underlying62 rfl bp) rfl ?_
 exact ⟨rfl,H1.out.cf (ea.out.cf HW.out.k bN _ _),⟨A,bd,C1.out.box2 (HE.out.le (Nat.le_refl _)) bV n3 n4 _ _⟩,((HF.out.fq.trans f1)).box2 bV bN _ _⟩
theorem yM (hH:Hs w0 g w p h) (hC:Cs w0 w a c) (C:Cw w0 g h) (ho:h.over=false) (hs:c.stk.length<=1000) (hl:c.stk.length<1) :
  Calls Tryz.prog 116 #[.pointer (some ⟨p,0,none⟩),.pointer (some ⟨a.q,0,none⟩),.agg (cO 15 ia ib ic ii Q nl q)] w fun e w'=>e=.returned (iE ag)/\Hs w0 g w' p (h.fin 6)/\Cs w0 w' a c/\Fq w0.heap.size g.T a w w':=by
 have cI:=hH.base
 obtain ⟨A,cap,HE,cV,gJ,HF,HH,HC,HI,HR,HW,bN,bV,n1,n2,n3,n4⟩:=jF 15 ia ib ic ii Q nl q hH hC C
 have br:=ho
 clear hH hC C ho
 have l9:Hid ((h.fin 6).over=true):=by simp [Hp.fin,br,Hid]
 go_enter Tryz.func116,Tryz.ntmps116
 go_wp2_with ((go_at_call 56;refine (dK w0 g HW.out.k p h a c 1 _ A cap HH.out HC.out br hl (by omega)).mono ?_;intro e w1 hT;obtain ⟨A1,cW,bd,rfl,de,j0,j1,j2,j4,gI,H1,iH,C1,f1,kn⟩:=ky hT HI HW n1 n2 l9.out;obtain ⟨r0,r1,r2,r3,ea⟩:=rF HR HW f1 n3 n4;clear hT))
 (try simp only [Exit.inBlock,Exit.then])
 refine bodyPost_ret (results_cell_row rfl _ _ (w.heap.size+1) _ _ _ _ rfl (ea.out.set ag).blk Tryz.underlying62 rfl bp) rfl ?_
 exact ⟨rfl,H1.out.cf (ea.out.cf HW.out.k bN _ _),⟨A,bd,C1.out.box2 (HE.out.le (Nat.le_refl _)) bV n3 n4 _ _⟩,((HF.out.fq.trans f1)).box2 bV bN _ _⟩
theorem yN (hH:Hs w0 g w p h) (hC:Cs w0 w a c) (C:Cw w0 g h) (ho:h.over=false) (hs:c.stk.length<=1000) (hl:c.stk.length<1) :
  Calls Tryz.prog 116 #[.pointer (some ⟨p,0,none⟩),.pointer (some ⟨a.q,0,none⟩),.agg (cO 17 ia ib ic ii Q nl q)] w fun e w'=>e=.returned (iE ag)/\Hs w0 g w' p (h.fin 6)/\Cs w0 w' a c/\Fq w0.heap.size g.T a w w':=by
 have cI:=hH.base
 obtain ⟨A,cap,HE,cV,gJ,HF,HH,HC,HI,HR,HW,bN,bV,n1,n2,n3,n4⟩:=jF 17 ia ib ic ii Q nl q hH hC C
 have br:=ho
 clear hH hC C ho
 have l9:Hid ((h.fin 6).over=true):=by simp [Hp.fin,br,Hid]
 go_enter Tryz.func116,Tryz.ntmps116
 go_wp2_with ((go_at_call 56;refine (dK w0 g HW.out.k p h a c 1 _ A cap HH.out HC.out br hl (by omega)).mono ?_;intro e w1 hT;obtain ⟨A1,cW,bd,rfl,de,j0,j1,j2,j4,gI,H1,iH,C1,f1,kn⟩:=ky hT HI HW n1 n2 l9.out;obtain ⟨r0,r1,r2,r3,ea⟩:=rF HR HW f1 n3 n4;clear hT))
 (try simp only [Exit.inBlock,Exit.then])
 refine bodyPost_ret (results_cell_row rfl _ _ (w.heap.size+1) _ _ _ _ rfl (ea.out.set ag).blk Tryz.underlying62 rfl bp) rfl ?_
 exact ⟨rfl,H1.out.cf (ea.out.cf HW.out.k bN _ _),⟨A,bd,C1.out.box2 (HE.out.le (Nat.le_refl _)) bV n3 n4 _ _⟩,((HF.out.fq.trans f1)).box2 bV bN _ _⟩
theorem yO (hH:Hs w0 g w p h) (hC:Cs w0 w a c) (C:Cw w0 g h) (ho:h.over=false) (hs:c.stk.length<=1000) (hl:c.stk.length<1) :
  Calls Tryz.prog 116 #[.pointer (some ⟨p,0,none⟩),.pointer (some ⟨a.q,0,none⟩),.agg (cO 18 ia ib ic ii Q nl q)] w fun e w'=>e=.returned (iE ag)/\Hs w0 g w' p (h.fin 6)/\Cs w0 w' a c/\Fq w0.heap.size g.T a w w':=by
 have cI:=hH.base
 obtain ⟨A,cap,HE,cV,gJ,HF,HH,HC,HI,HR,HW,bN,bV,n1,n2,n3,n4⟩:=jF 18 ia ib ic ii Q nl q hH hC C
 have br:=ho
 clear hH hC C ho
 have l9:Hid ((h.fin 6).over=true):=by simp [Hp.fin,br,Hid]
 go_enter Tryz.func116,Tryz.ntmps116
 go_wp2_with ((go_at_call 56;refine (dK w0 g HW.out.k p h a c 1 _ A cap HH.out HC.out br hl (by omega)).mono ?_;intro e w1 hT;obtain ⟨A1,cW,bd,rfl,de,j0,j1,j2,j4,gI,H1,iH,C1,f1,kn⟩:=ky hT HI HW n1 n2 l9.out;obtain ⟨r0,r1,r2,r3,ea⟩:=rF HR HW f1 n3 n4;clear hT))
 (try simp only [Exit.inBlock,Exit.then])
 refine bodyPost_ret (results_cell_row rfl _ _ (w.heap.size+1) _ _ _ _ rfl (ea.out.set ag).blk Tryz.underlying62 rfl bp) rfl ?_
 exact ⟨rfl,H1.out.cf (ea.out.cf HW.out.k bN _ _),⟨A,bd,C1.out.box2 (HE.out.le (Nat.le_refl _)) bV n3 n4 _ _⟩,((HF.out.fq.trans f1)).box2 bV bN _ _⟩
theorem Jj (hH:Hs w0 g w p h) (hC:Cs w0 w a c) (C:Cw w0 g h) (ho:h.over=false) (hs:c.stk.length<=1000) :
  Calls Tryz.prog 116 #[.pointer (some ⟨p,0,none⟩),.pointer (some ⟨a.q,0,none⟩),.agg (cO 1 ia ib ic ii Q nl q)] w fun e w'=>e=.returned (iE ⟨1,ii⟩)/\Hs w0 g w' p h/\Cs w0 w' a (c.cut 0)/\Fq w0.heap.size g.T a w w':=by
 have cI:=hH.base
 obtain ⟨A,cap,HE,cV,gJ,HF,HH,HC,HI,HR,HW,bN,bV,n1,n2,n3,n4⟩:=jF 1 ia ib ic ii Q nl q hH hC C
 have br:=ho
 clear hH hC C ho
 have hl:0<=c.stk.length:=Nat.zero_le _
 go_enter Tryz.func116,Tryz.ntmps116
 go_wp2_with ((go_at_call 56;refine (bP w0 g HW.out.k p h a c 0 _ A cap HH.out HC.out br hl hs).mono ?_;intro e w1 hT;obtain ⟨A1,cW,bd,rfl,de,j0,j1,j2,j4,gI,H1,iH,C1,f1,kn⟩:=ky hT HI HW n1 n2 br;obtain ⟨r0,r1,r2,r3,ea⟩:=rF HR HW f1 n3 n4;clear hT))
 (try simp only [Exit.inBlock,Exit.then])
 refine bodyPost_ret (results_cell_row rfl _ _ (w.heap.size+1) _ _ _ _ rfl (ea.out.set ⟨1,ii⟩).blk Tryz.underlying62 rfl bp) rfl ?_
 exact ⟨rfl,H1.out.cf (ea.out.cf HW.out.k bN _ _),⟨A,bd,C1.out.box2 (HE.out.le (eW _ _)) bV n3 n4 _ _⟩,((HF.out.fq.trans f1)).box2 bV bN _ _⟩
theorem Jk (hH:Hs w0 g w p h) (hC:Cs w0 w a c) (C:Cw w0 g h) (ho:h.over=false) (hs:c.stk.length<=1000) :
  Calls Tryz.prog 116 #[.pointer (some ⟨p,0,none⟩),.pointer (some ⟨a.q,0,none⟩),.agg (cO 2 ia ib ic ii Q nl q)] w fun e w'=>e=.returned (iE ⟨2,ii⟩)/\Hs w0 g w' p h/\Cs w0 w' a (c.cut 0)/\Fq w0.heap.size g.T a w w':=by
 have cI:=hH.base
 obtain ⟨A,cap,HE,cV,gJ,HF,HH,HC,HI,HR,HW,bN,bV,n1,n2,n3,n4⟩:=jF 2 ia ib ic ii Q nl q hH hC C
 have br:=ho
 clear hH hC C ho
 have hl:0<=c.stk.length:=Nat.zero_le _
 go_enter Tryz.func116,Tryz.ntmps116
 go_wp2_with ((go_at_call 56;refine (bP w0 g HW.out.k p h a c 0 _ A cap HH.out HC.out br hl hs).mono ?_;intro e w1 hT;obtain ⟨A1,cW,bd,rfl,de,j0,j1,j2,j4,gI,H1,iH,C1,f1,kn⟩:=ky hT HI HW n1 n2 br;obtain ⟨r0,r1,r2,r3,ea⟩:=rF HR HW f1 n3 n4;clear hT))
 (try simp only [Exit.inBlock,Exit.then])
 refine bodyPost_ret (results_cell_row rfl _ _ (w.heap.size+1) _ _ _ _ rfl (ea.out.set ⟨2,ii⟩).blk Tryz.underlying62 rfl bp) rfl ?_
 exact ⟨rfl,H1.out.cf (ea.out.cf HW.out.k bN _ _),⟨A,bd,C1.out.box2 (HE.out.le (eW _ _)) bV n3 n4 _ _⟩,((HF.out.fq.trans f1)).box2 bV bN _ _⟩
theorem Jl (hH:Hs w0 g w p h) (hC:Cs w0 w a c) (C:Cw w0 g h) (ho:h.over=false) (hs:c.stk.length<=1000) :
  Calls Tryz.prog 116 #[.pointer (some ⟨p,0,none⟩),.pointer (some ⟨a.q,0,none⟩),.agg (cO 3 ia ib ic ii Q nl q)] w fun e w'=>e=.returned (iE ⟨3,-1⟩)/\Hs w0 g w' p h/\Cs w0 w' a (c.cut 0)/\Fq w0.heap.size g.T a w w':=by
 have cI:=hH.base
 obtain ⟨A,cap,HE,cV,gJ,HF,HH,HC,HI,HR,HW,bN,bV,n1,n2,n3,n4⟩:=jF 3 ia ib ic ii Q nl q hH hC C
 have br:=ho
 clear hH hC C ho
 have hl:0<=c.stk.length:=Nat.zero_le _
 go_enter Tryz.func116,Tryz.ntmps116
 go_wp2_with ((go_at_call 56;refine (bP w0 g HW.out.k p h a c 0 _ A cap HH.out HC.out br hl hs).mono ?_;intro e w1 hT;obtain ⟨A1,cW,bd,rfl,de,j0,j1,j2,j4,gI,H1,iH,C1,f1,kn⟩:=ky hT HI HW n1 n2 br;obtain ⟨r0,r1,r2,r3,ea⟩:=rF HR HW f1 n3 n4;clear hT))
 (try simp only [Exit.inBlock,Exit.then])
 refine bodyPost_ret (results_cell_row rfl _ _ (w.heap.size+1) _ _ _ _ rfl (ea.out.set ⟨3,-1⟩).blk Tryz.underlying62 rfl bp) rfl ?_
 exact ⟨rfl,H1.out.cf (ea.out.cf HW.out.k bN _ _),⟨A,bd,C1.out.box2 (HE.out.le (eW _ _)) bV n3 n4 _ _⟩,((HF.out.fq.trans f1)).box2 bV bN _ _⟩
end
section
variable (w0:World) (g:Ad) (p:Nat) (h:Hp) (a:Ca) (c:aH) (ia ib ic ii:Int) (Q:Option Addr) (nl q:Nat) (w:World)
theorem Jm (hH:Hs w0 g w p h) (hC:Cs w0 w a c) (C:Cw w0 g h) (ho:h.over=false) (hs:c.stk.length<=1000) (hl:2<=c.stk.length) (hx:cP (nth ag (c.top 2) 0).n) (hy:cP (nth ag (c.top 2) 1).n) :
  Calls Tryz.prog 116 #[.pointer (some ⟨p,0,none⟩),.pointer (some ⟨a.q,0,none⟩),.agg (cO 6 ia ib ic ii Q nl q)] w fun e w'=>e=.returned (iE (h.reckV (nth ag (c.top 2) 0) (nth ag (c.top 2) 1) 1 ia))/\Hs w0 g w' p (h.reckH (nth ag (c.top 2) 0) (nth ag (c.top 2) 1) 1 ia)/\Cs w0 w' a (c.cut 2)/\Fq w0.heap.size g.T a w w':=by
 have cI:=hH.base
 obtain ⟨A,cap,HE,cV,gJ,HF,HH,HC,HI,HR,HW,bN,bV,n1,n2,n3,n4⟩:=jF 6 ia ib ic ii Q nl q hH hC C
 have br:=ho
 clear hH hC C ho
 have HX:Hid (cP (nth ag (c.top 2) 0).n):=hx
 have HY:Hid (cP (nth ag (c.top 2) 1).n):=hy
 clear hx hy
 obtain ⟨V,hV⟩:∃V,h.reckV (nth ag (c.top 2) 0) (nth ag (c.top 2) 1) 1 ia=V:=⟨_,rfl⟩
 rw [hV]
 go_enter Tryz.func116,Tryz.ntmps116
 go_wp2_with ((go_at_call 56;refine (bP w0 g HW.out.k p h a c 2 _ A cap HH.out HC.out br hl hs).mono ?_;intro e w1 hT;obtain ⟨A1,cW,bd,rfl,de,j0,j1,j2,j4,gI,H1,iH,C1,f1,kn⟩:=ky hT HI HW n1 n2 br;obtain ⟨r0,r1,r2,r3,ea⟩:=rF HR HW f1 n3 n4;clear hT;obtain ⟨b,off,rfl,t0,t1,t2,t3,jW⟩:=yK de (by simp [aC]);have nb:=kK HE.out (by omega) (kn rfl);have Lh:=Ne.symm nb;clear kn;clear de))
 go_region_held3 (fun w'=>w'.cell? ⟨b,off,none⟩=some (int i64 (nth ag (c.top 2) 0).kind)/\w'.cell? ⟨b,off+1,none⟩=some (int i64 (nth ag (c.top 2) 0).n)/\w'.cell? ⟨b,off+2,none⟩=some (int i64 (nth ag (c.top 2) 1).kind)/\w'.cell? ⟨b,off+2+1,none⟩=some (int i64 (nth ag (c.top 2) 1).n)/\w'.cell? ⟨w.heap.size,1,none⟩=some (int i64 ia))
  (go_keep)
  (first
   | (go_at_call 159;refine (qJ w0 g p h (nth ag (c.top 2) 0) (nth ag (c.top 2) 1) 1 ia _ (by first|exact H1.out.cf (Cf.drew (Cf.refl _ _ _))|exact H1.out) HW.out (by omega) HX.out HY.out).mono ?_;rintro e w2 ⟨he,h2,f2⟩;rw [hV] at he;subst he;have F2:Hid (Fr w0.heap.size g.T w1 w2):=Fr.trans (Fr.drew (Fr.refl _ _ _)) f2;clear f2;obtain ⟨u0,u1,u2,u3,Dl⟩:=OP jW HW F2 (by simp [aC]);obtain ⟨l1,l2,Af⟩:=Ae gI HW F2;obtain ⟨x0,x1,x2,x3,jG⟩:=ES ea HW F2))
 go_wp2
 (try simp only [Exit.inBlock,Exit.then])
 refine bodyPost_ret (results_cell_row rfl _ _ (w.heap.size+1) _ _ _ _ rfl (jG.out.set V).blk Tryz.underlying62 rfl bp) rfl ?_
 exact ⟨rfl,h2.cf (jG.out.cf HW.out.k bN _ _),⟨A,bd,(C1.out.fr HW.out.k F2.out).box2 (HE.out.le (eW _ _)) bV n3 n4 _ _⟩,(((HF.out.fq.trans f1).trans F2.out.fq)).box2 bV bN _ _⟩
theorem Jn (hH:Hs w0 g w p h) (hC:Cs w0 w a c) (C:Cw w0 g h) (ho:h.over=false) (hs:c.stk.length<=1000) (hl:2<=c.stk.length) (hx:cP (nth ag (c.top 2) 0).n) (hy:cP (nth ag (c.top 2) 1).n) :
  Calls Tryz.prog 116 #[.pointer (some ⟨p,0,none⟩),.pointer (some ⟨a.q,0,none⟩),.agg (cO 7 ia ib ic ii Q nl q)] w fun e w'=>e=.returned (iE (h.reckV (nth ag (c.top 2) 0) (nth ag (c.top 2) 1) 2 ia))/\Hs w0 g w' p (h.reckH (nth ag (c.top 2) 0) (nth ag (c.top 2) 1) 2 ia)/\Cs w0 w' a (c.cut 2)/\Fq w0.heap.size g.T a w w':=by
 have cI:=hH.base
 obtain ⟨A,cap,HE,cV,gJ,HF,HH,HC,HI,HR,HW,bN,bV,n1,n2,n3,n4⟩:=jF 7 ia ib ic ii Q nl q hH hC C
 have br:=ho
 clear hH hC C ho
 have HX:Hid (cP (nth ag (c.top 2) 0).n):=hx
 have HY:Hid (cP (nth ag (c.top 2) 1).n):=hy
 clear hx hy
 obtain ⟨V,hV⟩:∃V,h.reckV (nth ag (c.top 2) 0) (nth ag (c.top 2) 1) 2 ia=V:=⟨_,rfl⟩
 rw [hV]
 go_enter Tryz.func116,Tryz.ntmps116
 go_wp2_with ((go_at_call 56;refine (bP w0 g HW.out.k p h a c 2 _ A cap HH.out HC.out br hl hs).mono ?_;intro e w1 hT;obtain ⟨A1,cW,bd,rfl,de,j0,j1,j2,j4,gI,H1,iH,C1,f1,kn⟩:=ky hT HI HW n1 n2 br;obtain ⟨r0,r1,r2,r3,ea⟩:=rF HR HW f1 n3 n4;clear hT;obtain ⟨b,off,rfl,t0,t1,t2,t3,jW⟩:=yK de (by simp [aC]);have nb:=kK HE.out (by omega) (kn rfl);have Lh:=Ne.symm nb;clear kn;clear de))
 go_region_held3 (fun w'=>w'.cell? ⟨b,off,none⟩=some (int i64 (nth ag (c.top 2) 0).kind)/\w'.cell? ⟨b,off+1,none⟩=some (int i64 (nth ag (c.top 2) 0).n)/\w'.cell? ⟨b,off+2,none⟩=some (int i64 (nth ag (c.top 2) 1).kind)/\w'.cell? ⟨b,off+2+1,none⟩=some (int i64 (nth ag (c.top 2) 1).n)/\w'.cell? ⟨w.heap.size,1,none⟩=some (int i64 ia))
  (go_keep)
  (first
   | (go_at_call 159;refine (qJ w0 g p h (nth ag (c.top 2) 0) (nth ag (c.top 2) 1) 2 ia _ (by first|exact H1.out.cf (Cf.drew (Cf.refl _ _ _))|exact H1.out) HW.out (by omega) HX.out HY.out).mono ?_;rintro e w2 ⟨he,h2,f2⟩;rw [hV] at he;subst he;have F2:Hid (Fr w0.heap.size g.T w1 w2):=Fr.trans (Fr.drew (Fr.refl _ _ _)) f2;clear f2;obtain ⟨u0,u1,u2,u3,Dl⟩:=OP jW HW F2 (by simp [aC]);obtain ⟨l1,l2,Af⟩:=Ae gI HW F2;obtain ⟨x0,x1,x2,x3,jG⟩:=ES ea HW F2))
 go_wp2
 (try simp only [Exit.inBlock,Exit.then])
 refine bodyPost_ret (results_cell_row rfl _ _ (w.heap.size+1) _ _ _ _ rfl (jG.out.set V).blk Tryz.underlying62 rfl bp) rfl ?_
 exact ⟨rfl,h2.cf (jG.out.cf HW.out.k bN _ _),⟨A,bd,(C1.out.fr HW.out.k F2.out).box2 (HE.out.le (eW _ _)) bV n3 n4 _ _⟩,(((HF.out.fq.trans f1).trans F2.out.fq)).box2 bV bN _ _⟩
end
section
variable (w0:World) (g:Ad) (p:Nat) (h:Hp) (a:Ca) (c:aH) (ia ib ic ii:Int) (Q:Option Addr) (nl q:Nat) (w:World)
theorem Jo (hH:Hs w0 g w p h) (hC:Cs w0 w a c) (C:Cw w0 g h) (ho:h.over=false) (hs:c.stk.length<=1000) (hl:1<=c.stk.length) :
  Calls Tryz.prog 116 #[.pointer (some ⟨p,0,none⟩),.pointer (some ⟨a.q,0,none⟩),.agg (cO 8 ia ib ic ii Q nl q)] w fun e w'=>e=.returned (iE ⟨2,(nth ag (c.top 1) 0).n⟩)/\Hs w0 g w' p (h.must (decide ((nth ag (c.top 1) 0).kind=1)))/\Cs w0 w' a (c.cut 1)/\Fq w0.heap.size g.T a w w':=by
 have cI:=hH.base
 obtain ⟨A,cap,HE,cV,gJ,HF,HH,HC,HI,HR,HW,bN,bV,n1,n2,n3,n4⟩:=jF 8 ia ib ic ii Q nl q hH hC C
 have br:=ho
 clear hH hC C ho
 have HD:((nth ag (c.top 1) 0).kind==1)=decide ((nth ag (c.top 1) 0).kind=1):=(by rw [Bool.eq_iff_iff];simp)
 go_enter Tryz.func116,Tryz.ntmps116
 go_wp2_with (first
  | (go_at_call 56;refine (bP w0 g HW.out.k p h a c 1 _ A cap HH.out HC.out br hl hs).mono ?_;intro e w1 hT;obtain ⟨A1,cW,bd,rfl,de,j0,j1,j2,j4,gI,H1,iH,C1,f1,kn⟩:=ky hT HI HW n1 n2 br;obtain ⟨r0,r1,r2,r3,ea⟩:=rF HR HW f1 n3 n4;clear hT;obtain ⟨b,off,rfl,t0,t1,jW⟩:=ko de (by simp [aC]);have nb:=kK HE.out (by omega) (kn rfl);have Lh:=Ne.symm nb;clear kn;clear de)
  | (go_at_call 55;refine (bk w0 g HW.out.k p h _ _ H1.out).mono ?_;rintro e w2 ⟨rfl,h2,f2⟩;have F2:Hid (Fr w0.heap.size g.T w1 w2):=f2;clear f2;obtain ⟨u0,u1,Dl⟩:=Lg jW HW F2 (by simp [aC]);obtain ⟨l1,l2,Af⟩:=Ae gI HW F2;obtain ⟨x0,x1,x2,x3,jG⟩:=ES ea HW F2))
 (try simp only [Exit.inBlock,Exit.then])
 refine bodyPost_ret (results_cell_row rfl _ _ (w.heap.size+1) _ _ _ _ rfl (jG.out.set ⟨2,(nth ag (c.top 1) 0).n⟩).blk Tryz.underlying62 rfl bp) rfl ?_
 exact ⟨rfl,h2.cf (jG.out.cf HW.out.k bN _ _),⟨A,bd,(C1.out.fr HW.out.k F2.out).box2 (HE.out.le (eW _ _)) bV n3 n4 _ _⟩,(((HF.out.fq.trans f1).trans F2.out.fq)).box2 bV bN _ _⟩
theorem Jp (hH:Hs w0 g w p h) (hC:Cs w0 w a c) (C:Cw w0 g h) (ho:h.over=false) (hs:c.stk.length<=1000) (hl:1<=c.stk.length) :
  Calls Tryz.prog 116 #[.pointer (some ⟨p,0,none⟩),.pointer (some ⟨a.q,0,none⟩),.agg (cO 9 ia ib ic ii Q nl q)] w fun e w'=>e=.returned (iE ⟨1,wrap32 (nth ag (c.top 1) 0).n⟩)/\Hs w0 g w' p (h.must (decide ((nth ag (c.top 1) 0).kind=2)))/\Cs w0 w' a (c.cut 1)/\Fq w0.heap.size g.T a w w':=by
 have cI:=hH.base
 obtain ⟨A,cap,HE,cV,gJ,HF,HH,HC,HI,HR,HW,bN,bV,n1,n2,n3,n4⟩:=jF 9 ia ib ic ii Q nl q hH hC C
 have br:=ho
 clear hH hC C ho
 have HD:((nth ag (c.top 1) 0).kind==2)=decide ((nth ag (c.top 1) 0).kind=2):=(by rw [Bool.eq_iff_iff];simp)
 go_enter Tryz.func116,Tryz.ntmps116
 go_wp2_with (first
  | (go_at_call 56;refine (bP w0 g HW.out.k p h a c 1 _ A cap HH.out HC.out br hl hs).mono ?_;intro e w1 hT;obtain ⟨A1,cW,bd,rfl,de,j0,j1,j2,j4,gI,H1,iH,C1,f1,kn⟩:=ky hT HI HW n1 n2 br;obtain ⟨r0,r1,r2,r3,ea⟩:=rF HR HW f1 n3 n4;clear hT;obtain ⟨b,off,rfl,t0,t1,jW⟩:=ko de (by simp [aC]);have nb:=kK HE.out (by omega) (kn rfl);have Lh:=Ne.symm nb;clear kn;clear de)
  | (go_at_call 55;refine (bk w0 g HW.out.k p h _ _ H1.out).mono ?_;rintro e w2 ⟨rfl,h2,f2⟩;have F2:Hid (Fr w0.heap.size g.T w1 w2):=f2;clear f2;obtain ⟨u0,u1,Dl⟩:=Lg jW HW F2 (by simp [aC]);obtain ⟨l1,l2,Af⟩:=Ae gI HW F2;obtain ⟨x0,x1,x2,x3,jG⟩:=ES ea HW F2)
  | (go_at_call 50;refine (lh _ _).mono ?_;rintro e w3 ⟨rfl,lH⟩;rw [lH];clear lH w3))
 (try simp only [Exit.inBlock,Exit.then])
 refine bodyPost_ret (results_cell_row rfl _ _ (w.heap.size+1) _ _ _ _ rfl (jG.out.set ⟨1,wrap32 (nth ag (c.top 1) 0).n⟩).blk Tryz.underlying62 rfl bp) rfl ?_
 exact ⟨rfl,h2.cf (jG.out.cf HW.out.k bN _ _),⟨A,bd,(C1.out.fr HW.out.k F2.out).box2 (HE.out.le (eW _ _)) bV n3 n4 _ _⟩,(((HF.out.fq.trans f1).trans F2.out.fq)).box2 bV bN _ _⟩
theorem Cd (hH:Hs w0 g w p h) (hC:Cs w0 w a c) (C:Cw w0 g h) (ho:h.over=false) (hs:c.stk.length<=1000) (hl:2<=c.stk.length) (hk:(nth ag (c.top 2) 0).kind=2) :
  Calls Tryz.prog 116 #[.pointer (some ⟨p,0,none⟩),.pointer (some ⟨a.q,0,none⟩),.agg (cO 10 ia ib ic ii Q nl q)] w fun e w'=>e=.returned (iE ⟨1,mf (nth ag (c.top 2) 0).n (nth ag (c.top 2) 1).n⟩)/\Hs w0 g w' p (h.must (cv (nth ag (c.top 2) 0) (nth ag (c.top 2) 1) 2))/\Cs w0 w' a (c.cut 2)/\Fq w0.heap.size g.T a w w':=by
 have cI:=hH.base
 obtain ⟨A,cap,HE,cV,gJ,HF,HH,HC,HI,HR,HW,bN,bV,n1,n2,n3,n4⟩:=jF 10 ia ib ic ii Q nl q hH hC C
 have br:=ho
 clear hH hC C ho
 have Hq:((nth ag (c.top 2) 0).kind==2)=true:=by simpa using hk
 have HD:((nth ag (c.top 2) 1).kind==2)=cv (nth ag (c.top 2) 0) (nth ag (c.top 2) 1) 2:=by unfold cv;rw [decide_eq_true hk,Bool.eq_iff_iff];simp
 clear hk
 go_enter Tryz.func116,Tryz.ntmps116
 go_wp2_with (first
  | (go_at_call 56;refine (bP w0 g HW.out.k p h a c 2 _ A cap HH.out HC.out br hl hs).mono ?_;intro e w1 hT;obtain ⟨A1,cW,bd,rfl,de,j0,j1,j2,j4,gI,H1,iH,C1,f1,kn⟩:=ky hT HI HW n1 n2 br;obtain ⟨r0,r1,r2,r3,ea⟩:=rF HR HW f1 n3 n4;clear hT;obtain ⟨b,off,rfl,t0,t1,t2,t3,jW⟩:=yK de (by simp [aC]);have nb:=kK HE.out (by omega) (kn rfl);have Lh:=Ne.symm nb;clear kn;clear de)
  | (go_at_call 55;refine (bk w0 g HW.out.k p h _ _ H1.out).mono ?_;rintro e w2 ⟨rfl,h2,f2⟩;have F2:Hid (Fr w0.heap.size g.T w1 w2):=f2;clear f2;obtain ⟨u0,u1,u2,u3,Dl⟩:=OP jW HW F2 (by simp [aC]);obtain ⟨l1,l2,Af⟩:=Ae gI HW F2;obtain ⟨x0,x1,x2,x3,jG⟩:=ES ea HW F2))
 go_region_held3 (fun w'=>w'.cell? ⟨b,off+1,none⟩=some (int i64 (nth ag (c.top 2) 0).n)/\w'.cell? ⟨b,off+2+1,none⟩=some (int i64 (nth ag (c.top 2) 1).n))
  (go_keep)
  (first
   | (go_at_call 160;refine (vQ _ _ _).mono ?_;rintro e w3 ⟨rfl,lH⟩;rw [lH];clear lH w3))
 go_wp2
 (try simp only [Exit.inBlock,Exit.then])
 have R3:aP w2.drew (w.heap.size+1) ag:=⟨jG.out.blk⟩
 refine bodyPost_ret (results_cell_row rfl _ _ (w.heap.size+1) _ _ _ _ rfl (R3.set ⟨1,mf (nth ag (c.top 2) 0).n (nth ag (c.top 2) 1).n⟩).blk Tryz.underlying62 rfl bp) rfl ?_
 exact ⟨rfl,(h2.cf (Cf.drew (Cf.refl _ _ _))).cf (R3.cf HW.out.k bN _ _),⟨A,bd,((C1.out.fr HW.out.k F2.out).fr (B:=w0.heap.size) HW.out.k (Fr.drew (Fr.refl _ _ _))).box2 (HE.out.le (eW _ _)) bV n3 n4 _ _⟩,(((HF.out.fq.trans f1).trans F2.out.fq).trans (Fr.fq (Fr.drew (Fr.refl _ _ _)))).box2 bV bN _ _⟩
theorem Ce (hH:Hs w0 g w p h) (hC:Cs w0 w a c) (C:Cw w0 g h) (ho:h.over=false) (hs:c.stk.length<=1000) (hl:2<=c.stk.length) (hk:¬(nth ag (c.top 2) 0).kind=2) :
  Calls Tryz.prog 116 #[.pointer (some ⟨p,0,none⟩),.pointer (some ⟨a.q,0,none⟩),.agg (cO 10 ia ib ic ii Q nl q)] w fun e w'=>e=.returned (iE ⟨1,mf (nth ag (c.top 2) 0).n (nth ag (c.top 2) 1).n⟩)/\Hs w0 g w' p (h.must (cv (nth ag (c.top 2) 0) (nth ag (c.top 2) 1) 2))/\Cs w0 w' a (c.cut 2)/\Fq w0.heap.size g.T a w w':=by
 have cI:=hH.base
 obtain ⟨A,cap,HE,cV,gJ,HF,HH,HC,HI,HR,HW,bN,bV,n1,n2,n3,n4⟩:=jF 10 ia ib ic ii Q nl q hH hC C
 have br:=ho
 clear hH hC C ho
 have Hq:((nth ag (c.top 2) 0).kind==2)=false:=by simpa using hk
 have HD:cv (nth ag (c.top 2) 0) (nth ag (c.top 2) 1) 2=false:=by unfold cv;rw [decide_eq_false hk];rfl
 rw [HD]
 clear hk HD
 go_enter Tryz.func116,Tryz.ntmps116
 go_wp2_with (first
  | (go_at_call 56;refine (bP w0 g HW.out.k p h a c 2 _ A cap HH.out HC.out br hl hs).mono ?_;intro e w1 hT;obtain ⟨A1,cW,bd,rfl,de,j0,j1,j2,j4,gI,H1,iH,C1,f1,kn⟩:=ky hT HI HW n1 n2 br;obtain ⟨r0,r1,r2,r3,ea⟩:=rF HR HW f1 n3 n4;clear hT;obtain ⟨b,off,rfl,t0,t1,t2,t3,jW⟩:=yK de (by simp [aC]);have nb:=kK HE.out (by omega) (kn rfl);have Lh:=Ne.symm nb;clear kn;clear de)
  | (go_at_call 55;refine (bk w0 g HW.out.k p h _ _ H1.out).mono ?_;rintro e w2 ⟨rfl,h2,f2⟩;have F2:Hid (Fr w0.heap.size g.T w1 w2):=f2;clear f2;obtain ⟨u0,u1,u2,u3,Dl⟩:=OP jW HW F2 (by simp [aC]);obtain ⟨l1,l2,Af⟩:=Ae gI HW F2;obtain ⟨x0,x1,x2,x3,jG⟩:=ES ea HW F2))
 go_region_held3 (fun w'=>w'.cell? ⟨b,off+1,none⟩=some (int i64 (nth ag (c.top 2) 0).n)/\w'.cell? ⟨b,off+2+1,none⟩=some (int i64 (nth ag (c.top 2) 1).n))
  (go_keep)
  (first
   | (go_at_call 160;refine (vQ _ _ _).mono ?_;rintro e w3 ⟨rfl,lH⟩;rw [lH];clear lH w3))
 go_wp2
 (try simp only [Exit.inBlock,Exit.then])
 have R3:aP w2.drew (w.heap.size+1) ag:=⟨jG.out.blk⟩
 refine bodyPost_ret (results_cell_row rfl _ _ (w.heap.size+1) _ _ _ _ rfl (R3.set ⟨1,mf (nth ag (c.top 2) 0).n (nth ag (c.top 2) 1).n⟩).blk Tryz.underlying62 rfl bp) rfl ?_
 exact ⟨rfl,(h2.cf (Cf.drew (Cf.refl _ _ _))).cf (R3.cf HW.out.k bN _ _),⟨A,bd,((C1.out.fr HW.out.k F2.out).fr (B:=w0.heap.size) HW.out.k (Fr.drew (Fr.refl _ _ _))).box2 (HE.out.le (eW _ _)) bV n3 n4 _ _⟩,(((HF.out.fq.trans f1).trans F2.out.fq).trans (Fr.fq (Fr.drew (Fr.refl _ _ _)))).box2 bV bN _ _⟩
end
section
variable (w0:World) (g:Ad) (p:Nat) (h:Hp) (a:Ca) (c:aH) (ia ib ic ii:Int) (Q:Option Addr) (nl q:Nat) (w:World)
theorem E5 (hH:Hs w0 g w p h) (hC:Cs w0 w a c) (C:Cw w0 g h) (ho:h.over=false) (hs:c.stk.length<=1000) (pq:0<=ia/\ia<h.file.classes.length) :
  Calls Tryz.prog 116 #[.pointer (some ⟨p,0,none⟩),.pointer (some ⟨a.q,0,none⟩),.agg (cO 14 ia ib ic ii Q nl q)] w fun e w'=>e=.returned (iE h.newV)/\Hs w0 g w' p (h.new ia)/\Cs w0 w' a (c.cut 0)/\Fq w0.heap.size g.T a w w':=by
 have cI:=hH.base
 obtain ⟨A,cap,HE,cV,gJ,HF,HH,HC,HI,HR,HW,bN,bV,n1,n2,n3,n4⟩:=jF 14 ia ib ic ii Q nl q hH hC C
 have br:=ho
 clear hH hC C ho
 have hl:0<=c.stk.length:=Nat.zero_le _
 obtain ⟨V,hV⟩:∃V,h.newV=V:=⟨_,rfl⟩
 rw [hV]
 go_enter Tryz.func116,Tryz.ntmps116
 go_wp2_with (first
  | (go_at_call 56;refine (bP w0 g HW.out.k p h a c 0 _ A cap HH.out HC.out br hl hs).mono ?_;intro e w1 hT;obtain ⟨A1,cW,bd,rfl,de,j0,j1,j2,j4,gI,H1,iH,C1,f1,kn⟩:=ky hT HI HW n1 n2 br;obtain ⟨r0,r1,r2,r3,ea⟩:=rF HR HW f1 n3 n4;clear hT)
  | (go_at_call 161;refine (tH w0 g HW.out.k p h ia _ H1.out HW.out.cls HW.out.tree pq HW.out.le HW.out.fl).mono ?_;rintro e w2 ⟨he,h2,f2⟩;rw [hV] at he;subst he;have F2:Hid (Fr w0.heap.size g.T w1 w2):=f2;clear f2;obtain ⟨l1,l2,Af⟩:=Ae gI HW F2;obtain ⟨x0,x1,x2,x3,jG⟩:=ES ea HW F2))
 (try simp only [Exit.inBlock,Exit.then])
 refine bodyPost_ret (results_cell_row rfl _ _ (w.heap.size+1) _ _ _ _ rfl (jG.out.set V).blk Tryz.underlying62 rfl bp) rfl ?_
 exact ⟨rfl,h2.cf (jG.out.cf HW.out.k bN _ _),⟨A,bd,(C1.out.fr HW.out.k F2.out).box2 (HE.out.le (eW _ _)) bV n3 n4 _ _⟩,(((HF.out.fq.trans f1).trans F2.out.fq)).box2 bV bN _ _⟩
theorem E6 (hH:Hs w0 g w p h) (hC:Cs w0 w a c) (C:Cw w0 g h) (ho:h.over=false) (hs:c.stk.length<=1000) (hIn:cL w0 g.I h.input) (hu:0<=h.sh.used) :
  Calls Tryz.prog 116 #[.pointer (some ⟨p,0,none⟩),.pointer (some ⟨a.q,0,none⟩),.agg (cO 25 ia ib ic ii Q nl q)] w fun e w'=>e=.returned (iE h.inV)/\Hs w0 g w' p h.input'/\Cs w0 w' a (c.cut 0)/\Fq w0.heap.size g.T a w w':=by
 have cI:=hH.base
 obtain ⟨A,cap,HE,cV,gJ,HF,HH,HC,HI,HR,HW,bN,bV,n1,n2,n3,n4⟩:=jF 25 ia ib ic ii Q nl q hH hC C
 have br:=ho
 clear hH hC C ho
 have hl:0<=c.stk.length:=Nat.zero_le _
 have V1:Hid (cL w0 g.I h.input):=hIn
 clear hIn
 obtain ⟨V,hV⟩:∃V,h.inV=V:=⟨_,rfl⟩
 rw [hV]
 go_enter Tryz.func116,Tryz.ntmps116
 go_wp2_with (first
  | (go_at_call 56;refine (bP w0 g HW.out.k p h a c 0 _ A cap HH.out HC.out br hl hs).mono ?_;intro e w1 hT;obtain ⟨A1,cW,bd,rfl,de,j0,j1,j2,j4,gI,H1,iH,C1,f1,kn⟩:=ky hT HI HW n1 n2 br;obtain ⟨r0,r1,r2,r3,ea⟩:=rF HR HW f1 n3 n4;clear hT)
  | (go_at_call 164;refine (Ml w0 g HW.out.k p h _ H1.out V1.out hu).mono ?_;rintro e w2 ⟨he,h2,f2⟩;rw [hV] at he;subst he;have F2:Hid (Fr w0.heap.size g.T w1 w2):=f2;clear f2;obtain ⟨l1,l2,Af⟩:=Ae gI HW F2;obtain ⟨x0,x1,x2,x3,jG⟩:=ES ea HW F2))
 (try simp only [Exit.inBlock,Exit.then])
 refine bodyPost_ret (results_cell_row rfl _ _ (w.heap.size+1) _ _ _ _ rfl (jG.out.set V).blk Tryz.underlying62 rfl bp) rfl ?_
 exact ⟨rfl,h2.cf (jG.out.cf HW.out.k bN _ _),⟨A,bd,(C1.out.fr HW.out.k F2.out).box2 (HE.out.le (eW _ _)) bV n3 n4 _ _⟩,(((HF.out.fq.trans f1).trans F2.out.fq)).box2 bV bN _ _⟩
theorem E7 (hH:Hs w0 g w p h) (hC:Cs w0 w a c) (C:Cw w0 g h) (ho:h.over=false) (hs:c.stk.length<=1000) (hl:1<=c.stk.length) (h3:(nth ag (c.top 1) 0).kind=3->(nth ag (c.top 1) 0).n<h.objs.length) :
  Calls Tryz.prog 116 #[.pointer (some ⟨p,0,none⟩),.pointer (some ⟨a.q,0,none⟩),.agg (cO 15 ia ib ic ii Q nl q)] w fun e w'=>e=.returned (iE (h.getV (nth ag (c.top 1) 0) ia ib))/\Hs w0 g w' p (h.findH (nth ag (c.top 1) 0) ia)/\Cs w0 w' a (c.cut 1)/\Fq w0.heap.size g.T a w w':=by
 have cI:=hH.base
 obtain ⟨A,cap,HE,cV,gJ,HF,HH,HC,HI,HR,HW,bN,bV,n1,n2,n3,n4⟩:=jF 15 ia ib ic ii Q nl q hH hC C
 have br:=ho
 clear hH hC C ho
 have H3:Hid ((nth ag (c.top 1) 0).kind=3->(nth ag (c.top 1) 0).n<h.objs.length):=h3
 clear h3
 obtain ⟨V,hV⟩:∃V,h.getV (nth ag (c.top 1) 0) ia ib=V:=⟨_,rfl⟩
 rw [hV]
 go_enter Tryz.func116,Tryz.ntmps116
 go_wp2_with ((go_at_call 56;refine (bP w0 g HW.out.k p h a c 1 _ A cap HH.out HC.out br hl hs).mono ?_;intro e w1 hT;obtain ⟨A1,cW,bd,rfl,de,j0,j1,j2,j4,gI,H1,iH,C1,f1,kn⟩:=ky hT HI HW n1 n2 br;obtain ⟨r0,r1,r2,r3,ea⟩:=rF HR HW f1 n3 n4;clear hT;obtain ⟨b,off,rfl,t0,t1,jW⟩:=ko de (by simp [aC]);have nb:=kK HE.out (by omega) (kn rfl);have Lh:=Ne.symm nb;clear kn;clear de))
 go_region_held3 (fun w'=>w'.cell? ⟨b,off,none⟩=some (int i64 (nth ag (c.top 1) 0).kind)/\w'.cell? ⟨b,off+1,none⟩=some (int i64 (nth ag (c.top 1) 0).n)/\w'.cell? ⟨w.heap.size,1,none⟩=some (int i64 ia)/\w'.cell? ⟨w.heap.size,2,none⟩=some (int i64 ib))
  (go_keep)
  (first
   | (go_at_call 162;refine (I3 w0 g p h (nth ag (c.top 1) 0) ia ib _ (by first|exact H1.out.cf (Cf.drew (Cf.refl _ _ _))|exact H1.out) HW.out H3.out).mono ?_;rintro e w2 ⟨he,h2,f2⟩;rw [hV] at he;subst he;have F2:Hid (Fr w0.heap.size g.T w1 w2):=Fr.trans (Fr.drew (Fr.refl _ _ _)) f2;clear f2;obtain ⟨u0,u1,Dl⟩:=Lg jW HW F2 (by simp [aC]);obtain ⟨l1,l2,Af⟩:=Ae gI HW F2;obtain ⟨x0,x1,x2,x3,jG⟩:=ES ea HW F2))
 go_wp2
 (try simp only [Exit.inBlock,Exit.then])
 refine bodyPost_ret (results_cell_row rfl _ _ (w.heap.size+1) _ _ _ _ rfl (jG.out.set V).blk Tryz.underlying62 rfl bp) rfl ?_
 exact ⟨rfl,h2.cf (jG.out.cf HW.out.k bN _ _),⟨A,bd,(C1.out.fr HW.out.k F2.out).box2 (HE.out.le (eW _ _)) bV n3 n4 _ _⟩,(((HF.out.fq.trans f1).trans F2.out.fq)).box2 bV bN _ _⟩
theorem E8 (hH:Hs w0 g w p h) (hC:Cs w0 w a c) (C:Cw w0 g h) (ho:h.over=false) (hs:c.stk.length<=1000) (hl:1<=c.stk.length) (h3:(nth ag (c.top 1) 0).kind=3->(nth ag (c.top 1) 0).n<h.objs.length) :
  Calls Tryz.prog 116 #[.pointer (some ⟨p,0,none⟩),.pointer (some ⟨a.q,0,none⟩),.agg (cO 17 ia ib ic ii Q nl q)] w fun e w'=>e=.returned (iE (nth ag (c.top 1) 0))/\Hs w0 g w' p (h.cast (nth ag (c.top 1) 0) ia)/\Cs w0 w' a (c.cut 1)/\Fq w0.heap.size g.T a w w':=by
 have cI:=hH.base
 obtain ⟨A,cap,HE,cV,gJ,HF,HH,HC,HI,HR,HW,bN,bV,n1,n2,n3,n4⟩:=jF 17 ia ib ic ii Q nl q hH hC C
 have br:=ho
 clear hH hC C ho
 have H3:Hid ((nth ag (c.top 1) 0).kind=3->(nth ag (c.top 1) 0).n<h.objs.length):=h3
 clear h3
 go_enter Tryz.func116,Tryz.ntmps116
 go_wp2_with ((go_at_call 56;refine (bP w0 g HW.out.k p h a c 1 _ A cap HH.out HC.out br hl hs).mono ?_;intro e w1 hT;obtain ⟨A1,cW,bd,rfl,de,j0,j1,j2,j4,gI,H1,iH,C1,f1,kn⟩:=ky hT HI HW n1 n2 br;obtain ⟨r0,r1,r2,r3,ea⟩:=rF HR HW f1 n3 n4;clear hT;obtain ⟨b,off,rfl,t0,t1,jW⟩:=ko de (by simp [aC]);have nb:=kK HE.out (by omega) (kn rfl);have Lh:=Ne.symm nb;clear kn;clear de))
 go_region_held3 (fun w'=>w'.cell? ⟨b,off,none⟩=some (int i64 (nth ag (c.top 1) 0).kind)/\w'.cell? ⟨b,off+1,none⟩=some (int i64 (nth ag (c.top 1) 0).n)/\w'.cell? ⟨w.heap.size,1,none⟩=some (int i64 ia))
  (go_keep)
  (first
   | (go_at_call 135;refine (EK w0 g p h (nth ag (c.top 1) 0) ia _ (by first|exact H1.out.cf (Cf.drew (Cf.refl _ _ _))|exact H1.out) HW.out H3.out).mono ?_;rintro e w2 ⟨he,h2,f2⟩;subst he;have F2:Hid (Fr w0.heap.size g.T w1 w2):=Fr.trans (Fr.drew (Fr.refl _ _ _)) f2;clear f2;obtain ⟨u0,u1,Dl⟩:=Lg jW HW F2 (by simp [aC]);obtain ⟨l1,l2,Af⟩:=Ae gI HW F2;obtain ⟨x0,x1,x2,x3,jG⟩:=ES ea HW F2))
 go_wp2
 (try simp only [Exit.inBlock,Exit.then])
 refine bodyPost_ret (results_cell_row rfl _ _ (w.heap.size+1) _ _ _ _ rfl (jG.out.set (nth ag (c.top 1) 0)).blk Tryz.underlying62 rfl bp) rfl ?_
 exact ⟨rfl,h2.cf (jG.out.cf HW.out.k bN _ _),⟨A,bd,(C1.out.fr HW.out.k F2.out).box2 (HE.out.le (eW _ _)) bV n3 n4 _ _⟩,(((HF.out.fq.trans f1).trans F2.out.fq)).box2 bV bN _ _⟩
theorem E9 (hH:Hs w0 g w p h) (hC:Cs w0 w a c) (C:Cw w0 g h) (ho:h.over=false) (hs:c.stk.length<=1000) (hl:1<=c.stk.length) (h3:(nth ag (c.top 1) 0).kind=3->(nth ag (c.top 1) 0).n<h.objs.length) :
  Calls Tryz.prog 116 #[.pointer (some ⟨p,0,none⟩),.pointer (some ⟨a.q,0,none⟩),.agg (cO 18 ia ib ic ii Q nl q)] w fun e w'=>e=.returned (iE (h.isV (nth ag (c.top 1) 0) ia))/\Hs w0 g w' p (h.must (isRef (nth ag (c.top 1) 0)))/\Cs w0 w' a (c.cut 1)/\Fq w0.heap.size g.T a w w':=by
 have cI:=hH.base
 obtain ⟨A,cap,HE,cV,gJ,HF,HH,HC,HI,HR,HW,bN,bV,n1,n2,n3,n4⟩:=jF 18 ia ib ic ii Q nl q hH hC C
 have br:=ho
 clear hH hC C ho
 have H3:Hid ((nth ag (c.top 1) 0).kind=3->(nth ag (c.top 1) 0).n<h.objs.length):=h3
 clear h3
 obtain ⟨V,hV⟩:∃V,h.isV (nth ag (c.top 1) 0) ia=V:=⟨_,rfl⟩
 rw [hV]
 go_enter Tryz.func116,Tryz.ntmps116
 go_wp2_with ((go_at_call 56;refine (bP w0 g HW.out.k p h a c 1 _ A cap HH.out HC.out br hl hs).mono ?_;intro e w1 hT;obtain ⟨A1,cW,bd,rfl,de,j0,j1,j2,j4,gI,H1,iH,C1,f1,kn⟩:=ky hT HI HW n1 n2 br;obtain ⟨r0,r1,r2,r3,ea⟩:=rF HR HW f1 n3 n4;clear hT;obtain ⟨b,off,rfl,t0,t1,jW⟩:=ko de (by simp [aC]);have nb:=kK HE.out (by omega) (kn rfl);have Lh:=Ne.symm nb;clear kn;clear de))
 go_region_held3 (fun w'=>w'.cell? ⟨b,off,none⟩=some (int i64 (nth ag (c.top 1) 0).kind)/\w'.cell? ⟨b,off+1,none⟩=some (int i64 (nth ag (c.top 1) 0).n)/\w'.cell? ⟨w.heap.size,1,none⟩=some (int i64 ia))
  (go_keep)
  (first
   | (go_at_call 163;refine (Mw w0 g p h (nth ag (c.top 1) 0) ia _ (by first|exact H1.out.cf (Cf.drew (Cf.refl _ _ _))|exact H1.out) HW.out H3.out).mono ?_;rintro e w2 ⟨he,h2,f2⟩;rw [hV] at he;subst he;have F2:Hid (Fr w0.heap.size g.T w1 w2):=Fr.trans (Fr.drew (Fr.refl _ _ _)) f2;clear f2;obtain ⟨u0,u1,Dl⟩:=Lg jW HW F2 (by simp [aC]);obtain ⟨l1,l2,Af⟩:=Ae gI HW F2;obtain ⟨x0,x1,x2,x3,jG⟩:=ES ea HW F2))
 go_wp2
 (try simp only [Exit.inBlock,Exit.then])
 refine bodyPost_ret (results_cell_row rfl _ _ (w.heap.size+1) _ _ _ _ rfl (jG.out.set V).blk Tryz.underlying62 rfl bp) rfl ?_
 exact ⟨rfl,h2.cf (jG.out.cf HW.out.k bN _ _),⟨A,bd,(C1.out.fr HW.out.k F2.out).box2 (HE.out.le (eW _ _)) bV n3 n4 _ _⟩,(((HF.out.fq.trans f1).trans F2.out.fq)).box2 bV bN _ _⟩
end
def iw (op:Int):Prop:=op=1∨op=2∨op=3∨op=6∨op=7∨op=8∨op=9∨op=10∨op=14∨op=15∨op=17∨op=18∨op=25
theorem Cg (w0:World) (g:Ad) (p:Nat) (h:Hp) (a:Ca) (c:aH) (i:In) (Q:Option Addr) (nl q:Nat) (w:World) (hH:Hs w0 g w p h) (hC:Cs w0 w a c) (C:Cw w0 g h) (ho:h.over=false) (hs:c.stk.length<=1000) (hop:iw i.op) (DQ:i.op=14->0<=i.a/\i.a<h.file.classes.length) (hst:∀v∈c.stk,iO h v) (hIn:cL w0 g.I h.input) (hu:0<=h.sh.used) :
  Calls Tryz.prog 116 #[.pointer (some ⟨p,0,none⟩),.pointer (some ⟨a.q,0,none⟩),.agg (cO i.op i.a i.b i.c i.n Q nl q)] w fun e w' =>
   e=.returned (iE (aG (h.must (c.has (aJ i.op))) (nth ag (c.top (aJ i.op)) 0) (nth ag (c.top (aJ i.op)) 1) i))/\Hs w0 g w' p (givesH (h.must (c.has (aJ i.op))) (nth ag (c.top (aJ i.op)) 0) (nth ag (c.top (aJ i.op)) 1) i)
   /\ Cs w0 w' a (c.cut (aJ i.op))/\Fq w0.heap.size g.T a w w':=by
 obtain ⟨op,ia,ib,ic,ii,args⟩:=i
 dsimp only at *
 unfold iw at hop
 rcases hop with rfl|rfl|rfl|rfl|rfl|rfl|rfl|rfl|rfl|rfl|rfl|rfl|rfl
 ·have em:aJ 1=0:=by decide
  rw [em]
  rw [cG (Nat.zero_le _)]
  have e1:∀x y,givesH h x y ⟨1,ia,ib,ic,ii,args⟩=h:=fun x y=>by simp [givesH,ho]
  have e2:∀x y,aG h x y ⟨1,ia,ib,ic,ii,args⟩=⟨1,ii⟩:=fun x y=>by simp [aG,ho]
  rw [e1,e2]
  exact Jj w0 g p h a c ia ib ic ii Q nl q w hH hC C ho hs
 ·have em:aJ 2=0:=by decide
  rw [em]
  rw [cG (Nat.zero_le _)]
  have e1:∀x y,givesH h x y ⟨2,ia,ib,ic,ii,args⟩=h:=fun x y=>by simp [givesH,ho]
  have e2:∀x y,aG h x y ⟨2,ia,ib,ic,ii,args⟩=⟨2,ii⟩:=fun x y=>by simp [aG,ho]
  rw [e1,e2]
  exact Jk w0 g p h a c ia ib ic ii Q nl q w hH hC C ho hs
 ·have em:aJ 3=0:=by decide
  rw [em]
  rw [cG (Nat.zero_le _)]
  have e1:∀x y,givesH h x y ⟨3,ia,ib,ic,ii,args⟩=h:=fun x y=>by simp [givesH,ho]
  have e2:∀x y,aG h x y ⟨3,ia,ib,ic,ii,args⟩=⟨3,-1⟩:=fun x y=>by simp [aG,ho]
  rw [e1,e2]
  exact Jl w0 g p h a c ia ib ic ii Q nl q w hH hC C ho hs
 ·have em:aJ 6=2:=by decide
  rw [em]
  by_cases hl:2<=c.stk.length
  ·rw [cG hl]
   have e1:givesH h (nth ag (c.top 2) 0) (nth ag (c.top 2) 1) ⟨6,ia,ib,ic,ii,args⟩=h.reckH (nth ag (c.top 2) 0) (nth ag (c.top 2) 1) 1 ia:=by simp [givesH,ho]
   have e2:aG h (nth ag (c.top 2) 0) (nth ag (c.top 2) 1) ⟨6,ia,ib,ic,ii,args⟩=h.reckV (nth ag (c.top 2) 0) (nth ag (c.top 2) 1) 1 ia:=by simp [aG,ho]
   rw [e1,e2]
   exact Jm w0 g p h a c ia ib ic ii Q nl q w hH hC C ho hs hl (hst _ (gV hl (by omega:0<2))).num (hst _ (gV hl (by omega:1<2))).num
  ·rw [cR hl,fJ hl]
   have e1:∀x y,givesH (h.fin 6) x y ⟨6,ia,ib,ic,ii,args⟩=h.fin 6:=fun x y=>by simp [givesH,cC ho]
   have e2:∀x y,aG (h.fin 6) x y ⟨6,ia,ib,ic,ii,args⟩=ag:=fun x y=>by simp [aG,cC ho]
   rw [e1,e2]
   exact B6 w0 g p h a c ia ib ic ii Q nl q w hH hC C ho hs (by omega)
 ·have em:aJ 7=2:=by decide
  rw [em]
  by_cases hl:2<=c.stk.length
  ·rw [cG hl]
   have e1:givesH h (nth ag (c.top 2) 0) (nth ag (c.top 2) 1) ⟨7,ia,ib,ic,ii,args⟩=h.reckH (nth ag (c.top 2) 0) (nth ag (c.top 2) 1) 2 ia:=by simp [givesH,ho]
   have e2:aG h (nth ag (c.top 2) 0) (nth ag (c.top 2) 1) ⟨7,ia,ib,ic,ii,args⟩=h.reckV (nth ag (c.top 2) 0) (nth ag (c.top 2) 1) 2 ia:=by simp [aG,ho]
   rw [e1,e2]
   exact Jn w0 g p h a c ia ib ic ii Q nl q w hH hC C ho hs hl (hst _ (gV hl (by omega:0<2))).num (hst _ (gV hl (by omega:1<2))).num
  ·rw [cR hl,fJ hl]
   have e1:∀x y,givesH (h.fin 6) x y ⟨7,ia,ib,ic,ii,args⟩=h.fin 6:=fun x y=>by simp [givesH,cC ho]
   have e2:∀x y,aG (h.fin 6) x y ⟨7,ia,ib,ic,ii,args⟩=ag:=fun x y=>by simp [aG,cC ho]
   rw [e1,e2]
   exact B8 w0 g p h a c ia ib ic ii Q nl q w hH hC C ho hs (by omega)
 ·have em:aJ 8=1:=by decide
  rw [em]
  by_cases hl:1<=c.stk.length
  ·rw [cG hl]
   have e1:givesH h (nth ag (c.top 1) 0) (nth ag (c.top 1) 1) ⟨8,ia,ib,ic,ii,args⟩=h.must (decide ((nth ag (c.top 1) 0).kind=1)):=by simp [givesH,ho]
   have e2:aG h (nth ag (c.top 1) 0) (nth ag (c.top 1) 1) ⟨8,ia,ib,ic,ii,args⟩=⟨2,(nth ag (c.top 1) 0).n⟩:=by simp [aG,ho]
   rw [e1,e2]
   exact Jo w0 g p h a c ia ib ic ii Q nl q w hH hC C ho hs hl
  ·rw [cR hl,fJ hl]
   have e1:∀x y,givesH (h.fin 6) x y ⟨8,ia,ib,ic,ii,args⟩=h.fin 6:=fun x y=>by simp [givesH,cC ho]
   have e2:∀x y,aG (h.fin 6) x y ⟨8,ia,ib,ic,ii,args⟩=ag:=fun x y=>by simp [aG,cC ho]
   rw [e1,e2]
   exact Cb w0 g p h a c ia ib ic ii Q nl q w hH hC C ho hs (by omega)
 ·have em:aJ 9=1:=by decide
  rw [em]
  by_cases hl:1<=c.stk.length
  ·rw [cG hl]
   have e1:givesH h (nth ag (c.top 1) 0) (nth ag (c.top 1) 1) ⟨9,ia,ib,ic,ii,args⟩=h.must (decide ((nth ag (c.top 1) 0).kind=2)):=by simp [givesH,ho]
   have e2:aG h (nth ag (c.top 1) 0) (nth ag (c.top 1) 1) ⟨9,ia,ib,ic,ii,args⟩=⟨1,wrap32 (nth ag (c.top 1) 0).n⟩:=by simp [aG,ho]
   rw [e1,e2]
   exact Jp w0 g p h a c ia ib ic ii Q nl q w hH hC C ho hs hl
  ·rw [cR hl,fJ hl]
   have e1:∀x y,givesH (h.fin 6) x y ⟨9,ia,ib,ic,ii,args⟩=h.fin 6:=fun x y=>by simp [givesH,cC ho]
   have e2:∀x y,aG (h.fin 6) x y ⟨9,ia,ib,ic,ii,args⟩=ag:=fun x y=>by simp [aG,cC ho]
   rw [e1,e2]
   exact Cc w0 g p h a c ia ib ic ii Q nl q w hH hC C ho hs (by omega)
 ·have em:aJ 10=2:=by decide
  rw [em]
  by_cases hl:2<=c.stk.length
  ·rw [cG hl]
   have e1:givesH h (nth ag (c.top 2) 0) (nth ag (c.top 2) 1) ⟨10,ia,ib,ic,ii,args⟩=h.must (cv (nth ag (c.top 2) 0) (nth ag (c.top 2) 1) 2):=by simp [givesH,ho]
   have e2:aG h (nth ag (c.top 2) 0) (nth ag (c.top 2) 1) ⟨10,ia,ib,ic,ii,args⟩=⟨1,mf (nth ag (c.top 2) 0).n (nth ag (c.top 2) 1).n⟩:=by simp [aG,ho]
   rw [e1,e2]
   by_cases hk:(nth ag (c.top 2) 0).kind=2
   ·exact Cd w0 g p h a c ia ib ic ii Q nl q w hH hC C ho hs hl hk
   ·exact Ce w0 g p h a c ia ib ic ii Q nl q w hH hC C ho hs hl hk
  ·rw [cR hl,fJ hl]
   have e1:∀x y,givesH (h.fin 6) x y ⟨10,ia,ib,ic,ii,args⟩=h.fin 6:=fun x y=>by simp [givesH,cC ho]
   have e2:∀x y,aG (h.fin 6) x y ⟨10,ia,ib,ic,ii,args⟩=ag:=fun x y=>by simp [aG,cC ho]
   rw [e1,e2]
   exact yL w0 g p h a c ia ib ic ii Q nl q w hH hC C ho hs (by omega)
 ·have em:aJ 14=0:=by decide
  rw [em]
  rw [cG (Nat.zero_le _)]
  have e1:∀x y,givesH h x y ⟨14,ia,ib,ic,ii,args⟩=h.new ia:=fun x y=>by simp [givesH,ho]
  have e2:∀x y,aG h x y ⟨14,ia,ib,ic,ii,args⟩=h.newV:=fun x y=>by simp [aG,ho]
  rw [e1,e2]
  exact E5 w0 g p h a c ia ib ic ii Q nl q w hH hC C ho hs (DQ rfl)
 ·have em:aJ 15=1:=by decide
  rw [em]
  by_cases hl:1<=c.stk.length
  ·rw [cG hl]
   have e1:givesH h (nth ag (c.top 1) 0) (nth ag (c.top 1) 1) ⟨15,ia,ib,ic,ii,args⟩=h.findH (nth ag (c.top 1) 0) ia:=by simp [givesH,ho]
   have e2:aG h (nth ag (c.top 1) 0) (nth ag (c.top 1) 1) ⟨15,ia,ib,ic,ii,args⟩=h.getV (nth ag (c.top 1) 0) ia ib:=by simp [aG,ho]
   rw [e1,e2]
   exact E7 w0 g p h a c ia ib ic ii Q nl q w hH hC C ho hs hl (fun e=>((hst _ (gV hl (by omega:0<1))).ref e).2)
  ·rw [cR hl,fJ hl]
   have e1:∀x y,givesH (h.fin 6) x y ⟨15,ia,ib,ic,ii,args⟩=h.fin 6:=fun x y=>by simp [givesH,cC ho]
   have e2:∀x y,aG (h.fin 6) x y ⟨15,ia,ib,ic,ii,args⟩=ag:=fun x y=>by simp [aG,cC ho]
   rw [e1,e2]
   exact yM w0 g p h a c ia ib ic ii Q nl q w hH hC C ho hs (by omega)
 ·have em:aJ 17=1:=by decide
  rw [em]
  by_cases hl:1<=c.stk.length
  ·rw [cG hl]
   have e1:givesH h (nth ag (c.top 1) 0) (nth ag (c.top 1) 1) ⟨17,ia,ib,ic,ii,args⟩=h.cast (nth ag (c.top 1) 0) ia:=by simp [givesH,ho]
   have e2:aG h (nth ag (c.top 1) 0) (nth ag (c.top 1) 1) ⟨17,ia,ib,ic,ii,args⟩=(nth ag (c.top 1) 0):=by simp [aG,ho]
   rw [e1,e2]
   exact E8 w0 g p h a c ia ib ic ii Q nl q w hH hC C ho hs hl (fun e=>((hst _ (gV hl (by omega:0<1))).ref e).2)
  ·rw [cR hl,fJ hl]
   have e1:∀x y,givesH (h.fin 6) x y ⟨17,ia,ib,ic,ii,args⟩=h.fin 6:=fun x y=>by simp [givesH,cC ho]
   have e2:∀x y,aG (h.fin 6) x y ⟨17,ia,ib,ic,ii,args⟩=ag:=fun x y=>by simp [aG,cC ho]
   rw [e1,e2]
   exact yN w0 g p h a c ia ib ic ii Q nl q w hH hC C ho hs (by omega)
 ·have em:aJ 18=1:=by decide
  rw [em]
  by_cases hl:1<=c.stk.length
  ·rw [cG hl]
   have e1:givesH h (nth ag (c.top 1) 0) (nth ag (c.top 1) 1) ⟨18,ia,ib,ic,ii,args⟩=h.must (isRef (nth ag (c.top 1) 0)):=by simp [givesH,ho]
   have e2:aG h (nth ag (c.top 1) 0) (nth ag (c.top 1) 1) ⟨18,ia,ib,ic,ii,args⟩=h.isV (nth ag (c.top 1) 0) ia:=by simp [aG,ho]
   rw [e1,e2]
   exact E9 w0 g p h a c ia ib ic ii Q nl q w hH hC C ho hs hl (fun e=>((hst _ (gV hl (by omega:0<1))).ref e).2)
  ·rw [cR hl,fJ hl]
   have e1:∀x y,givesH (h.fin 6) x y ⟨18,ia,ib,ic,ii,args⟩=h.fin 6:=fun x y=>by simp [givesH,cC ho]
   have e2:∀x y,aG (h.fin 6) x y ⟨18,ia,ib,ic,ii,args⟩=ag:=fun x y=>by simp [aG,cC ho]
   rw [e1,e2]
   exact yO w0 g p h a c ia ib ic ii Q nl q w hH hC C ho hs (by omega)
 ·have em:aJ 25=0:=by decide
  rw [em]
  rw [cG (Nat.zero_le _)]
  have e1:∀x y,givesH h x y ⟨25,ia,ib,ic,ii,args⟩=h.input':=fun x y=>by simp [givesH,ho]
  have e2:∀x y,aG h x y ⟨25,ia,ib,ic,ii,args⟩=h.inV:=fun x y=>by simp [aG,ho]
  rw [e1,e2]
  exact E6 w0 g p h a c ia ib ic ii Q nl q w hH hC C ho hs hIn hu
end Go.Proofs.YtgiiapenmjollaaGreat
