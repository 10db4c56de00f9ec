import Derived.Test.YtimjmdfokicbkaaGreatSral
namespace Go.Proofs.YtimjmdfokicbkaaGreat
set_option linter.unusedVariables false
set_option linter.unusedSimpArgs false
set_option maxHeartbeats 40000000
set_option maxRecDepth 100000
open Go.RowKit
open Go.Value (int)
open Go.IntKind (i64)
variable {m:Me} {b c k p:Nat} {C K P:Option Addr} {w:World}
section
variable (w0:World) (g:Ad) (p:Nat) (h:Hp) (a:Ca) (c:aH) (ia ib ic ii:Int) (Q:Option Addr) (nl q:Nat) (w:World)
theorem Fa (hH:Hs w0 g w p h) (hC:Cs w0 w a c) (C:Cw w0 g h) (ho:h.over=false) (hs:c.stk.length≤1000) (pq:0≤ia/\ia<h.file.classes.length) :
  Calls Tryz.prog 118 #[.pointer (some ⟨p,0,none⟩),.pointer (some ⟨a.q,0,none⟩),.agg (cO 14 ia ib ic ii Q nl q)] w fun e w'=>e=.returned (iA h.newV)/\Hs w0 g w' p (h.new ia)/\Cs w0 w' a (c.cut 0)/\Fq w0.heap.size g.T a w w':=by
 have cH:=hH.base
 obtain ⟨A,cap,HE,cU,gJ,HF,HH,HC,HI,HR,HW,bN,bU,n1,n2,n3,n4⟩:=jE 14 ia ib ic ii Q nl q hH hC C
 have bq:=ho
 clear hH hC C ho
 have hl:0≤c.stk.length:=Nat.zero_le _
 obtain ⟨V,hV⟩:∃V,h.newV=V:=⟨_,rfl⟩
 rw [hV]
 go_enter Tryz.func118,Tryz.ntmps118
 go_wp2_with (first
  | (go_at_call 57;refine (bO w0 g HW.out.k p h a c 0 _ A cap HH.out HC.out bq hl hs).mono ?_;intro e w1 hT;obtain ⟨A1,cV,bc,rfl,cu,j0,j1,j2,j4,gI,H1,iC,C1,f1,kj⟩:=kr hT HI HW n1 n2 bq;obtain ⟨r0,r1,r2,r3,ea⟩:=rC HR HW f1 n3 n4;clear hT)
  | (go_at_call 171;refine (tF w0 g HW.out.k p h ia _ H1.out HW.out.cls HW.out.tree pq HW.out.le HW.out.fl).mono ?_;rintro e w2 ⟨he,h2,f2⟩;rw [hV] at he;subst he;have F2:Hid (Fr w0.heap.size g.T w1 w2):=f2;clear f2;obtain ⟨l1,l2,Ag⟩:=Af gI HW F2;obtain ⟨x0,x1,x2,x3,jF⟩:=EY ea HW F2))
 (try simp only [Exit.inBlock,Exit.then])
 refine bodyPost_ret (results_cell_row rfl _ _ (w.heap.size+1) _ _ _ _ rfl (jF.out.set V).blk Tryz.underlying62 rfl bk) rfl ?_
 exact ⟨rfl,h2.cf (jF.out.cf HW.out.k bN _ _),⟨A,bc,(C1.out.fr HW.out.k F2.out).box2 (HE.out.le (eU _ _)) bU n3 n4 _ _⟩,(((HF.out.fq.trans f1).trans F2.out.fq)).box2 bU bN _ _⟩
theorem Fb (hH:Hs w0 g w p h) (hC:Cs w0 w a c) (C:Cw w0 g h) (ho:h.over=false) (hs:c.stk.length≤1000) (hIn:cM w0 g.I h.input) (hu:0≤h.sh.used) :
  Calls Tryz.prog 118 #[.pointer (some ⟨p,0,none⟩),.pointer (some ⟨a.q,0,none⟩),.agg (cO 25 ia ib ic ii Q nl q)] w fun e w'=>e=.returned (iA h.inV)/\Hs w0 g w' p h.input'/\Cs w0 w' a (c.cut 0)/\Fq w0.heap.size g.T a w w':=by
 have cH:=hH.base
 obtain ⟨A,cap,HE,cU,gJ,HF,HH,HC,HI,HR,HW,bN,bU,n1,n2,n3,n4⟩:=jE 25 ia ib ic ii Q nl q hH hC C
 have bq:=ho
 clear hH hC C ho
 have hl:0≤c.stk.length:=Nat.zero_le _
 have WI:Hid (cM w0 g.I h.input):=hIn
 clear hIn
 obtain ⟨V,hV⟩:∃V,h.inV=V:=⟨_,rfl⟩
 rw [hV]
 go_enter Tryz.func118,Tryz.ntmps118
 go_wp2_with (first
  | (go_at_call 57;refine (bO w0 g HW.out.k p h a c 0 _ A cap HH.out HC.out bq hl hs).mono ?_;intro e w1 hT;obtain ⟨A1,cV,bc,rfl,cu,j0,j1,j2,j4,gI,H1,iC,C1,f1,kj⟩:=kr hT HI HW n1 n2 bq;obtain ⟨r0,r1,r2,r3,ea⟩:=rC HR HW f1 n3 n4;clear hT)
  | (go_at_call 174;refine (Mz w0 g HW.out.k p h _ H1.out WI.out hu).mono ?_;rintro e w2 ⟨he,h2,f2⟩;rw [hV] at he;subst he;have F2:Hid (Fr w0.heap.size g.T w1 w2):=f2;clear f2;obtain ⟨l1,l2,Ag⟩:=Af gI HW F2;obtain ⟨x0,x1,x2,x3,jF⟩:=EY ea HW F2))
 (try simp only [Exit.inBlock,Exit.then])
 refine bodyPost_ret (results_cell_row rfl _ _ (w.heap.size+1) _ _ _ _ rfl (jF.out.set V).blk Tryz.underlying62 rfl bk) rfl ?_
 exact ⟨rfl,h2.cf (jF.out.cf HW.out.k bN _ _),⟨A,bc,(C1.out.fr HW.out.k F2.out).box2 (HE.out.le (eU _ _)) bU n3 n4 _ _⟩,(((HF.out.fq.trans f1).trans F2.out.fq)).box2 bU bN _ _⟩
theorem Fe (hH:Hs w0 g w p h) (hC:Cs w0 w a c) (C:Cw w0 g h) (ho:h.over=false) (hs:c.stk.length≤1000) (hl:1≤c.stk.length) (h3:(nth ag (c.top 1) 0).kind=3->(nth ag (c.top 1) 0).n<h.objs.length) :
  Calls Tryz.prog 118 #[.pointer (some ⟨p,0,none⟩),.pointer (some ⟨a.q,0,none⟩),.agg (cO 15 ia ib ic ii Q nl q)] w fun e w'=>e=.returned (iA (h.getV (nth ag (c.top 1) 0) ia ib))/\Hs w0 g w' p (h.findH (nth ag (c.top 1) 0) ia)/\Cs w0 w' a (c.cut 1)/\Fq w0.heap.size g.T a w w':=by
 have cH:=hH.base
 obtain ⟨A,cap,HE,cU,gJ,HF,HH,HC,HI,HR,HW,bN,bU,n1,n2,n3,n4⟩:=jE 15 ia ib ic ii Q nl q hH hC C
 have bq:=ho
 clear hH hC C ho
 have H3:Hid ((nth ag (c.top 1) 0).kind=3->(nth ag (c.top 1) 0).n<h.objs.length):=h3
 clear h3
 obtain ⟨V,hV⟩:∃V,h.getV (nth ag (c.top 1) 0) ia ib=V:=⟨_,rfl⟩
 rw [hV]
 go_enter Tryz.func118,Tryz.ntmps118
 go_wp2_with ((go_at_call 57;refine (bO w0 g HW.out.k p h a c 1 _ A cap HH.out HC.out bq hl hs).mono ?_;intro e w1 hT;obtain ⟨A1,cV,bc,rfl,cu,j0,j1,j2,j4,gI,H1,iC,C1,f1,kj⟩:=kr hT HI HW n1 n2 bq;obtain ⟨r0,r1,r2,r3,ea⟩:=rC HR HW f1 n3 n4;clear hT;obtain ⟨b,off,rfl,t0,t1,jS⟩:=kl cu (by simp [aC]);have nb:=kI HE.out (by omega) (kj rfl);have Lq:=Ne.symm nb;clear kj;clear cu))
 go_region_held3 (fun w'=>w'.cell? ⟨b,off,none⟩=some (int i64 (nth ag (c.top 1) 0).kind)/\w'.cell? ⟨b,off+1,none⟩=some (int i64 (nth ag (c.top 1) 0).n)/\w'.cell? ⟨w.heap.size,1,none⟩=some (int i64 ia)/\w'.cell? ⟨w.heap.size,2,none⟩=some (int i64 ib))
  (go_keep)
  (first
   | (go_at_call 172;refine (I9 w0 g p h (nth ag (c.top 1) 0) ia ib _ (by first|exact H1.out.cf (Cf.drew (Cf.refl _ _ _))|exact H1.out) HW.out H3.out).mono ?_;rintro e w2 ⟨he,h2,f2⟩;rw [hV] at he;subst he;have F2:Hid (Fr w0.heap.size g.T w1 w2):=Fr.trans (Fr.drew (Fr.refl _ _ _)) f2;clear f2;obtain ⟨u0,u1,Dm⟩:=Lp jS HW F2 (by simp [aC]);obtain ⟨l1,l2,Ag⟩:=Af gI HW F2;obtain ⟨x0,x1,x2,x3,jF⟩:=EY ea HW F2))
 go_wp2
 (try simp only [Exit.inBlock,Exit.then])
 refine bodyPost_ret (results_cell_row rfl _ _ (w.heap.size+1) _ _ _ _ rfl (jF.out.set V).blk Tryz.underlying62 rfl bk) rfl ?_
 exact ⟨rfl,h2.cf (jF.out.cf HW.out.k bN _ _),⟨A,bc,(C1.out.fr HW.out.k F2.out).box2 (HE.out.le (eU _ _)) bU n3 n4 _ _⟩,(((HF.out.fq.trans f1).trans F2.out.fq)).box2 bU bN _ _⟩
theorem Ff (hH:Hs w0 g w p h) (hC:Cs w0 w a c) (C:Cw w0 g h) (ho:h.over=false) (hs:c.stk.length≤1000) (hl:1≤c.stk.length) (h3:(nth ag (c.top 1) 0).kind=3->(nth ag (c.top 1) 0).n<h.objs.length) :
  Calls Tryz.prog 118 #[.pointer (some ⟨p,0,none⟩),.pointer (some ⟨a.q,0,none⟩),.agg (cO 17 ia ib ic ii Q nl q)] w fun e w'=>e=.returned (iA (nth ag (c.top 1) 0))/\Hs w0 g w' p (h.cast (nth ag (c.top 1) 0) ia)/\Cs w0 w' a (c.cut 1)/\Fq w0.heap.size g.T a w w':=by
 have cH:=hH.base
 obtain ⟨A,cap,HE,cU,gJ,HF,HH,HC,HI,HR,HW,bN,bU,n1,n2,n3,n4⟩:=jE 17 ia ib ic ii Q nl q hH hC C
 have bq:=ho
 clear hH hC C ho
 have H3:Hid ((nth ag (c.top 1) 0).kind=3->(nth ag (c.top 1) 0).n<h.objs.length):=h3
 clear h3
 go_enter Tryz.func118,Tryz.ntmps118
 go_wp2_with ((go_at_call 57;refine (bO w0 g HW.out.k p h a c 1 _ A cap HH.out HC.out bq hl hs).mono ?_;intro e w1 hT;obtain ⟨A1,cV,bc,rfl,cu,j0,j1,j2,j4,gI,H1,iC,C1,f1,kj⟩:=kr hT HI HW n1 n2 bq;obtain ⟨r0,r1,r2,r3,ea⟩:=rC HR HW f1 n3 n4;clear hT;obtain ⟨b,off,rfl,t0,t1,jS⟩:=kl cu (by simp [aC]);have nb:=kI HE.out (by omega) (kj rfl);have Lq:=Ne.symm nb;clear kj;clear cu))
 go_region_held3 (fun w'=>w'.cell? ⟨b,off,none⟩=some (int i64 (nth ag (c.top 1) 0).kind)/\w'.cell? ⟨b,off+1,none⟩=some (int i64 (nth ag (c.top 1) 0).n)/\w'.cell? ⟨w.heap.size,1,none⟩=some (int i64 ia))
  (go_keep)
  (first
   | (go_at_call 145;refine (EP w0 g p h (nth ag (c.top 1) 0) ia _ (by first|exact H1.out.cf (Cf.drew (Cf.refl _ _ _))|exact H1.out) HW.out H3.out).mono ?_;rintro e w2 ⟨he,h2,f2⟩;subst he;have F2:Hid (Fr w0.heap.size g.T w1 w2):=Fr.trans (Fr.drew (Fr.refl _ _ _)) f2;clear f2;obtain ⟨u0,u1,Dm⟩:=Lp jS HW F2 (by simp [aC]);obtain ⟨l1,l2,Ag⟩:=Af gI HW F2;obtain ⟨x0,x1,x2,x3,jF⟩:=EY ea HW F2))
 go_wp2
 (try simp only [Exit.inBlock,Exit.then])
 refine bodyPost_ret (results_cell_row rfl _ _ (w.heap.size+1) _ _ _ _ rfl (jF.out.set (nth ag (c.top 1) 0)).blk Tryz.underlying62 rfl bk) rfl ?_
 exact ⟨rfl,h2.cf (jF.out.cf HW.out.k bN _ _),⟨A,bc,(C1.out.fr HW.out.k F2.out).box2 (HE.out.le (eU _ _)) bU n3 n4 _ _⟩,(((HF.out.fq.trans f1).trans F2.out.fq)).box2 bU bN _ _⟩
theorem Fg (hH:Hs w0 g w p h) (hC:Cs w0 w a c) (C:Cw w0 g h) (ho:h.over=false) (hs:c.stk.length≤1000) (hl:1≤c.stk.length) (h3:(nth ag (c.top 1) 0).kind=3->(nth ag (c.top 1) 0).n<h.objs.length) :
  Calls Tryz.prog 118 #[.pointer (some ⟨p,0,none⟩),.pointer (some ⟨a.q,0,none⟩),.agg (cO 18 ia ib ic ii Q nl q)] w fun e w'=>e=.returned (iA (h.isV (nth ag (c.top 1) 0) ia))/\Hs w0 g w' p (h.must (isRef (nth ag (c.top 1) 0)))/\Cs w0 w' a (c.cut 1)/\Fq w0.heap.size g.T a w w':=by
 have cH:=hH.base
 obtain ⟨A,cap,HE,cU,gJ,HF,HH,HC,HI,HR,HW,bN,bU,n1,n2,n3,n4⟩:=jE 18 ia ib ic ii Q nl q hH hC C
 have bq:=ho
 clear hH hC C ho
 have H3:Hid ((nth ag (c.top 1) 0).kind=3->(nth ag (c.top 1) 0).n<h.objs.length):=h3
 clear h3
 obtain ⟨V,hV⟩:∃V,h.isV (nth ag (c.top 1) 0) ia=V:=⟨_,rfl⟩
 rw [hV]
 go_enter Tryz.func118,Tryz.ntmps118
 go_wp2_with ((go_at_call 57;refine (bO w0 g HW.out.k p h a c 1 _ A cap HH.out HC.out bq hl hs).mono ?_;intro e w1 hT;obtain ⟨A1,cV,bc,rfl,cu,j0,j1,j2,j4,gI,H1,iC,C1,f1,kj⟩:=kr hT HI HW n1 n2 bq;obtain ⟨r0,r1,r2,r3,ea⟩:=rC HR HW f1 n3 n4;clear hT;obtain ⟨b,off,rfl,t0,t1,jS⟩:=kl cu (by simp [aC]);have nb:=kI HE.out (by omega) (kj rfl);have Lq:=Ne.symm nb;clear kj;clear cu))
 go_region_held3 (fun w'=>w'.cell? ⟨b,off,none⟩=some (int i64 (nth ag (c.top 1) 0).kind)/\w'.cell? ⟨b,off+1,none⟩=some (int i64 (nth ag (c.top 1) 0).n)/\w'.cell? ⟨w.heap.size,1,none⟩=some (int i64 ia))
  (go_keep)
  (first
   | (go_at_call 173;refine (MH w0 g p h (nth ag (c.top 1) 0) ia _ (by first|exact H1.out.cf (Cf.drew (Cf.refl _ _ _))|exact H1.out) HW.out H3.out).mono ?_;rintro e w2 ⟨he,h2,f2⟩;rw [hV] at he;subst he;have F2:Hid (Fr w0.heap.size g.T w1 w2):=Fr.trans (Fr.drew (Fr.refl _ _ _)) f2;clear f2;obtain ⟨u0,u1,Dm⟩:=Lp jS HW F2 (by simp [aC]);obtain ⟨l1,l2,Ag⟩:=Af gI HW F2;obtain ⟨x0,x1,x2,x3,jF⟩:=EY ea HW F2))
 go_wp2
 (try simp only [Exit.inBlock,Exit.then])
 refine bodyPost_ret (results_cell_row rfl _ _ (w.heap.size+1) _ _ _ _ rfl (jF.out.set V).blk Tryz.underlying62 rfl bk) rfl ?_
 exact ⟨rfl,h2.cf (jF.out.cf HW.out.k bN _ _),⟨A,bc,(C1.out.fr HW.out.k F2.out).box2 (HE.out.le (eU _ _)) bU n3 n4 _ _⟩,(((HF.out.fq.trans f1).trans F2.out.fq)).box2 bU bN _ _⟩
end
def ij (op:Int):Prop:=op=1∨op=2∨op=3∨op=6∨op=7∨op=8∨op=9∨op=10∨op=14∨op=15∨op=17∨op=18∨op=25
theorem Ch (w0:World) (g:Ad) (p:Nat) (h:Hp) (a:Ca) (c:aH) (i:In) (Q:Option Addr) (nl q:Nat) (w:World) (hH:Hs w0 g w p h) (hC:Cs w0 w a c) (C:Cw w0 g h) (ho:h.over=false) (hs:c.stk.length≤1000) (hop:ij i.op) (DU:i.op=14->0≤i.a/\i.a<h.file.classes.length) (hst:∀v∈c.stk,iJ h v) (hIn:cM w0 g.I h.input) (hu:0≤h.sh.used) :
  Calls Tryz.prog 118 #[.pointer (some ⟨p,0,none⟩),.pointer (some ⟨a.q,0,none⟩),.agg (cO i.op i.a i.b i.c i.n Q nl q)] w fun e w' =>
   e=.returned (iA (aG (h.must (c.has (aJ i.op))) (nth ag (c.top (aJ i.op)) 0) (nth ag (c.top (aJ i.op)) 1) i))/\Hs w0 g w' p (givesH (h.must (c.has (aJ i.op))) (nth ag (c.top (aJ i.op)) 0) (nth ag (c.top (aJ i.op)) 1) i)
   /\ Cs w0 w' a (c.cut (aJ i.op))/\Fq w0.heap.size g.T a w w':=by
 obtain ⟨op,ia,ib,ic,ii,args⟩:=i
 dsimp only at *
 unfold ij at hop
 rcases hop with rfl|rfl|rfl|rfl|rfl|rfl|rfl|rfl|rfl|rfl|rfl|rfl|rfl
 ·have em:aJ 1=0:=by decide
  rw [em]
  rw [cF (Nat.zero_le _)]
  have e1:∀x y,givesH h x y ⟨1,ia,ib,ic,ii,args⟩=h:=fun x y=>by simp [givesH,ho]
  have e2:∀x y,aG h x y ⟨1,ia,ib,ic,ii,args⟩=⟨1,ii⟩:=fun x y=>by simp [aG,ho]
  rw [e1,e2]
  exact Jp w0 g p h a c ia ib ic ii Q nl q w hH hC C ho hs
 ·have em:aJ 2=0:=by decide
  rw [em]
  rw [cF (Nat.zero_le _)]
  have e1:∀x y,givesH h x y ⟨2,ia,ib,ic,ii,args⟩=h:=fun x y=>by simp [givesH,ho]
  have e2:∀x y,aG h x y ⟨2,ia,ib,ic,ii,args⟩=⟨2,ii⟩:=fun x y=>by simp [aG,ho]
  rw [e1,e2]
  exact Jq w0 g p h a c ia ib ic ii Q nl q w hH hC C ho hs
 ·have em:aJ 3=0:=by decide
  rw [em]
  rw [cF (Nat.zero_le _)]
  have e1:∀x y,givesH h x y ⟨3,ia,ib,ic,ii,args⟩=h:=fun x y=>by simp [givesH,ho]
  have e2:∀x y,aG h x y ⟨3,ia,ib,ic,ii,args⟩=⟨3,-1⟩:=fun x y=>by simp [aG,ho]
  rw [e1,e2]
  exact Jr w0 g p h a c ia ib ic ii Q nl q w hH hC C ho hs
 ·have em:aJ 6=2:=by decide
  rw [em]
  by_cases hl:2≤c.stk.length
  ·rw [cF hl]
   have e1:givesH h (nth ag (c.top 2) 0) (nth ag (c.top 2) 1) ⟨6,ia,ib,ic,ii,args⟩=h.reckH (nth ag (c.top 2) 0) (nth ag (c.top 2) 1) 1 ia:=by simp [givesH,ho]
   have e2:aG h (nth ag (c.top 2) 0) (nth ag (c.top 2) 1) ⟨6,ia,ib,ic,ii,args⟩=h.reckV (nth ag (c.top 2) 0) (nth ag (c.top 2) 1) 1 ia:=by simp [aG,ho]
   rw [e1,e2]
   exact Js w0 g p h a c ia ib ic ii Q nl q w hH hC C ho hs hl (hst _ (gX hl (by omega:0<2))).num (hst _ (gX hl (by omega:1<2))).num
  ·rw [cR hl,fK hl]
   have e1:∀x y,givesH (h.fin 6) x y ⟨6,ia,ib,ic,ii,args⟩=h.fin 6:=fun x y=>by simp [givesH,cB ho]
   have e2:∀x y,aG (h.fin 6) x y ⟨6,ia,ib,ic,ii,args⟩=ag:=fun x y=>by simp [aG,cB ho]
   rw [e1,e2]
   exact B8 w0 g p h a c ia ib ic ii Q nl q w hH hC C ho hs (by omega)
 ·have em:aJ 7=2:=by decide
  rw [em]
  by_cases hl:2≤c.stk.length
  ·rw [cF hl]
   have e1:givesH h (nth ag (c.top 2) 0) (nth ag (c.top 2) 1) ⟨7,ia,ib,ic,ii,args⟩=h.reckH (nth ag (c.top 2) 0) (nth ag (c.top 2) 1) 2 ia:=by simp [givesH,ho]
   have e2:aG h (nth ag (c.top 2) 0) (nth ag (c.top 2) 1) ⟨7,ia,ib,ic,ii,args⟩=h.reckV (nth ag (c.top 2) 0) (nth ag (c.top 2) 1) 2 ia:=by simp [aG,ho]
   rw [e1,e2]
   exact Jt w0 g p h a c ia ib ic ii Q nl q w hH hC C ho hs hl (hst _ (gX hl (by omega:0<2))).num (hst _ (gX hl (by omega:1<2))).num
  ·rw [cR hl,fK hl]
   have e1:∀x y,givesH (h.fin 6) x y ⟨7,ia,ib,ic,ii,args⟩=h.fin 6:=fun x y=>by simp [givesH,cB ho]
   have e2:∀x y,aG (h.fin 6) x y ⟨7,ia,ib,ic,ii,args⟩=ag:=fun x y=>by simp [aG,cB ho]
   rw [e1,e2]
   exact Cb w0 g p h a c ia ib ic ii Q nl q w hH hC C ho hs (by omega)
 ·have em:aJ 8=1:=by decide
  rw [em]
  by_cases hl:1≤c.stk.length
  ·rw [cF hl]
   have e1:givesH h (nth ag (c.top 1) 0) (nth ag (c.top 1) 1) ⟨8,ia,ib,ic,ii,args⟩=h.must (decide ((nth ag (c.top 1) 0).kind=1)):=by simp [givesH,ho]
   have e2:aG h (nth ag (c.top 1) 0) (nth ag (c.top 1) 1) ⟨8,ia,ib,ic,ii,args⟩=⟨2,(nth ag (c.top 1) 0).n⟩:=by simp [aG,ho]
   rw [e1,e2]
   exact Jv w0 g p h a c ia ib ic ii Q nl q w hH hC C ho hs hl
  ·rw [cR hl,fK hl]
   have e1:∀x y,givesH (h.fin 6) x y ⟨8,ia,ib,ic,ii,args⟩=h.fin 6:=fun x y=>by simp [givesH,cB ho]
   have e2:∀x y,aG (h.fin 6) x y ⟨8,ia,ib,ic,ii,args⟩=ag:=fun x y=>by simp [aG,cB ho]
   rw [e1,e2]
   exact Cc w0 g p h a c ia ib ic ii Q nl q w hH hC C ho hs (by omega)
 ·have em:aJ 9=1:=by decide
  rw [em]
  by_cases hl:1≤c.stk.length
  ·rw [cF hl]
   have e1:givesH h (nth ag (c.top 1) 0) (nth ag (c.top 1) 1) ⟨9,ia,ib,ic,ii,args⟩=h.must (decide ((nth ag (c.top 1) 0).kind=2)):=by simp [givesH,ho]
   have e2:aG h (nth ag (c.top 1) 0) (nth ag (c.top 1) 1) ⟨9,ia,ib,ic,ii,args⟩=⟨1,wrap32 (nth ag (c.top 1) 0).n⟩:=by simp [aG,ho]
   rw [e1,e2]
   exact Jw w0 g p h a c ia ib ic ii Q nl q w hH hC C ho hs hl
  ·rw [cR hl,fK hl]
   have e1:∀x y,givesH (h.fin 6) x y ⟨9,ia,ib,ic,ii,args⟩=h.fin 6:=fun x y=>by simp [givesH,cB ho]
   have e2:∀x y,aG (h.fin 6) x y ⟨9,ia,ib,ic,ii,args⟩=ag:=fun x y=>by simp [aG,cB ho]
   rw [e1,e2]
   exact Cd w0 g p h a c ia ib ic ii Q nl q w hH hC C ho hs (by omega)
 ·have em:aJ 10=2:=by decide
  rw [em]
  by_cases hl:2≤c.stk.length
  ·rw [cF hl]
   have e1:givesH h (nth ag (c.top 2) 0) (nth ag (c.top 2) 1) ⟨10,ia,ib,ic,ii,args⟩=h.must (ct (nth ag (c.top 2) 0) (nth ag (c.top 2) 1) 2):=by simp [givesH,ho]
   have e2:aG h (nth ag (c.top 2) 0) (nth ag (c.top 2) 1) ⟨10,ia,ib,ic,ii,args⟩=⟨1,ma (nth ag (c.top 2) 0).n (nth ag (c.top 2) 1).n⟩:=by simp [aG,ho]
   rw [e1,e2]
   by_cases hk:(nth ag (c.top 2) 0).kind=2
   ·exact Ce w0 g p h a c ia ib ic ii Q nl q w hH hC C ho hs hl hk
   ·exact Cg w0 g p h a c ia ib ic ii Q nl q w hH hC C ho hs hl hk
  ·rw [cR hl,fK hl]
   have e1:∀x y,givesH (h.fin 6) x y ⟨10,ia,ib,ic,ii,args⟩=h.fin 6:=fun x y=>by simp [givesH,cB ho]
   have e2:∀x y,aG (h.fin 6) x y ⟨10,ia,ib,ic,ii,args⟩=ag:=fun x y=>by simp [aG,cB ho]
   rw [e1,e2]
   exact yJ w0 g p h a c ia ib ic ii Q nl q w hH hC C ho hs (by omega)
 ·have em:aJ 14=0:=by decide
  rw [em]
  rw [cF (Nat.zero_le _)]
  have e1:∀x y,givesH h x y ⟨14,ia,ib,ic,ii,args⟩=h.new ia:=fun x y=>by simp [givesH,ho]
  have e2:∀x y,aG h x y ⟨14,ia,ib,ic,ii,args⟩=h.newV:=fun x y=>by simp [aG,ho]
  rw [e1,e2]
  exact Fa w0 g p h a c ia ib ic ii Q nl q w hH hC C ho hs (DU rfl)
 ·have em:aJ 15=1:=by decide
  rw [em]
  by_cases hl:1≤c.stk.length
  ·rw [cF hl]
   have e1:givesH h (nth ag (c.top 1) 0) (nth ag (c.top 1) 1) ⟨15,ia,ib,ic,ii,args⟩=h.findH (nth ag (c.top 1) 0) ia:=by simp [givesH,ho]
   have e2:aG h (nth ag (c.top 1) 0) (nth ag (c.top 1) 1) ⟨15,ia,ib,ic,ii,args⟩=h.getV (nth ag (c.top 1) 0) ia ib:=by simp [aG,ho]
   rw [e1,e2]
   exact Fe w0 g p h a c ia ib ic ii Q nl q w hH hC C ho hs hl (fun e=>((hst _ (gX hl (by omega:0<1))).ref e).2)
  ·rw [cR hl,fK hl]
   have e1:∀x y,givesH (h.fin 6) x y ⟨15,ia,ib,ic,ii,args⟩=h.fin 6:=fun x y=>by simp [givesH,cB ho]
   have e2:∀x y,aG (h.fin 6) x y ⟨15,ia,ib,ic,ii,args⟩=ag:=fun x y=>by simp [aG,cB ho]
   rw [e1,e2]
   exact yK w0 g p h a c ia ib ic ii Q nl q w hH hC C ho hs (by omega)
 ·have em:aJ 17=1:=by decide
  rw [em]
  by_cases hl:1≤c.stk.length
  ·rw [cF hl]
   have e1:givesH h (nth ag (c.top 1) 0) (nth ag (c.top 1) 1) ⟨17,ia,ib,ic,ii,args⟩=h.cast (nth ag (c.top 1) 0) ia:=by simp [givesH,ho]
   have e2:aG h (nth ag (c.top 1) 0) (nth ag (c.top 1) 1) ⟨17,ia,ib,ic,ii,args⟩=(nth ag (c.top 1) 0):=by simp [aG,ho]
   rw [e1,e2]
   exact Ff w0 g p h a c ia ib ic ii Q nl q w hH hC C ho hs hl (fun e=>((hst _ (gX hl (by omega:0<1))).ref e).2)
  ·rw [cR hl,fK hl]
   have e1:∀x y,givesH (h.fin 6) x y ⟨17,ia,ib,ic,ii,args⟩=h.fin 6:=fun x y=>by simp [givesH,cB ho]
   have e2:∀x y,aG (h.fin 6) x y ⟨17,ia,ib,ic,ii,args⟩=ag:=fun x y=>by simp [aG,cB ho]
   rw [e1,e2]
   exact yL w0 g p h a c ia ib ic ii Q nl q w hH hC C ho hs (by omega)
 ·have em:aJ 18=1:=by decide
  rw [em]
  by_cases hl:1≤c.stk.length
  ·rw [cF hl]
   have e1:givesH h (nth ag (c.top 1) 0) (nth ag (c.top 1) 1) ⟨18,ia,ib,ic,ii,args⟩=h.must (isRef (nth ag (c.top 1) 0)):=by simp [givesH,ho]
   have e2:aG h (nth ag (c.top 1) 0) (nth ag (c.top 1) 1) ⟨18,ia,ib,ic,ii,args⟩=h.isV (nth ag (c.top 1) 0) ia:=by simp [aG,ho]
   rw [e1,e2]
   exact Fg w0 g p h a c ia ib ic ii Q nl q w hH hC C ho hs hl (fun e=>((hst _ (gX hl (by omega:0<1))).ref e).2)
  ·rw [cR hl,fK hl]
   have e1:∀x y,givesH (h.fin 6) x y ⟨18,ia,ib,ic,ii,args⟩=h.fin 6:=fun x y=>by simp [givesH,cB ho]
   have e2:∀x y,aG (h.fin 6) x y ⟨18,ia,ib,ic,ii,args⟩=ag:=fun x y=>by simp [aG,cB ho]
   rw [e1,e2]
   exact yM w0 g p h a c ia ib ic ii Q nl q w hH hC C ho hs (by omega)
 ·have em:aJ 25=0:=by decide
  rw [em]
  rw [cF (Nat.zero_le _)]
  have e1:∀x y,givesH h x y ⟨25,ia,ib,ic,ii,args⟩=h.input':=fun x y=>by simp [givesH,ho]
  have e2:∀x y,aG h x y ⟨25,ia,ib,ic,ii,args⟩=h.inV:=fun x y=>by simp [aG,ho]
  rw [e1,e2]
  exact Fb w0 g p h a c ia ib ic ii Q nl q w hH hC C ho hs hIn hu
theorem Ci (w0:World) (g:Ad) (p:Nat) (h:Hp) (a:Ca) (c:aH) (i:In) (Q:Option Addr) (nl q:Nat) (w:World) (hH:Hs w0 g w p h) (hC:Cs w0 w a c) (C:Cw w0 g h) (ho:h.over=false) (eP:c.stk.length≤500) (hp:0≤c.pc/\c.pc≤100000) (hop:ij i.op) (DU:i.op=14->0≤i.a/\i.a<h.file.classes.length) (hst:∀v∈c.stk,iJ h v) (hIn:cM w0 g.I h.input) (hu:0≤h.sh.used) :
  Calls Tryz.prog 59 #[.pointer (some ⟨p,0,none⟩),.pointer (some ⟨a.q,0,none⟩),.agg (cO i.op i.a i.b i.c i.n Q nl q)] w fun e w' =>
   e=.returned (int i64 (bZ h c i).nx)/\Hs w0 g w' p (bZ h c i).h/\Cs w0 w' a (bZ h c i).c/\Fq w0.heap.size g.T a w w':=by
 have cH:=hH.base
 have hbl:Bl w (w.alloc (.cells (cO i.op i.a i.b i.c i.n Q nl q) 55)):=(Bl.refl w).alloc _
 have GV:Hid (Calls Tryz.prog 118 #[.pointer (some ⟨p,0,none⟩),.pointer (some ⟨a.q,0,none⟩),.agg (cO i.op i.a i.b i.c i.n Q nl q)] (w.alloc (.cells (cO i.op i.a i.b i.c i.n Q nl q) 55)) fun e w' =>
   e=.returned (iA (aG (h.must (c.has (aJ i.op))) (nth ag (c.top (aJ i.op)) 0) (nth ag (c.top (aJ i.op)) 1) i))/\Hs w0 g w' p (givesH (h.must (c.has (aJ i.op))) (nth ag (c.top (aJ i.op)) 0) (nth ag (c.top (aJ i.op)) 1) i)
   /\ Cs w0 w' a (c.cut (aJ i.op))/\Fq w0.heap.size g.T a (w.alloc (.cells (cO i.op i.a i.b i.c i.n Q nl q) 55)) w') :=
  Ch w0 g p h a c i Q nl q _ (hH.old hbl) (hC.old hbl) C ho (by omega) hop DU hst hIn hu
 have HF:Hid (Fr w0.heap.size g.T w (w.alloc (.cells (cO i.op i.a i.b i.c i.n Q nl q) 55))):=Fr.old cH hbl
 have d10:(w.alloc (.cells (cO i.op i.a i.b i.c i.n Q nl q) 55)).cell? ⟨a.q,10,none⟩=some (int i64 c.pc):=by
  obtain ⟨A,cap,X⟩:=hC.old hbl
  exact X.cells.c10
 have HK:Hid (Tk g.T):=C.k
 have hq:=hC.lt
 have hle:(c.cut (aJ i.op)).stk.length≤1000:=by have:=eU c (aJ i.op);omega
 have Uv:(i.op==11)=false:=by unfold ij at hop;simp;omega
 have N0:(i.op==12)=false:=by unfold ij at hop;simp;omega
 have Sj:(i.op==13)=false:=by unfold ij at hop;simp;omega
 have Uw:(i.op==19)=false:=by unfold ij at hop;simp;omega
 have WJ:(i.op==21)=false:=by unfold ij at hop;simp;omega
 have z4:(i.op==4)=false:=by unfold ij at hop;simp;omega
 have z5:(i.op==5)=false:=by unfold ij at hop;simp;omega
 have z22:(i.op==22)=false:=by unfold ij at hop;simp;omega
 have WK:(i.op==23)=false:=by unfold ij at hop;simp;omega
 have z24:(i.op==24)=false:=by unfold ij at hop;simp;omega
 have QK:(i.op==16)=false:=by unfold ij at hop;simp;omega
 have pD:(bZ h c i).nx=c.pc+1:=by unfold bZ;dsimp only;split<;>rfl
 rw [pD]
 have Ux:(bZ h c i).h=if (givesH (h.must (c.has (aJ i.op))) (nth ag (c.top (aJ i.op)) 0) (nth ag (c.top (aJ i.op)) 1) i).stops=true then givesH (h.must (c.has (aJ i.op))) (nth ag (c.top (aJ i.op)) 0) (nth ag (c.top (aJ i.op)) 1) i
   else (givesH (h.must (c.has (aJ i.op))) (nth ag (c.top (aJ i.op)) 0) (nth ag (c.top (aJ i.op)) 1) i).putH (c.cut (aJ i.op)) (aG (h.must (c.has (aJ i.op))) (nth ag (c.top (aJ i.op)) 0) (nth ag (c.top (aJ i.op)) 1) i):=by
  unfold bZ;dsimp only;split<;>rfl
 have Uy:(bZ h c i).c=if (givesH (h.must (c.has (aJ i.op))) (nth ag (c.top (aJ i.op)) 0) (nth ag (c.top (aJ i.op)) 1) i).stops=true then c.cut (aJ i.op)
   else (c.cut (aJ i.op)).put (aG (h.must (c.has (aJ i.op))) (nth ag (c.top (aJ i.op)) 0) (nth ag (c.top (aJ i.op)) 1) i):=by
  unfold bZ;dsimp only;split<;>rfl
 rw [Ux,Uy]
 clear Ux Uy pD hop DU hst hIn hu hH hC C ho hbl
 generalize aG (h.must (c.has (aJ i.op))) (nth ag (c.top (aJ i.op)) 0) (nth ag (c.top (aJ i.op)) 1) i=V at *
 generalize givesH (h.must (c.has (aJ i.op))) (nth ag (c.top (aJ i.op)) 0) (nth ag (c.top (aJ i.op)) 1) i=H at *
 generalize c.cut (aJ i.op)=c1 at *
 obtain ⟨op,ia,ib,ic,ii,args⟩:=i
 dsimp only at *
 cases hst:H.stops
 ·rw [if_neg (by decide),if_neg (by decide)]
  go_enter Tryz.func59,Tryz.ntmps59
  go_wp2_with (first
   | (go_at_call 118;refine GV.out.mono ?_;rintro e w2 ⟨rfl,h2,c2,f2⟩;have dA:=h2.base;have qK:=c2.lt;have H2:Hid (Hs w0 g (w2.alloc (cS V)) p H):=h2.old ((Bl.refl w2).alloc _);have C2:Hid (Cs w0 (w2.alloc (cS V)) a c1):=c2.old ((Bl.refl w2).alloc _);have F2:Hid (Fq w0.heap.size g.T a w (w2.alloc (cS V))):=(HF.out.fq.trans f2).trans (Fr.fq (Fr.old dA ((Bl.refl w2).alloc _)));clear h2 c2 f2)
   | (go_at_call 114;refine (gQ w0 g p H _ H2.out).mono ?_;rintro e w4 ⟨he,sC⟩;rw [hst] at he;subst he;rw [sC];clear sC w4)
   | (go_at_call 61;refine (kh w0 g HK.out p H a c1 V _ H2.out C2.out hle).mono ?_;rintro e w5 ⟨rfl,h5,c5,f5⟩))
  go_ret
  exact ⟨rfl,h5,c5,F2.out.trans f5⟩
 ·rw [if_pos rfl,if_pos rfl]
  go_enter Tryz.func59,Tryz.ntmps59
  go_wp2_with (first
   | (go_at_call 118;refine GV.out.mono ?_;rintro e w2 ⟨rfl,h2,c2,f2⟩;have dA:=h2.base;have qK:=c2.lt;have H2:Hid (Hs w0 g (w2.alloc (cS V)) p H):=h2.old ((Bl.refl w2).alloc _);have C2:Hid (Cs w0 (w2.alloc (cS V)) a c1):=c2.old ((Bl.refl w2).alloc _);have F2:Hid (Fq w0.heap.size g.T a w (w2.alloc (cS V))):=(HF.out.fq.trans f2).trans (Fr.fq (Fr.old dA ((Bl.refl w2).alloc _)));clear h2 c2 f2)
   | (go_at_call 114;refine (gQ w0 g p H _ H2.out).mono ?_;rintro e w4 ⟨he,sC⟩;rw [hst] at he;subst he;rw [sC];clear sC w4))
  go_ret
  exact ⟨rfl,H2.out,C2.out,F2.out⟩
theorem pH (h:Hp) (e f:Int) (ho:h.over=false):(h.fin e).fin f=h.fin e:=by simp [Hp.fin,ho]
theorem Fh (w0:World) (g:Ad) (p:Nat) (h:Hp) (a:Ca) (c:aH) (i:In) (Q:Option Addr) (nl q:Nat) (w:World) (hH:Hs w0 g w p h) (hC:Cs w0 w a c) (C:Cw w0 g h) (ho:h.over=false) (eP:c.stk.length≤500) (hp:0≤c.pc/\c.pc≤100000) (nm iG:Nat) (ok:vU h.file.classes nm iG c.locs.length i) (pn:i.op≠19) (oV:i.op≠20) (hst:∀v∈c.stk,iJ h v) (hlo:gZ c.locs) (hIn:cM w0 g.I h.input) (hu:0≤h.sh.used) (Ji:h.sh.out.length≤60000) :
  Calls Tryz.prog 59 #[.pointer (some ⟨p,0,none⟩),.pointer (some ⟨a.q,0,none⟩),.agg (cO i.op i.a i.b i.c i.n Q nl q)] w fun e w' =>
   e=.returned (int i64 (aM h c i).nx)/\Hs w0 g w' p (aM h c i).h/\Cs w0 w' a (aM h c i).c/\Fq w0.heap.size g.T a w w':=by
 have hop:=ok.op
 have Pf:i.op=11∨i.op=12∨i.op=13∨i.op=21∨i.op=4∨i.op=5∨i.op=22∨i.op=23∨i.op=24∨i.op=16∨ij i.op:=by unfold ij;omega
 rcases Pf with e|e|e|e|e|e|e|e|e|e|hpb
 ·have ed:aM h c i=⟨h,c,i.a⟩:=by unfold aM;rw [if_pos e]
  rw [ed,e]
  exact Je w0 g p h a c _ _ _ _ Q nl q w hH hC C ho eP hp
 ·have ed:aM h c i=DF h c i:=by unfold aM;rw [if_neg (by omega),if_pos e]
  rw [ed,e]
  unfold DF
  dsimp only
  by_cases hl:1≤c.stk.length
  ·rw [cF hl,kH h ho]
   by_cases hk:(nth ag (c.top 1) 0).kind=1
   ·rw [decide_eq_true hk,Bool.true_and]
    have em:h.must true=h:=rfl
    rw [em]
    cases hr:jb i.b (nth ag (c.top 1) 0).n
    ·rw [if_neg (by decide)];exact E3 w0 g p h a c _ _ _ _ Q nl q w hH hC C ho eP hp hl hk hr
    ·rw [if_pos rfl];exact E1 w0 g p h a c _ _ _ _ Q nl q w hH hC C ho eP hp hl hk hr
   ·rw [decide_eq_false hk,Bool.false_and,if_neg (by decide)]
    have em:h.must false=h.fin 6:=rfl
    rw [em]
    exact E4 w0 g p h a c _ _ _ _ Q nl q w hH hC C ho eP hp hl hk
  ·rw [cR hl,pW hl,fK hl]
   have e0:decide ((nth ag (List.replicate 1 ag) 0).kind=1)=false:=by decide
   rw [e0]
   have em:(h.fin 6).must false=h.fin 6:=pH h 6 6 ho
   have eb:(h.fin 6).mustB false=false:=rfl
   rw [em,eb,Bool.false_and,if_neg (by decide)]
   exact Bu w0 g p h a c _ _ _ _ Q nl q w hH hC C ho eP hp (by omega)
 ·have ed:aM h c i=pS h c i:=by unfold aM;rw [if_neg (by omega),if_neg (by omega),if_pos e]
  rw [ed,e]
  unfold pS
  dsimp only
  by_cases hl:1≤c.stk.length
  ·rw [cF hl,kH h ho]
   by_cases hk:(nth ag (c.top 1) 0).kind=3
   ·have ei:isRef (nth ag (c.top 1) 0)=true:=decide_eq_true hk
    rw [ei,Bool.true_and]
    have em:h.must true=h:=rfl
    rw [em]
    by_cases hn:(nth ag (c.top 1) 0).n<0
    ·rw [decide_eq_true hn,if_pos rfl];exact Eu w0 g p h a c _ _ _ _ Q nl q w hH hC C ho eP hp hl hk hn
    ·rw [decide_eq_false hn,if_neg (by decide)];exact E0 w0 g p h a c _ _ _ _ Q nl q w hH hC C ho eP hp hl hk hn
   ·have ei:isRef (nth ag (c.top 1) 0)=false:=decide_eq_false hk
    rw [ei,Bool.false_and,if_neg (by decide)]
    have em:h.must false=h.fin 6:=rfl
    rw [em]
    exact EZ w0 g p h a c _ _ _ _ Q nl q w hH hC C ho eP hp hl hk
  ·rw [cR hl,pW hl,fK hl]
   have e0:isRef (nth ag (List.replicate 1 ag) 0)=false:=by decide
   rw [e0]
   have em:(h.fin 6).must false=h.fin 6:=pH h 6 6 ho
   have eb:(h.fin 6).mustB false=false:=rfl
   rw [em,eb,Bool.false_and,if_neg (by decide)]
   exact BZ w0 g p h a c _ _ _ _ Q nl q w hH hC C ho eP hp (by omega)
 ·have ed:aM h c i=vL h c i:=by unfold aM;rw [if_neg (by omega),if_neg (by omega),if_neg (by omega),if_pos e]
  rw [ed,e]
  unfold vL
  dsimp only
  by_cases hl:1≤c.stk.length
  ·rw [cF hl,if_neg (by rw [ho];decide)]
   exact Jg w0 g p h a c _ _ _ _ Q nl q w hH hC C ho eP hp hl
  ·rw [cR hl,fK hl,if_pos (cB ho)]
   exact BW w0 g p h a c _ _ _ _ Q nl q w hH hC C ho eP hp (by omega)
 ·have ed:aM h c i=kQ h c i:=by unfold aM;rw [if_neg (by omega),if_neg (by omega),if_neg (by omega),if_neg (by omega),if_pos e]
  obtain ⟨s1,s2,s3,s4⟩:=ok.slot (Or.inl e)
  rw [ed,e]
  unfold kQ
  dsimp only
  rw [kH h ho]
  by_cases hk:(nth ag c.locs i.a.toNat).kind=i.b
  ·rw [decide_eq_true hk,if_pos rfl]
   exact Jm w0 g p h a c _ _ _ _ Q nl q w hH hC C ho eP hp ⟨s1,s2⟩ hk
  ·rw [decide_eq_false hk,if_neg (by decide)]
   exact Jk w0 g p h a c _ _ _ _ Q nl q w hH hC C ho eP hp ⟨s1,s2⟩ hk
 ·have ed:aM h c i=kB h c i:=by unfold aM;rw [if_neg (by omega),if_neg (by omega),if_neg (by omega),if_neg (by omega),if_neg (by omega),if_pos e]
  obtain ⟨s1,s2,s3,s4⟩:=ok.slot (Or.inr e)
  rw [ed,e]
  unfold kB
  dsimp only
  by_cases hl:1≤c.stk.length
  ·rw [cF hl,kH h ho]
   by_cases hk:(nth ag (c.top 1) 0).kind=i.b
   ·rw [decide_eq_true hk,if_pos rfl]
    exact Jo w0 g p h a c _ _ _ _ Q nl q w hH hC C ho eP hp hl hk ⟨s1,s2⟩ hlo s3
   ·rw [decide_eq_false hk,if_neg (by decide)]
    exact Jn w0 g p h a c _ _ _ _ Q nl q w hH hC C ho eP hp hl hk
  ·rw [cR hl,pW hl,fK hl]
   have e0:decide ((nth ag (List.replicate 1 ag) 0).kind=i.b)=false:=decide_eq_false (fun hh=>s4 (by rw [<-hh];rfl))
   rw [e0]
   have em:(h.fin 6).must false=h.fin 6:=pH h 6 6 ho
   have eb:(h.fin 6).mustB false=false:=rfl
   rw [em,eb,if_neg (by decide)]
   exact E7 w0 g p h a c _ _ _ _ Q nl q w hH hC C ho eP hp (by omega) s4
 ·have ed:aM h c i=DG h c i:=by unfold aM;rw [if_neg (by omega),if_neg (by omega),if_neg (by omega),if_neg (by omega),if_neg (by omega),if_neg (by omega),if_pos e]
  rw [ed,e]
  exact Jf w0 g p h a c _ _ _ _ Q nl q w hH hC C ho eP hp
 ·have ed:aM h c i=pj h c i:=by unfold aM;rw [if_neg (by omega),if_neg (by omega),if_neg (by omega),if_neg (by omega),if_neg (by omega),if_neg (by omega),if_neg (by omega),if_pos e]
  rw [ed,e]
  unfold pj
  dsimp only
  by_cases hl:1≤c.stk.length
  ·rw [cF hl,if_neg (by rw [ho];decide)]
   exact Jj w0 g p h a c _ _ _ _ Q nl q w hH hC C ho eP hp hl
  ·rw [cR hl,fK hl,if_pos (cB ho)]
   exact B5 w0 g p h a c _ _ _ _ Q nl q w hH hC C ho eP hp (by omega)
 ·have ed:aM h c i=oO h c i:=by unfold aM;rw [if_neg (by omega),if_neg (by omega),if_neg (by omega),if_neg (by omega),if_neg (by omega),if_neg (by omega),if_neg (by omega),if_neg (by omega),if_pos e]
  rw [ed,e]
  unfold oO
  dsimp only
  by_cases hl:1≤c.stk.length
  ·rw [cF hl,if_neg (by rw [ho];decide)]
   exact Jh w0 g p h a c _ _ _ _ Q nl q w hH hC C ho eP hp hl Ji
  ·rw [cR hl,fK hl,if_pos (cB ho)]
   exact BX w0 g p h a c _ _ _ _ Q nl q w hH hC C ho eP hp (by omega)
 ·have ed:aM h c i=jZ h c i:=by unfold aM;rw [if_neg (by omega),if_neg (by omega),if_neg (by omega),if_neg (by omega),if_neg (by omega),if_neg (by omega),if_neg (by omega),if_neg (by omega),if_neg (by omega),if_pos e]
  obtain ⟨s1,s2,s3,s4⟩:=ok.fld (Or.inr e)
  rw [ed,e]
  unfold jZ
  dsimp only
  by_cases hl:2≤c.stk.length
  ·rw [cF hl,if_neg (by rw [ho];decide),kH h ho]
   by_cases hk:(nth ag (c.top 2) 0).kind=3
   ·have ei:isRef (nth ag (c.top 2) 0)=true:=decide_eq_true hk
    rw [ei,if_pos rfl]
    exact E9 w0 g p h a c _ _ _ _ Q nl q w hH hC C ho eP hp hl hk (fun e=>((hst _ (gX hl (by omega:0<2))).ref e).2) (fun e=>((hst _ (gX hl (by omega:1<2))).ref e).2) ⟨s1,s2⟩ ⟨s3,s4⟩
   ·have ei:isRef (nth ag (c.top 2) 0)=false:=decide_eq_false hk
    rw [ei,if_neg (by decide)]
    exact E8 w0 g p h a c _ _ _ _ Q nl q w hH hC C ho eP hp hl hk
  ·rw [cR hl,fK hl,if_pos (cB ho)]
   exact B6 w0 g p h a c _ _ _ _ Q nl q w hH hC C ho eP hp (by omega)
 ·have ed:aM h c i=bZ h c i:=by
   unfold ij at hpb
   unfold aM;rw [if_neg (by omega),if_neg (by omega),if_neg (by omega),if_neg (by omega),if_neg (by omega),if_neg (by omega),if_neg (by omega),if_neg (by omega),if_neg (by omega),if_neg (by omega)]
  rw [ed]
  exact Ci w0 g p h a c i Q nl q w hH hC C ho eP hp hpb (fun e=>ok.cls (Or.inl e)) hst hIn hu
theorem yN {h:Hp} {l:List Va} {k:List Ty} {q:Nat} (hq:q<l.length) (hk:l.length=k.length):h.enterL (l.drop q) (k.drop q)=(h.of (nth ag l q) (nth cL k q)&&h.enterL (l.drop (q+1)) (k.drop (q+1))):=by
 rw [List.drop_eq_getElem_cons hq,List.drop_eq_getElem_cons (l:=k) (by omega),Hp.enterL,<-bP (d:=ag) hq,<-bP (d:=cL) (by omega)]
theorem sE (w0:World) (g:Ad) (p:Nat) (h:Hp) (m:Me) (P CC K:Option Addr) (pp cc kk:Nat) (A:Option Addr) (ac lb:Nat) (l:List Va) (w:World) (hH:Hs w0 g w p h) (C:Cw w0 g h) (ho:h.over=false) (hP:dm w0 P m.params) (hl:l.length=m.params.length) (hA:bG lb w A l) (hg:∀v∈l,v.kind=3->v.n<h.objs.length) (hc:0≤h.calls/\h.calls≤20) :
  Calls Tryz.prog 52 #[.pointer (some ⟨p,0,none⟩),iU m P CC K pp cc kk,.slice A l.length ac] w fun e w'=>e=.returned (.bool (h.enterB m l))/\Hs w0 g w' p (h.enterH m l)/\Fr w0.heap.size g.T w w':=by
 have cH:=hH.base
 have HH:Hid (∀wr,Bl w wr->Hs w0 g wr p h):=fun wr hb=>hH.old hb
 have HC:Hid (Cw w0 g h):=C
 have Sk:Hid (∀wr,Bl w wr->dm wr P m.params):=fun wr hb=>(hP.bl hH.bl).bl hb
 have Uz:Hid (∀wr,Bl w wr->bG lb wr A l):=fun wr hb=>hA.keep fun b cs f e _=>(hb.block _ (af e)).trans e
 have HG:Hid (∀v∈l,v.kind=3->v.n<h.objs.length):=hg
 have HL:Hid (l.length=m.params.length):=hl
 have qH:(!h.over)=true:=by rw [ho];rfl
 have Ii:=hP.1
 unfold maxLen at Ii
 have HM:Hid ((w.alloc (dH m P CC K pp cc kk)).cell? ⟨w.heap.size,0,none⟩=some (.slice P m.params.length pp)):=ak rfl
 have vl:Hid (∀q,q<l.length->h.enterL (l.drop q) (m.params.drop q)=(h.of (nth ag l q) (nth cL m.params q)&&h.enterL (l.drop (q+1)) (m.params.drop (q+1)))):=fun q hq=>yN hq hl
 have rP:Hid (h.must false=h.fin 6):=rfl
 have Se:Hid (h.mustB false=false):=rfl
 obtain ⟨R,hR⟩:∃R,h.enterL l m.params=R:=⟨_,rfl⟩
 have HR:Hid (h.enterL (l.drop 0) (m.params.drop 0)=R):=by rw [List.drop_zero,List.drop_zero];exact hR
 have hB:h.enterB m l=(R&&!h.deep):=by unfold Hp.enterB;rw [hR]
 have hE:h.enterH m l=if R=false then h.fin 6 else if h.deep=true then h.fin 5 else { h with calls:=h.calls+1 }:=by unfold Hp.enterH;rw [hR]
 have HB:Hid (h.enterB m l=(R&&!h.deep)):=hB
 have HE:Hid (h.enterH m l=if R=false then h.fin 6 else if h.deep=true then h.fin 5 else { h with calls:=h.calls+1 }):=hE
 have WL:Hid (dm w0 P m.params):=hP
 have WM:Hid (∀wr,Bl (w.alloc (dH m P CC K pp cc kk)) wr->wr.heap[w.heap.size]?=some (dH m P CC K pp cc kk)):=fun wr hb=>(hb.block _ (by simp)).trans (aD _ _ _)
 clear hB hE hR hH C hP hA hg hl
 go_enter Tryz.func52,Tryz.ntmps52
 go_wp2
 go_loopw [7] (fun i wr=>∃q:Nat,q≤m.params.length/\i=int i64 q/\Hid (Bl w wr)/\Hid (Bl (w.alloc (dH m P CC K pp cc kk)) wr)/\wr.cell? ⟨w.heap.size,0,none⟩=some (.slice P m.params.length pp)/\Hid (h.enterL (l.drop q) (m.params.drop q)=R)) (fun i _=>m.params.length-(intOf i).toNat)
 case atStart=>exact ⟨0,Nat.zero_le _,rfl,(Bl.refl w).alloc _,Bl.refl _,HM.out,HR⟩
 case round =>
  obtain ⟨q,hq,rfl,Cj,QB,c7,hr⟩:=hrel
  by_cases eQ:q<m.params.length
  ·have Ck:q<l.length:=by rw [HL.out];exact eQ
   have RO:=Sk.out wr Cj.out
   rcases RO.2 with h0|⟨b',gp,Jy,hcell⟩
   ·omega
   obtain ⟨g0,g1,-⟩:=hcell q eQ
   obtain ⟨b,off,Sl,hcl⟩:=(Uz.out wr Cj.out).fst (by omega)
   obtain ⟨v0,v1⟩:=hcl q Ck
   have Fj:=vl.out q Ck
   rw [Jy] at c7
   have HV:Hid ((nth ag l q).kind=3->(nth ag l q).n<h.objs.length):=HG.out _ (bE Ck)
   subst Sl
   have UA:(q:Int)<(l.length:Int):=by omega
   have YT:l.length≤2 ^ 63-1:=by have:=HL.out;omega
   have cU:(0:Int)≤(q:Int):=by omega
   have mL:(q:Int)<(m.params.length:Int):=by omega
   rw [hr.out] at Fj
   have Lr:Hid (R=(h.of (nth ag l q) (nth cL m.params q)&&h.enterL (l.drop (q+1)) (m.params.drop (q+1)))):=Fj
   have Sa:Hid (∀w2,Fr w0.heap.size g.T wr w2->w2.cell? ⟨b,off+q*2,none⟩=some (int i64 (nth ag l q).kind)/\w2.cell? ⟨b,off+q*2+1,none⟩=some (int i64 (nth ag l q).n)):=fun w2 f=>by
    obtain ⟨bb,oo,Ah,vC⟩:=((Uz.out wr Cj.out).fr HC.out.k f).fst (by omega)
    simp only [Option.some.injEq,Addr.mk.injEq] at Ah
    obtain ⟨rfl,rfl,-⟩:=Ah
    exact vC q Ck
   have WN:Hid (∀w2,Fr w0.heap.size g.T wr w2->w2.cell? ⟨w.heap.size,0,none⟩=some (.slice (some ⟨b',gp,none⟩) m.params.length pp)):=fun w2 f=>by
    have hb:=WM.out wr QB.out
    rw [aa (f.keep _ _ _ _ hb HC.out.k.nm),<-Jy];rfl
   have WO:Hid (∀w2,Fr w0.heap.size g.T wr w2->w2.cell? ⟨b',gp+q*2,none⟩=some (int i64 (nth cL m.params q).kind)/\w2.cell? ⟨b',gp+q*2+1,none⟩=some (int i64 (nth cL m.params q).cls)):=fun w2 f=>by
    rcases (WL.out.bl (Below.trans (HH.out wr Cj.out).bl f.bl)).2 with h0|⟨b2,o2,Sm,vC⟩
    ·omega
    rw [Jy] at Sm
    simp only [Option.some.injEq,Addr.mk.injEq] at Sm
    obtain ⟨rfl,rfl,-⟩:=Sm
    exact ⟨(vC q eQ).1,(vC q eQ).2.1⟩
   have UB:Hid (P=some ⟨b',gp,none⟩):=Jy
   clear hcell hcl RO Fj hr Jy
   generalize hX:nth ag l q=X at *
   generalize hY:nth cL m.params q=Y at *
   clear hX hY
   cases hO:h.of X Y
   ·have Pg:R=false:=by rw [Lr.out,hO];rfl
    subst Pg
    go_wp2
    go_region_held3 (fun w'=>w'.cell? ⟨b,off+q*2,none⟩=some (int i64 X.kind)/\w'.cell? ⟨b,off+q*2+1,none⟩=some (int i64 X.n)/\w'.cell? ⟨w.heap.size,0,none⟩=some (.slice (some ⟨b',gp,none⟩) m.params.length pp)/\w'.cell? ⟨b',gp+q*2,none⟩=some (int i64 Y.kind)/\w'.cell? ⟨b',gp+q*2+1,none⟩=some (int i64 Y.cls))
     (go_keep)
     (first
      | (go_at_call 58;refine (jm w0 g p h X Y _ (by first|exact HH.out _ Cj.out.drew|exact HH.out _ Cj.out) HC.out.cls HC.out.tree HV.out).mono ?_;rintro e w1 ⟨he,h1,f1,b1⟩;rw [hO] at he;subst he;have e0:=b1.cell v0;have e1:=b1.cell v1;have e2:=b1.cell c7;have e3:=b1.cell g0;have e4:=b1.cell g1;have F1:Hid (Fr w0.heap.size g.T wr w1):=Fr.trans (Fr.drew (Fr.refl _ _ _)) f1;clear f1 b1)
      | (go_at_call 56;refine (bj w0 g HC.out.k p h false _ h1).mono ?_;rintro e w2 ⟨he,h2,f2⟩;rw [Se.out] at he;subst he;rw [rP.out] at h2;have FF:Hid (Fr w0.heap.size g.T wr w2):=F1.out.trans f2;obtain ⟨a0,a1⟩:=Sa.out w2 FF.out;have a2:=WN.out w2 FF.out;obtain ⟨a3,a4⟩:=WO.out w2 FF.out))
    go_wp2
    go_ret
    refine ⟨aj ?_,?_,(Fr.old cH Cj.out).trans FF.out⟩
    ·rw [HB.out];rfl
    ·rw [HE.out];first|(rw [if_pos rfl];exact h2)|(rw [if_pos trivial];exact h2)
   ·have Lm:Hid (h.enterL (l.drop (q+1)) (m.params.drop (q+1))=R):=by rw [Lr.out,hO,Bool.true_and];rfl
    go_wp2
    go_region_held3 (fun w'=>w'.cell? ⟨b,off+q*2,none⟩=some (int i64 X.kind)/\w'.cell? ⟨b,off+q*2+1,none⟩=some (int i64 X.n)/\w'.cell? ⟨w.heap.size,0,none⟩=some (.slice (some ⟨b',gp,none⟩) m.params.length pp)/\w'.cell? ⟨b',gp+q*2,none⟩=some (int i64 Y.kind)/\w'.cell? ⟨b',gp+q*2+1,none⟩=some (int i64 Y.cls))
     (go_keep)
     (first
      | (go_at_call 58;refine (jm w0 g p h X Y _ (by first|exact HH.out _ Cj.out.drew|exact HH.out _ Cj.out) HC.out.cls HC.out.tree HV.out).mono ?_;rintro e w1 ⟨he,h1,f1,b1⟩;rw [hO] at he;subst he;have e0:=b1.cell v0;have e1:=b1.cell v1;have e2:=b1.cell c7;have e3:=b1.cell g0;have e4:=b1.cell g1;have B1:Hid (Bl w w1):=Bl.trans Cj.out.drew b1;have B2:Hid (Bl (w.alloc (dH m P CC K pp cc kk)) w1):=Bl.trans QB.out.drew b1;clear f1 b1)
      | (go_at_call 56;refine (dh w0 g p h _ h1).mono ?_;rintro e w2 ⟨he,eK⟩;rw [qH] at he;subst he;rw [eK];clear eK w2))
    go_wp2
    go_roundw
    case rel=>exact ⟨q+1,by omega,by go_num,B1,B2,by rw [UB.out];exact e2,Lm⟩
    case measure=>simp [intOf];omega
  ·obtain rfl:q=m.params.length:=by omega
   have WQ:R=true:=by
    have:=hr.out
    rw [List.drop_length] at this
    rw [<-this]
    unfold Hp.enterL
    split
    ·rename_i h1 h2;simp at h2
    ·rfl
   subst WQ
   obtain ⟨vo,vx,hv,H⟩:=HH.out wr Cj.out
   have c4:=H.cells.c4
   have f4:=H.free 4
   have HA:Hid (cC w0 g wr p h vo vx hv):=H
   clear H
   by_cases hd:20≤h.calls
   ·have d1:decide (20≤h.calls)=true:=decide_eq_true hd
    go_wp2_with (go_at_call 110;refine (nM w0 g HC.out.k p h 5 _ ⟨vo,vx,hv,HA.out⟩).mono ?_;rintro e w1 ⟨rfl,h1,f1⟩)
    go_ret
    have Ph:h.deep=true:=d1
    refine ⟨aj ?_,?_,(Fr.old cH Cj.out).trans f1⟩
    ·rw [HB.out,Ph];rfl
    ·rw [HE.out];simp only [if_pos Ph];simpa using h1
   ·have d1:decide (20≤h.calls)=false:=decide_eq_false hd
    go_wp2
    go_ret
    have Ph:h.deep=false:=d1
    refine ⟨aj ?_,?_,(Fr.old cH Cj.out).trans (HA.out.frSet 4 _)⟩
    ·rw [HB.out,Ph];rfl
    ·rw [HE.out,if_neg (by decide),if_neg (by rw [Ph];decide)]
     exact ⟨vo,vx,hv,HA.out.set HC.out.k _ rfl rfl rfl⟩
def Fk (w0:World) (g:Ad) (p:Nat) (a:Ca) (A:Option Addr) (w:World) (many:Nat) (h:Hp) (c:aH) (l:List Va) (e:Ending) (w':World):Prop :=
 ∃A1 cV bc,e=.returned (.slice A1 many cV)/\bG a.lb w' A1 l/\Hs w0 g w' p h/\bp w0 w' a c A bc/\Fq w0.heap.size g.T a w w'/\many≤cV
theorem oq (w0:World) (g:Ad) (k:Tk g.T) (p:Nat) (h:Hp) (a:Ca) (c:aH) (many:Nat) (w:World) (A:Option Addr) (cap:Nat) (hH:Hs w0 g w p h) (H:bp w0 w a c A cap) (ho:h.over=false) (hm:many≤c.stk.length) (hs:c.stk.length≤1000) :
  Calls Tryz.prog 57 #[.pointer (some ⟨p,0,none⟩),.pointer (some ⟨a.q,0,none⟩),int i64 (many:Int)] w fun e w' =>
   Fk w0 g p a A w many h (c.cut many) (c.top many) e w':=by
 have HC:Hid (bp w0 w a c A cap):=H
 have HH:Hid (Hs w0 g w p h):=hH
 have c9:=H.cells.c9
 have f9:=H.free 9
 have mH:=H.cap
 have ES:(!h.over)=true:=by rw [ho];rfl
 obtain ⟨n,hn⟩:∃n,c.stk.length=n+many:=⟨c.stk.length-many,by omega⟩
 have e1:c.top many=c.stk.drop n:=by unfold aH.top;rw [if_pos hm];congr 1;omega
 have e2:c.cut many={ c with stk:=c.stk.take n }:=by unfold aH.cut;rw [if_pos hm];congr 2;omega
 rw [e1,e2]
 clear e1 e2 H hH hm
 have hlt:(c.stk.take n).length=n:=by simp;omega
 have Sd:(c.stk.drop n).length=many:=by simp;omega
 have HS:Hid (bG a.lb w A c.stk):=HC.out.stk
 have HN:Hid (c.stk.length=n+many):=hn
 rw [hn] at c9 hs mH
 clear hn
 go_enter Tryz.func57,Tryz.ntmps57
 go_wp2_with (go_at_call 56;refine (dh w0 g p h _ HH.out).mono ?_;rintro e w1 ⟨he,hw1⟩;rw [ES] at he;subst he;subst hw1)
 ·go_ret
  refine ⟨A,_,n,rfl,Or.inl (by omega),HH.out.cf (HC.out.cf k 9 _),?_,HC.out.fq _ 9 _,by omega⟩
  have hx:=HC.out.setStk (cap':=n) (HS.out.take n) (by omega)
  rw [hlt] at hx
  exact hx
 ·go_ret
  refine ⟨_,_,cap,rfl,?_,HH.out.cf (HC.out.cf k 9 _),?_,HC.out.fq _ 9 _,by omega⟩
  ·rcases HS.out with h0|⟨b,off,cs,f,rfl,-⟩
   ·exact Or.inl (by rw [Sd];have:=HN.out;omega)
   ·have e:(⟨b,off,none⟩:Addr).add (n*2)=⟨b,off+n*2,none⟩:=by simp [Addr.add]
    have hx:=HC.out.setStk (cap':=cap) (HS.out.take n) (by omega)
    rw [hlt] at hx
    have hy:=HS.out.drop n
    show bG a.lb _ (some ((⟨b,off,none⟩:Addr).add (n*2))) _
    rw [e]
    refine hy.keep fun b' cs' f' e' n'=>?_
    rw [aA]
    ·exact e'
    ·rintro rfl;rw [HC.out.blk] at e';simp at e'
  ·have hx:=HC.out.setStk (cap':=cap) (HS.out.take n) (by omega)
   rw [hlt] at hx
   exact hx
structure Env (w0:World) (g:Ad) (h:Hp):Prop where
 cw:Cw w0 g h
 may:pX h.file
 mes:eD w0 g.M h.file.methods
 inp:cM w0 g.I h.input
section
variable {w0:World} {g:Ad} {h h':Hp}
theorem Env.of (e:Env w0 g h) (e1:h'.file=h.file) (e2:h'.input=h.input):Env w0 g h' :=
 ⟨⟨e.cw.k,by rw [e1];exact e.cw.cls,by rw [e1];exact e.cw.tree,by rw [e1];exact e.cw.ge,by rw [e1];exact e.cw.le,by rw [e1];exact e.cw.fl⟩,by rw [e1];exact e.may,by rw [e1];exact e.mes,by rw [e2];exact e.inp⟩
theorem Env.le (e:Env w0 g h) (l:Le h h'):Env w0 g h':=e.of l.file l.input
end
def sF (w0:World) (g:Ad) (p n:Nat):Prop :=
 ∀(h:Hp) (m:Me) (P CC K:Option Addr) (pp cc kk:Nat) (A:Option Addr) (ac lb:Nat) (l:List Va) (w:World),
  Hs w0 g w p h->Env w0 g h->h.over=false->h.thrown=-1->Gh 0 h->kX w0 m P CC K->eX h.file.classes h.file.methods.length m=true->(∀i∈m.code,i.ok)->l.length=m.params.length->(∀v∈l,iJ h v)->bG lb w A l->l.length≤ac->(h.fuel-h.sh.steps).toNat≤n ->
  Calls Tryz.prog 26 #[.pointer (some ⟨p,0,none⟩),iU m P CC K pp cc kk,.slice A l.length ac] w fun e w' =>
   e=.returned (iA (fY (bF n) h m l).2)/\Hs w0 g w' p (fY (bF n) h m l).1/\Fr w0.heap.size g.T w w'
theorem iZ {A:Option Addr} {l:List Me} (h:eD w A l) {i:Nat} (hi:i<l.length):∃b off P C K p c k,A=some ⟨b,off,none⟩ /\
  (w.cell? ⟨b,off+i*8,none⟩=some (.slice P (nth bM l i).params.length p)/\w.cell? ⟨b,off+i*8+1,none⟩=some (int i64 (nth bM l i).ret.kind)/\w.cell? ⟨b,off+i*8+2,none⟩=some (int i64 (nth bM l i).ret.cls)
  /\ w.cell? ⟨b,off+i*8+3,none⟩=some (int i64 (nth bM l i).stack)/\w.cell? ⟨b,off+i*8+4,none⟩=some (int i64 (nth bM l i).locs)/\w.cell? ⟨b,off+i*8+5,none⟩=some (int i64 (nth bM l i).regs)
  /\ w.cell? ⟨b,off+i*8+6,none⟩=some (.slice C (nth bM l i).code.length c)/\w.cell? ⟨b,off+i*8+7,none⟩=some (.slice K (nth bM l i).hands.length k))/\kX w (nth bM l i) P C K:=by
 rcases h.2 with h0|⟨b,off,hA,hc⟩
 ·omega
 obtain ⟨P,C,K,p,c,k,h0,h1,h2,h3,h4,h5,h6,h7,h8⟩:=hc i hi
 exact ⟨b,off,P,C,K,p,c,k,hA,⟨h0,h1,h2,h3,h4,h5,h6,h7⟩,h8⟩
structure ep (w:World) (b:Nat) (m:Me) (P C K:Option Addr) (p c k:Nat):Prop where
 blk:w.heap[b]?=some (dH m P C K p c k)
structure Fl (w:World) (b:Nat) (m:Me) (P C K:Option Addr) (p c k:Nat):Prop where
 c0:w.cell? ⟨b,0,none⟩=some (.slice P m.params.length p)
 c1:w.cell? ⟨b,1,none⟩=some (int i64 m.ret.kind)
 c2:w.cell? ⟨b,2,none⟩=some (int i64 m.ret.cls)
 c3:w.cell? ⟨b,3,none⟩=some (int i64 m.stack)
 c4:w.cell? ⟨b,4,none⟩=some (int i64 m.locs)
 c5:w.cell? ⟨b,5,none⟩=some (int i64 m.regs)
 c6:w.cell? ⟨b,6,none⟩=some (.slice C m.code.length c)
 c7:w.cell? ⟨b,7,none⟩=some (.slice K m.hands.length k)
theorem ep.cells (h:ep w b m P C K p c k):Fl w b m P C K p c k:=by
 constructor<;>(rw [aa h.blk];rfl)
theorem ep.fr {B:Nat} {T:TypeId} {w':World} (h:ep w b m P C K p c k) (t:Tk T) (f:Fr B T w w'):ep w' b m P C K p c k:=⟨f.keep _ _ _ _ h.blk t.nm⟩
theorem ep.fq {B:Nat} {T:TypeId} {a:Ca} {w':World} (h:ep w b m P C K p c k) (t:Tk T) (f:Fq B T a w w') (h1:b≠a.q) (h2:b≠a.lb):ep w' b m P C K p c k:=⟨f.keep _ _ _ _ h.blk t.nm h1 h2⟩
section
variable (w0:World) (g:Ad) (p:Nat) (h:Hp) (a:Ca) (c:aH) (ia ib ic ii:Int) (Q:Option Addr) (nl q:Nat) (w:World)
theorem Jz (hH:Hs w0 g w p h) (hC:Cs w0 w a c) (E:Env w0 g h) (ho:h.over=false) (eP:c.stk.length≤500) (hp:0≤c.pc/\c.pc≤100000) (pq:0≤ia/\ia<h.file.methods.length) (yO:(nth bM h.file.methods ia.toNat).params.length≤4) (hl:c.stk.length<(nth bM h.file.methods ia.toNat).params.length) :
  Calls Tryz.prog 59 #[.pointer (some ⟨p,0,none⟩),.pointer (some ⟨a.q,0,none⟩),.agg (cO 19 ia ib ic ii Q nl q)] w fun e w' =>
   e=.returned (int i64 (c.pc+1))/\Hs w0 g w' p (h.fin 6)/\Cs w0 w' a c/\Fq w0.heap.size g.T a w w':=by
 have cH:=hH.base
 obtain ⟨A,cap,H0⟩:=hC
 have cU:a.q<w.heap.size:=af H0.blk
 have gJ:a.lb<w.heap.size:=af H0.loc.blk
 obtain ⟨n,rfl⟩:∃n:Nat,ia=n:=⟨ia.toNat,by omega⟩
 rw [Int.toNat_natCast] at yO hl
 have kq:n<h.file.methods.length:=by omega
 have jy:=E.mes.1
 unfold maxLen at jy
 obtain ⟨mb,mo,P,CC,K,pp,cc,kk,hM,⟨y0,y1,y2,y3,y4,y5,y6,y7⟩,hme⟩:=iZ (E.mes.bl (hH.bl.alloc (.cells (cO 19 (n:Int) ib ic ii Q nl q) 55))) kq
 have hbl:Bl w (w.alloc (.cells (cO 19 (n:Int) ib ic ii Q nl q) 55)):=(Bl.refl w).alloc _
 have ko:mb<w.heap.size:=by
  rcases E.mes.2 with h0|⟨b,off,hb,hc⟩
  ·omega
  ·rw [hM] at hb
   simp only [Option.some.injEq,Addr.mk.injEq] at hb
   obtain ⟨rfl,rfl,-⟩:=hb
   obtain ⟨_,_,_,_,_,_,h0,_⟩:=hc n kq
   have:=bt h0
   omega
 have HK:Hid (Tk g.T):=E.cw.k
 have c1:(w.alloc (.cells (cO 19 (n:Int) ib ic ii Q nl q) 55)).cell? ⟨p,1,none⟩=some (.slice (some ⟨mb,mo,none⟩) h.file.methods.length g.m):=by
  obtain ⟨vo,vx,hv,X⟩:=hH.old hbl
  rw [<-hM];exact X.cells.c1
 have Sn:p<w.heap.size:=by obtain ⟨vo,vx,hv,X⟩:=hH;exact af X.blk
 have HI:Hid (cI (w.alloc (.cells (cO 19 (n:Int) ib ic ii Q nl q) 55)) w.heap.size 19 (n:Int) ib ic ii):=⟨_,b8 rfl⟩
 have j1:=HI.out.c1
 have d10:=(H0.old hbl).cells.c10
 have kp:(0:Int)≤(n:Int):=by omega
 have kb:(n:Int)<(h.file.methods.length:Int):=by omega
 have Dl:=hH
 have Jl:=H0
 have bq:=ho
 clear hH H0 hbl ho E hM hme pq
 generalize hX:nth bM h.file.methods n=M at *
 clear hX
 have l7:Hid ((h.fin 6).over=true):=cB bq
 go_enter Tryz.func59,Tryz.ntmps59
 go_wp2
 go_region_held3 (fun w'=>w'.cell? ⟨p,1,none⟩=some (.slice (some ⟨mb,mo,none⟩) h.file.methods.length g.m)/\w'.cell? ⟨w.heap.size,1,none⟩=some (int i64 (n:Int))/\w'.cell? ⟨mb,mo+n*8,none⟩=some (.slice P M.params.length pp)/\w'.cell? ⟨mb,mo+n*8+1,none⟩=some (int i64 M.ret.kind)/\w'.cell? ⟨mb,mo+n*8+2,none⟩=some (int i64 M.ret.cls)/\w'.cell? ⟨mb,mo+n*8+3,none⟩=some (int i64 M.stack)/\w'.cell? ⟨mb,mo+n*8+4,none⟩=some (int i64 M.locs)/\w'.cell? ⟨mb,mo+n*8+5,none⟩=some (int i64 M.regs)/\w'.cell? ⟨mb,mo+n*8+6,none⟩=some (.slice CC M.code.length cc)/\w'.cell? ⟨mb,mo+n*8+7,none⟩=some (.slice K M.hands.length kk))
  (go_keep)
  (fail)
 have hb1:Bl w ((w.alloc (.cells (cO 19 (n:Int) ib ic ii Q nl q) 55)).alloc (dH M P CC K pp cc kk)).drew:=(((Bl.refl w).alloc _).alloc _).drew
 have Ai:Hid (Hs w0 g ((w.alloc (.cells (cO 19 (n:Int) ib ic ii Q nl q) 55)).alloc (dH M P CC K pp cc kk)).drew p h):=Dl.old hb1
 have E5:Hid (bp w0 ((w.alloc (.cells (cO 19 (n:Int) ib ic ii Q nl q) 55)).alloc (dH M P CC K pp cc kk)).drew a c A cap):=Jl.old hb1
 have E6:Hid (Fr w0.heap.size g.T w ((w.alloc (.cells (cO 19 (n:Int) ib ic ii Q nl q) 55)).alloc (dH M P CC K pp cc kk)).drew):=Fr.old cH hb1
 have vD:Hid (ep ((w.alloc (.cells (cO 19 (n:Int) ib ic ii Q nl q) 55)).alloc (dH M P CC K pp cc kk)).drew (w.heap.size+1) M P CC K pp cc kk):=⟨b8 (by simp)⟩
 clear hb1
 go_wp2_with (go_at_call 57;refine (dK w0 g HK.out p h a c M.params.length _ A cap Ai.out E5.out bq hl yO).mono ?_;rintro e w1 ⟨A1,cV,bc,rfl,cu,h1,c1,f1,-⟩;have iC:w1.cell? ⟨p,12,none⟩=some (.bool true):=(by obtain ⟨vo,vx,hv,X⟩:=h1;rw [X.cells.c12,l7.out]))
 go_ret
 exact ⟨rfl,h1,⟨A,bc,c1⟩,E6.out.fq.trans f1⟩
theorem Fm (hH:Hs w0 g w p h) (hC:Cs w0 w a c) (E:Env w0 g h) (ho:h.over=false) (eP:c.stk.length≤500) (hp:0≤c.pc/\c.pc≤100000) (pq:0≤ia/\ia<h.file.methods.length) (yO:(nth bM h.file.methods ia.toNat).params.length≤4) (hl:(nth bM h.file.methods ia.toNat).params.length≤c.stk.length) (N:Nat) (IH:sF w0 g p N) (gh:Gh 0 h) (iV:h.thrown=-1) (gc:Gc h c) (hN:(h.fuel-h.sh.steps).toNat≤N) :
  Calls Tryz.prog 59 #[.pointer (some ⟨p,0,none⟩),.pointer (some ⟨a.q,0,none⟩),.agg (cO 19 ia ib ic ii Q nl q)] w fun e w' =>
   e=.returned (int i64 (c.pc+1))/\Hs w0 g w' p (if ((fY (bF N) h (nth bM h.file.methods ia.toNat) (c.top (nth bM h.file.methods ia.toNat).params.length)).1.stops=false/\(nth bM h.file.methods ia.toNat).ret.kind≠0) then (fY (bF N) h (nth bM h.file.methods ia.toNat) (c.top (nth bM h.file.methods ia.toNat).params.length)).1.putH (c.cut (nth bM h.file.methods ia.toNat).params.length) (fY (bF N) h (nth bM h.file.methods ia.toNat) (c.top (nth bM h.file.methods ia.toNat).params.length)).2 else (fY (bF N) h (nth bM h.file.methods ia.toNat) (c.top (nth bM h.file.methods ia.toNat).params.length)).1)/\Cs w0 w' a (if ((fY (bF N) h (nth bM h.file.methods ia.toNat) (c.top (nth bM h.file.methods ia.toNat).params.length)).1.stops=false/\(nth bM h.file.methods ia.toNat).ret.kind≠0) then (c.cut (nth bM h.file.methods ia.toNat).params.length).put (fY (bF N) h (nth bM h.file.methods ia.toNat) (c.top (nth bM h.file.methods ia.toNat).params.length)).2 else c.cut (nth bM h.file.methods ia.toNat).params.length)/\Fq w0.heap.size g.T a w w':=by
 have cH:=hH.base
 obtain ⟨A,cap,H0⟩:=hC
 have cU:a.q<w.heap.size:=af H0.blk
 have gJ:a.lb<w.heap.size:=af H0.loc.blk
 obtain ⟨n,rfl⟩:∃n:Nat,ia=n:=⟨ia.toNat,by omega⟩
 rw [Int.toNat_natCast] at yO hl ⊢
 have kq:n<h.file.methods.length:=by omega
 have jy:=E.mes.1
 unfold maxLen at jy
 obtain ⟨mb,mo,P,CC,K,pp,cc,kk,hM,⟨y0,y1,y2,y3,y4,y5,y6,y7⟩,hme⟩:=iZ (E.mes.bl (hH.bl.alloc (.cells (cO 19 (n:Int) ib ic ii Q nl q) 55))) kq
 have hbl:Bl w (w.alloc (.cells (cO 19 (n:Int) ib ic ii Q nl q) 55)):=(Bl.refl w).alloc _
 have ko:mb<w.heap.size:=by
  rcases E.mes.2 with h0|⟨b,off,hb,hc⟩
  ·omega
  ·rw [hM] at hb
   simp only [Option.some.injEq,Addr.mk.injEq] at hb
   obtain ⟨rfl,rfl,-⟩:=hb
   obtain ⟨_,_,_,_,_,_,h0,_⟩:=hc n kq
   have:=bt h0
   omega
 have HK:Hid (Tk g.T):=E.cw.k
 have c1:(w.alloc (.cells (cO 19 (n:Int) ib ic ii Q nl q) 55)).cell? ⟨p,1,none⟩=some (.slice (some ⟨mb,mo,none⟩) h.file.methods.length g.m):=by
  obtain ⟨vo,vx,hv,X⟩:=hH.old hbl
  rw [<-hM];exact X.cells.c1
 have Sn:p<w.heap.size:=by obtain ⟨vo,vx,hv,X⟩:=hH;exact af X.blk
 have HI:Hid (cI (w.alloc (.cells (cO 19 (n:Int) ib ic ii Q nl q) 55)) w.heap.size 19 (n:Int) ib ic ii):=⟨_,b8 rfl⟩
 have j1:=HI.out.c1
 have d10:=(H0.old hbl).cells.c10
 have kp:(0:Int)≤(n:Int):=by omega
 have kb:(n:Int)<(h.file.methods.length:Int):=by omega
 have wT:=E.may _ (bE (d:=bM) kq)
 have Pj:kX w0 (nth bM h.file.methods n) P CC K:=by
  obtain ⟨YU,YV,P',C',K',p',c',k',Sp,⟨z0,-,-,-,-,-,z6,z7⟩,Sq⟩:=iZ E.mes kq
  rw [hM] at Sp
  simp only [Option.some.injEq,Addr.mk.injEq] at Sp
  obtain ⟨rfl,rfl,-⟩:=Sp
  have hbw:=hH.bl.alloc (.cells (cO 19 (n:Int) ib ic ii Q nl q) 55)
  have a0:=(hbw.cell z0).symm.trans y0
  have a6:=(hbw.cell z6).symm.trans y6
  have a7:=(hbw.cell z7).symm.trans y7
  simp only [Option.some.injEq,Value.slice.injEq] at a0 a6 a7
  obtain ⟨rfl,-,-⟩:=a0
  obtain ⟨rfl,-,-⟩:=a6
  obtain ⟨rfl,-,-⟩:=a7
  exact Sq
 have HR:Hid (∀(A1:Option Addr) (ac lb:Nat) (w1:World),Hs w0 g w1 p h->bG lb w1 A1 (c.top (nth bM h.file.methods n).params.length)->(nth bM h.file.methods n).params.length≤ac->Calls Tryz.prog 26 #[.pointer (some ⟨p,0,none⟩),iU (nth bM h.file.methods n) P CC K pp cc kk,.slice A1 (nth bM h.file.methods n).params.length ac] w1 fun e w' =>
   e=.returned (iA (fY (bF N) h (nth bM h.file.methods n) (c.top (nth bM h.file.methods n).params.length)).2)/\Hs w0 g w' p (fY (bF N) h (nth bM h.file.methods n) (c.top (nth bM h.file.methods n).params.length)).1/\Fr w0.heap.size g.T w1 w'):=fun A1 ac lb w1 xS cu QL=>by
  have:=IH h (nth bM h.file.methods n) P CC K pp cc kk A1 ac lb (c.top (nth bM h.file.methods n).params.length) w1 xS E ho iV gh Pj wT.1 wT.2 (aC _ _) (fun v hv=>by
   have e:c.top (nth bM h.file.methods n).params.length=c.stk.drop (c.stk.length-(nth bM h.file.methods n).params.length):=by unfold aH.top;rw [if_pos hl]
   rw [e] at hv
   exact gc.stk v (List.mem_of_mem_drop hv)) cu (by rw [aC];exact QL) hN
  rw [aC] at this
  exact this
 clear wT Pj IH gh iV gc hN
 have Dl:=hH
 have Jl:=H0
 have bq:=ho
 clear hH H0 hbl ho E hM hme pq
 generalize hX:nth bM h.file.methods n=M at *
 clear hX
 generalize NS:(fY (bF N) h M (c.top M.params.length)).1=R1 at *
 generalize qt:(fY (bF N) h M (c.top M.params.length)).2=R2 at *
 clear NS qt
 have n3:w.heap.size+1≠a.q:=by omega
 have n4:w.heap.size+1≠a.lb:=by omega
 have hle:(c.cut M.params.length).stk.length≤1000:=by have:=eU c M.params.length;omega
 have hs:c.stk.length≤1000:=by omega
 cases hst:R1.stops
 ·by_cases hk:M.ret.kind=0
  ·rw [if_neg (by omega),if_neg (by omega)]
   have hz:(M.ret.kind !=0)=false:=by simpa using hk
   clear hk
   go_enter Tryz.func59,Tryz.ntmps59
   go_wp2
   go_region_held3 (fun w'=>w'.cell? ⟨p,1,none⟩=some (.slice (some ⟨mb,mo,none⟩) h.file.methods.length g.m)/\w'.cell? ⟨w.heap.size,1,none⟩=some (int i64 (n:Int))/\w'.cell? ⟨mb,mo+n*8,none⟩=some (.slice P M.params.length pp)/\w'.cell? ⟨mb,mo+n*8+1,none⟩=some (int i64 M.ret.kind)/\w'.cell? ⟨mb,mo+n*8+2,none⟩=some (int i64 M.ret.cls)/\w'.cell? ⟨mb,mo+n*8+3,none⟩=some (int i64 M.stack)/\w'.cell? ⟨mb,mo+n*8+4,none⟩=some (int i64 M.locs)/\w'.cell? ⟨mb,mo+n*8+5,none⟩=some (int i64 M.regs)/\w'.cell? ⟨mb,mo+n*8+6,none⟩=some (.slice CC M.code.length cc)/\w'.cell? ⟨mb,mo+n*8+7,none⟩=some (.slice K M.hands.length kk))
    (go_keep)
    (fail)
   have hb1:Bl w ((w.alloc (.cells (cO 19 (n:Int) ib ic ii Q nl q) 55)).alloc (dH M P CC K pp cc kk)).drew:=(((Bl.refl w).alloc _).alloc _).drew
   have Ai:Hid (Hs w0 g ((w.alloc (.cells (cO 19 (n:Int) ib ic ii Q nl q) 55)).alloc (dH M P CC K pp cc kk)).drew p h):=Dl.old hb1
   have E5:Hid (bp w0 ((w.alloc (.cells (cO 19 (n:Int) ib ic ii Q nl q) 55)).alloc (dH M P CC K pp cc kk)).drew a c A cap):=Jl.old hb1
   have E6:Hid (Fr w0.heap.size g.T w ((w.alloc (.cells (cO 19 (n:Int) ib ic ii Q nl q) 55)).alloc (dH M P CC K pp cc kk)).drew):=Fr.old cH hb1
   have vD:Hid (ep ((w.alloc (.cells (cO 19 (n:Int) ib ic ii Q nl q) 55)).alloc (dH M P CC K pp cc kk)).drew (w.heap.size+1) M P CC K pp cc kk):=⟨b8 (by simp)⟩
   clear hb1
   go_wp2_with (first
    | (go_at_call 57;refine (oq w0 g HK.out p h a c M.params.length _ A cap Ai.out E5.out bq hl hs).mono ?_;rintro e w1 ⟨A1,cV,bc,rfl,cu,h1,c1,f1,wU⟩;have iC:w1.cell? ⟨p,12,none⟩=some (.bool false):=(by obtain ⟨vo,vx,hv,X⟩:=h1;rw [X.cells.c12,bq]);have M2:Hid (ep w1 (w.heap.size+1) M P CC K pp cc kk):=vD.out.fq HK.out f1 n3 n4;have x0:=M2.out.cells.c0;have x1:=M2.out.cells.c1;have x2:=M2.out.cells.c2;have x3:=M2.out.cells.c3;have x4:=M2.out.cells.c4;have x5:=M2.out.cells.c5;have x6:=M2.out.cells.c6;have x7:=M2.out.cells.c7;have H1:Hid (Hs w0 g w1 p h):=h1;have S1:Hid (bG a.lb w1 A1 (c.top M.params.length)):=cu;clear h1 cu)
    | (go_at_call 26;refine (HR.out A1 cV a.lb _ H1.out S1.out wU).mono ?_;rintro e w2 ⟨rfl,h2,f2⟩;have dA:=h2.base;have M3:=M2.out.fr HK.out f2;have z1:=M3.cells.c1;have UC:=af M3.blk;clear M3;have bb:Bl w2 (w2.alloc (cS R2)):=(Bl.refl w2).alloc _;have H2:Hid (Hs w0 g (w2.alloc (cS R2)) p R1):=h2.old bb;have C2:Hid (bp w0 (w2.alloc (cS R2)) a (c.cut M.params.length) A bc):=(c1.fr HK.out f2).old bb;have F2:Hid (Fq w0.heap.size g.T a w (w2.alloc (cS R2))):=((E6.out.fq.trans f1).trans f2.fq).trans (Fr.fq (Fr.old dA bb));have z2:=bb.cell z1;clear h2 f2 bb)
    | (go_at_call 114;refine (gQ w0 g p R1 _ H2.out).mono ?_;rintro e w4 ⟨he,sC⟩;rw [hst] at he;subst he;rw [sC];clear sC w4))
   go_ret
   exact ⟨rfl,H2.out,⟨A,bc,C2.out⟩,F2.out⟩
  ·rw [if_pos ⟨rfl,hk⟩,if_pos ⟨rfl,hk⟩]
   have hz:(M.ret.kind !=0)=true:=by simpa using hk
   clear hk
   go_enter Tryz.func59,Tryz.ntmps59
   go_wp2
   go_region_held3 (fun w'=>w'.cell? ⟨p,1,none⟩=some (.slice (some ⟨mb,mo,none⟩) h.file.methods.length g.m)/\w'.cell? ⟨w.heap.size,1,none⟩=some (int i64 (n:Int))/\w'.cell? ⟨mb,mo+n*8,none⟩=some (.slice P M.params.length pp)/\w'.cell? ⟨mb,mo+n*8+1,none⟩=some (int i64 M.ret.kind)/\w'.cell? ⟨mb,mo+n*8+2,none⟩=some (int i64 M.ret.cls)/\w'.cell? ⟨mb,mo+n*8+3,none⟩=some (int i64 M.stack)/\w'.cell? ⟨mb,mo+n*8+4,none⟩=some (int i64 M.locs)/\w'.cell? ⟨mb,mo+n*8+5,none⟩=some (int i64 M.regs)/\w'.cell? ⟨mb,mo+n*8+6,none⟩=some (.slice CC M.code.length cc)/\w'.cell? ⟨mb,mo+n*8+7,none⟩=some (.slice K M.hands.length kk))
    (go_keep)
    (fail)
   have hb1:Bl w ((w.alloc (.cells (cO 19 (n:Int) ib ic ii Q nl q) 55)).alloc (dH M P CC K pp cc kk)).drew:=(((Bl.refl w).alloc _).alloc _).drew
   have Ai:Hid (Hs w0 g ((w.alloc (.cells (cO 19 (n:Int) ib ic ii Q nl q) 55)).alloc (dH M P CC K pp cc kk)).drew p h):=Dl.old hb1
   have E5:Hid (bp w0 ((w.alloc (.cells (cO 19 (n:Int) ib ic ii Q nl q) 55)).alloc (dH M P CC K pp cc kk)).drew a c A cap):=Jl.old hb1
   have E6:Hid (Fr w0.heap.size g.T w ((w.alloc (.cells (cO 19 (n:Int) ib ic ii Q nl q) 55)).alloc (dH M P CC K pp cc kk)).drew):=Fr.old cH hb1
   have vD:Hid (ep ((w.alloc (.cells (cO 19 (n:Int) ib ic ii Q nl q) 55)).alloc (dH M P CC K pp cc kk)).drew (w.heap.size+1) M P CC K pp cc kk):=⟨b8 (by simp)⟩
   clear hb1
   go_wp2_with (first
    | (go_at_call 57;refine (oq w0 g HK.out p h a c M.params.length _ A cap Ai.out E5.out bq hl hs).mono ?_;rintro e w1 ⟨A1,cV,bc,rfl,cu,h1,c1,f1,wU⟩;have iC:w1.cell? ⟨p,12,none⟩=some (.bool false):=(by obtain ⟨vo,vx,hv,X⟩:=h1;rw [X.cells.c12,bq]);have M2:Hid (ep w1 (w.heap.size+1) M P CC K pp cc kk):=vD.out.fq HK.out f1 n3 n4;have x0:=M2.out.cells.c0;have x1:=M2.out.cells.c1;have x2:=M2.out.cells.c2;have x3:=M2.out.cells.c3;have x4:=M2.out.cells.c4;have x5:=M2.out.cells.c5;have x6:=M2.out.cells.c6;have x7:=M2.out.cells.c7;have H1:Hid (Hs w0 g w1 p h):=h1;have S1:Hid (bG a.lb w1 A1 (c.top M.params.length)):=cu;clear h1 cu)
    | (go_at_call 26;refine (HR.out A1 cV a.lb _ H1.out S1.out wU).mono ?_;rintro e w2 ⟨rfl,h2,f2⟩;have dA:=h2.base;have M3:=M2.out.fr HK.out f2;have z1:=M3.cells.c1;have UC:=af M3.blk;clear M3;have bb:Bl w2 (w2.alloc (cS R2)):=(Bl.refl w2).alloc _;have H2:Hid (Hs w0 g (w2.alloc (cS R2)) p R1):=h2.old bb;have C2:Hid (bp w0 (w2.alloc (cS R2)) a (c.cut M.params.length) A bc):=(c1.fr HK.out f2).old bb;have F2:Hid (Fq w0.heap.size g.T a w (w2.alloc (cS R2))):=((E6.out.fq.trans f1).trans f2.fq).trans (Fr.fq (Fr.old dA bb));have z2:=bb.cell z1;clear h2 f2 bb)
    | (go_at_call 114;refine (gQ w0 g p R1 _ H2.out).mono ?_;rintro e w4 ⟨he,sC⟩;rw [hst] at he;subst he;rw [sC];clear sC w4)
    | (go_at_call 61;refine (kh w0 g HK.out p R1 a (c.cut M.params.length) R2 _ H2.out ⟨A,bc,C2.out⟩ hle).mono ?_;rintro e w5 ⟨rfl,h5,c5,f5⟩))
   go_ret
   exact ⟨rfl,h5,c5,F2.out.trans f5⟩
 ·rw [if_neg (by simp),if_neg (by simp)]
  go_enter Tryz.func59,Tryz.ntmps59
  go_wp2
  go_region_held3 (fun w'=>w'.cell? ⟨p,1,none⟩=some (.slice (some ⟨mb,mo,none⟩) h.file.methods.length g.m)/\w'.cell? ⟨w.heap.size,1,none⟩=some (int i64 (n:Int))/\w'.cell? ⟨mb,mo+n*8,none⟩=some (.slice P M.params.length pp)/\w'.cell? ⟨mb,mo+n*8+1,none⟩=some (int i64 M.ret.kind)/\w'.cell? ⟨mb,mo+n*8+2,none⟩=some (int i64 M.ret.cls)/\w'.cell? ⟨mb,mo+n*8+3,none⟩=some (int i64 M.stack)/\w'.cell? ⟨mb,mo+n*8+4,none⟩=some (int i64 M.locs)/\w'.cell? ⟨mb,mo+n*8+5,none⟩=some (int i64 M.regs)/\w'.cell? ⟨mb,mo+n*8+6,none⟩=some (.slice CC M.code.length cc)/\w'.cell? ⟨mb,mo+n*8+7,none⟩=some (.slice K M.hands.length kk))
   (go_keep)
   (fail)
  have hb1:Bl w ((w.alloc (.cells (cO 19 (n:Int) ib ic ii Q nl q) 55)).alloc (dH M P CC K pp cc kk)).drew:=(((Bl.refl w).alloc _).alloc _).drew
  have Ai:Hid (Hs w0 g ((w.alloc (.cells (cO 19 (n:Int) ib ic ii Q nl q) 55)).alloc (dH M P CC K pp cc kk)).drew p h):=Dl.old hb1
  have E5:Hid (bp w0 ((w.alloc (.cells (cO 19 (n:Int) ib ic ii Q nl q) 55)).alloc (dH M P CC K pp cc kk)).drew a c A cap):=Jl.old hb1
  have E6:Hid (Fr w0.heap.size g.T w ((w.alloc (.cells (cO 19 (n:Int) ib ic ii Q nl q) 55)).alloc (dH M P CC K pp cc kk)).drew):=Fr.old cH hb1
  have vD:Hid (ep ((w.alloc (.cells (cO 19 (n:Int) ib ic ii Q nl q) 55)).alloc (dH M P CC K pp cc kk)).drew (w.heap.size+1) M P CC K pp cc kk):=⟨b8 (by simp)⟩
  clear hb1
  go_wp2_with (first
   | (go_at_call 57;refine (oq w0 g HK.out p h a c M.params.length _ A cap Ai.out E5.out bq hl hs).mono ?_;rintro e w1 ⟨A1,cV,bc,rfl,cu,h1,c1,f1,wU⟩;have iC:w1.cell? ⟨p,12,none⟩=some (.bool false):=(by obtain ⟨vo,vx,hv,X⟩:=h1;rw [X.cells.c12,bq]);have M2:Hid (ep w1 (w.heap.size+1) M P CC K pp cc kk):=vD.out.fq HK.out f1 n3 n4;have x0:=M2.out.cells.c0;have x1:=M2.out.cells.c1;have x2:=M2.out.cells.c2;have x3:=M2.out.cells.c3;have x4:=M2.out.cells.c4;have x5:=M2.out.cells.c5;have x6:=M2.out.cells.c6;have x7:=M2.out.cells.c7;have H1:Hid (Hs w0 g w1 p h):=h1;have S1:Hid (bG a.lb w1 A1 (c.top M.params.length)):=cu;clear h1 cu)
   | (go_at_call 26;refine (HR.out A1 cV a.lb _ H1.out S1.out wU).mono ?_;rintro e w2 ⟨rfl,h2,f2⟩;have dA:=h2.base;have M3:=M2.out.fr HK.out f2;have z1:=M3.cells.c1;have UC:=af M3.blk;clear M3;have bb:Bl w2 (w2.alloc (cS R2)):=(Bl.refl w2).alloc _;have H2:Hid (Hs w0 g (w2.alloc (cS R2)) p R1):=h2.old bb;have C2:Hid (bp w0 (w2.alloc (cS R2)) a (c.cut M.params.length) A bc):=(c1.fr HK.out f2).old bb;have F2:Hid (Fq w0.heap.size g.T a w (w2.alloc (cS R2))):=((E6.out.fq.trans f1).trans f2.fq).trans (Fr.fq (Fr.old dA bb));have z2:=bb.cell z1;clear h2 f2 bb)
   | (go_at_call 114;refine (gQ w0 g p R1 _ H2.out).mono ?_;rintro e w4 ⟨he,sC⟩;rw [hst] at he;subst he;rw [sC];clear sC w4))
  go_ret
  exact ⟨rfl,H2.out,⟨A,bc,C2.out⟩,F2.out⟩
end
theorem Fo (w0:World) (g:Ad) (p:Nat) (h:Hp) (a:Ca) (c:aH) (i:In) (Q:Option Addr) (nl q:Nat) (w:World) (hH:Hs w0 g w p h) (hC:Cs w0 w a c) (E:Env w0 g h) (ho:h.over=false) (eP:c.stk.length≤500) (hp:0≤c.pc/\c.pc≤100000) (hop:i.op=19) (pq:0≤i.a/\i.a<h.file.methods.length) (N:Nat) (IH:sF w0 g p N) (gh:Gh 0 h) (iV:h.thrown=-1) (gc:Gc h c) (hN:(h.fuel-h.sh.steps).toNat≤N) :
  Calls Tryz.prog 59 #[.pointer (some ⟨p,0,none⟩),.pointer (some ⟨a.q,0,none⟩),.agg (cO i.op i.a i.b i.c i.n Q nl q)] w fun e w' =>
   e=.returned (int i64 (gu (bF N) h c i).nx)/\Hs w0 g w' p (gu (bF N) h c i).h/\Cs w0 w' a (gu (bF N) h c i).c/\Fq w0.heap.size g.T a w w':=by
 have yO:(nth bM h.file.methods i.a.toNat).params.length≤4:=(jh (E.may _ (bE (by omega))).1).2.2.2.2.1
 rw [hop]
 unfold gu
 dsimp only
 by_cases hl:(nth bM h.file.methods i.a.toNat).params.length≤c.stk.length
 ·rw [cF hl,if_neg (by rw [ho];decide)]
  have:=Fm w0 g p h a c i.a i.b i.c i.n Q nl q w hH hC E ho eP hp pq yO hl N IH gh iV gc hN
  split
  ·rename_i hx;rw [if_pos hx,if_pos hx] at this;exact this
  ·rename_i hx;rw [if_neg hx,if_neg hx] at this;exact this
 ·rw [cR hl,fK hl,if_pos (cB ho)]
  exact Jz w0 g p h a c i.a i.b i.c i.n Q nl q w hH hC E ho eP hp pq yO (by omega)
def Cm (N:Nat) (h:Hp) (c:aH) (i:In):jx:=if i.op=19 then gu (bF N) h c i else aM h c i
theorem JA {N:Nat} {h:Hp} {c:aH} {i:In} (hmay:pX h.file) (gh:Gh 1 h) (gc:Gc h c) (ho:h.over=false) (iV:h.thrown=-1) (ok:vU h.file.classes h.file.methods.length c.m.code.length c.locs.length i) (Bd:i.ok) (hp:0≤c.pc/\c.pc<c.m.code.length):Kept h c (Cm N h c i):=by
 unfold Cm;split
 ·rename_i e
  exact ru (r9 h.file hmay N) rfl gh.less gc ho iV hmay (ok.call e) hp
 ·exact j9 gh gc ho iV ok Bd hp
theorem MI (w0:World) (g:Ad) (p:Nat) (h:Hp) (a:Ca) (c:aH) (i:In) (Q:Option Addr) (nl q:Nat) (w:World) (hH:Hs w0 g w p h) (hC:Cs w0 w a c) (E:Env w0 g h) (ho:h.over=false) (hp:0≤c.pc/\c.pc<c.m.code.length) (oV:i.op≠20) (N:Nat) (IH:sF w0 g p N) (gh:Gh 1 h) (iV:h.thrown=-1) (gc:Gc h c) (ok:vU h.file.classes h.file.methods.length c.m.code.length c.locs.length i) (hN:(h.fuel-h.sh.steps).toNat≤N) :
  Calls Tryz.prog 59 #[.pointer (some ⟨p,0,none⟩),.pointer (some ⟨a.q,0,none⟩),.agg (cO i.op i.a i.b i.c i.n Q nl q)] w fun e w' =>
   e=.returned (int i64 (Cm N h c i).nx)/\Hs w0 g w' p (Cm N h c i).h/\Cs w0 w' a (Cm N h c i).c/\Fq w0.heap.size g.T a w w':=by
 have hs:=gc.short
 have hcl:=(jh gc.me).2.2.2.2.2.2.1
 have Ji:=gh.out
 have hst:=gh.steps
 have YW:=gh.fuel
 unfold Cm;split
 ·rename_i e
  exact Fo w0 g p h a c i Q nl q w hH hC E ho (by omega) (by omega) e (ok.call e) N IH gh.less iV gc hN
 ·rename_i e
  exact Fh w0 g p h a c i Q nl q w hH hC E.cw ho (by omega) (by omega) h.file.methods.length c.m.code.length ok e oV gc.stk gc.ok E.inp gh.used (by omega)
theorem Fp (k:Int) (h0:0≤k) (hn:k≤1000000) (u:World):(Instr.makeSlice 58 (int i64 k) (int i64 k)).run Tryz.prog u=.ok (.slice (some ⟨u.heap.size,0,none⟩) k.toNat k.toNat) (u.alloc (.cells (aL (List.replicate k.toNat ag)).toArray 62)):=by
 have:=Aa k.toNat (by omega) u
 rw [Int.toNat_of_nonneg h0] at this
 exact this
theorem MJ (w0:World) (g:Ad) (p:Nat) (h:Hp) (m:Me) (P CC K:Option Addr) (pp cc kk:Nat) (A:Option Addr) (ac lb:Nat) (l:List Va) (w:World) (hH:Hs w0 g w p h) (E:Env w0 g h) (ho:h.over=false) (gh:Gh 0 h) (hme:kX w0 m P CC K) (hl:l.length=m.params.length) (hg:∀v∈l,iJ h v) (hA:bG lb w A l) (hb:h.enterB m l=false) :
  Calls Tryz.prog 26 #[.pointer (some ⟨p,0,none⟩),iU m P CC K pp cc kk,.slice A l.length ac] w fun e w'=>e=.returned (iA ag)/\Hs w0 g w' p (h.enterH m l)/\Fr w0.heap.size g.T w w':=by
 have cH:=hH.base
 have hbl:Bl w ((w.alloc (dH m P CC K pp cc kk)).alloc iq):=((Bl.refl w).alloc _).alloc _
 have HF:Hid (Fr w0.heap.size g.T w ((w.alloc (dH m P CC K pp cc kk)).alloc iq)):=Fr.old cH hbl
 have HH:Hid (Hs w0 g ((w.alloc (dH m P CC K pp cc kk)).alloc iq) p h):=hH.old hbl
 have HR:Hid (aQ ((w.alloc (dH m P CC K pp cc kk)).alloc iq) (w.heap.size+1) ag):=⟨b8 (by simp)⟩
 have HA:Hid (bG lb ((w.alloc (dH m P CC K pp cc kk)).alloc iq) A l):=hA.keep fun b cs f e _=>(hbl.block _ (af e)).trans e
 have HK:Hid (Tk g.T):=E.cw.k
 have HC:Hid (Cw w0 g h):=E.cw
 have HP:Hid (dm w0 P m.params):=hme.1
 have HL:Hid (l.length=m.params.length):=hl
 have HG:Hid (∀v∈l,v.kind=3->v.n<h.objs.length):=fun v hv e=>((hg v hv).ref e).2
 have HB:Hid (h.enterB m l=false):=hb
 have hcl:=gh.calls
 have bN:w0.heap.size≤w.heap.size+1:=by omega
 have bU:w.heap.size≤w.heap.size+1:=by omega
 clear hH E hme hl hg hA hb hbl gh
 go_enter Tryz.func26,Tryz.ntmps26
 go_wp2_with (go_at_call 52;refine (sE w0 g p h m P CC K pp cc kk A ac lb l _ HH.out HC.out ho HP.out HL.out HA.out HG.out hcl).mono ?_;rintro e w1 ⟨he,h1,f1⟩;rw [HB.out] at he;subst he;have b1:=HR.out.keep HK.out f1;have r0:=b1.c0;have r1:=b1.c1;have r2:=b1.fr 0;have r3:=b1.fr 1;have j6:Hid (aQ w1 (w.heap.size+1) ag):=b1;clear b1)
 (try simp only [Exit.inBlock,Exit.then])
 refine bodyPost_ret (results_cell_row rfl _ _ (w.heap.size+1) _ _ _ _ rfl (j6.out.set ag).blk Tryz.underlying62 rfl bk) rfl ?_
 exact ⟨rfl,h1.cf (j6.out.cf HK.out bN _ _),((HF.out.trans f1).new bU bN _).new bU bN _⟩
end Go.Proofs.YtimjmdfokicbkaaGreat
