import Derived.Test.YtgiiapenmjollaaGreatSrac
import Derived.Test.YtgiiapenmjollaaGreatSram
namespace Go.Proofs.YtgiiapenmjollaaGreat
set_option linter.all false
set_option maxHeartbeats 40000000
set_option maxRecDepth 100000
open Go.RowKit
open Go.Value (int)
open Go.IntKind (i64)
variable {m:Me} {b c k p:Nat} {C K P:Option Addr} {w:World}
theorem Ch (w0:World) (g:Ad) (p:Nat) (h:Hp) (a:Ca) (c:aH) (i:In) (Q:Option Addr) (nl q:Nat) (w:World) (hH:Hs w0 g w p h) (hC:Cs w0 w a c) (C:Cw w0 g h) (ho:h.over=false) (eP:c.stk.length<=500) (hp:0<=c.pc/\c.pc<=100000) (hop:iw i.op) (DQ:i.op=14->0<=i.a/\i.a<h.file.classes.length) (hst:∀v∈c.stk,iO h v) (hIn:cL w0 g.I h.input) (hu:0<=h.sh.used) :
  Calls Tryz.prog 58 #[.pointer (some ⟨p,0,none⟩),.pointer (some ⟨a.q,0,none⟩),.agg (cO i.op i.a i.b i.c i.n Q nl q)] w fun e w' =>
   e=.returned (int i64 (b8 h c i).nx)/\Hs w0 g w' p (b8 h c i).h/\Cs w0 w' a (b8 h c i).c/\Fq w0.heap.size g.T a w w':=by
 have cI:=hH.base
 have hbl:Bl w (w.alloc (.cells (cO i.op i.a i.b i.c i.n Q nl q) 55)):=(Bl.refl w).alloc _
 have GV:Hid (Calls Tryz.prog 116 #[.pointer (some ⟨p,0,none⟩),.pointer (some ⟨a.q,0,none⟩),.agg (cO i.op i.a i.b i.c i.n Q nl q)] (w.alloc (.cells (cO i.op i.a i.b i.c i.n Q nl q) 55)) fun e w' =>
   e=.returned (iE (aG (h.must (c.has (aJ i.op))) (nth ag (c.top (aJ i.op)) 0) (nth ag (c.top (aJ i.op)) 1) i))/\Hs w0 g w' p (givesH (h.must (c.has (aJ i.op))) (nth ag (c.top (aJ i.op)) 0) (nth ag (c.top (aJ i.op)) 1) i)
   /\ Cs w0 w' a (c.cut (aJ i.op))/\Fq w0.heap.size g.T a (w.alloc (.cells (cO i.op i.a i.b i.c i.n Q nl q) 55)) w') :=
  Cg w0 g p h a c i Q nl q _ (hH.old hbl) (hC.old hbl) C ho (by omega) hop DQ hst hIn hu
 have HF:Hid (Fr w0.heap.size g.T w (w.alloc (.cells (cO i.op i.a i.b i.c i.n Q nl q) 55))):=Fr.old cI hbl
 have d10:(w.alloc (.cells (cO i.op i.a i.b i.c i.n Q nl q) 55)).cell? ⟨a.q,10,none⟩=some (int i64 c.pc):=by
  obtain ⟨A,cap,X⟩:=hC.old hbl
  exact X.cells.c10
 have HK:Hid (Tk g.T):=C.k
 have hq:=hC.lt
 have hle:(c.cut (aJ i.op)).stk.length<=1000:=by have:=eW c (aJ i.op);omega
 have TX:(i.op==11)=false:=by unfold iw at hop;simp;omega
 have z12:(i.op==12)=false:=by unfold iw at hop;simp;omega
 have RI:(i.op==13)=false:=by unfold iw at hop;simp;omega
 have TY:(i.op==19)=false:=by unfold iw at hop;simp;omega
 have z21:(i.op==21)=false:=by unfold iw at hop;simp;omega
 have z4:(i.op==4)=false:=by unfold iw at hop;simp;omega
 have z5:(i.op==5)=false:=by unfold iw at hop;simp;omega
 have z22:(i.op==22)=false:=by unfold iw at hop;simp;omega
 have V3:(i.op==23)=false:=by unfold iw at hop;simp;omega
 have z24:(i.op==24)=false:=by unfold iw at hop;simp;omega
 have Qj:(i.op==16)=false:=by unfold iw at hop;simp;omega
 have pE:(b8 h c i).nx=c.pc+1:=by unfold b8;dsimp only;split<;>rfl
 rw [pE]
 have TZ:(b8 h c i).h=if (givesH (h.must (c.has (aJ i.op))) (nth ag (c.top (aJ i.op)) 0) (nth ag (c.top (aJ i.op)) 1) i).stops=true then givesH (h.must (c.has (aJ i.op))) (nth ag (c.top (aJ i.op)) 0) (nth ag (c.top (aJ i.op)) 1) i
   else (givesH (h.must (c.has (aJ i.op))) (nth ag (c.top (aJ i.op)) 0) (nth ag (c.top (aJ i.op)) 1) i).putH (c.cut (aJ i.op)) (aG (h.must (c.has (aJ i.op))) (nth ag (c.top (aJ i.op)) 0) (nth ag (c.top (aJ i.op)) 1) i):=by
  unfold b8;dsimp only;split<;>rfl
 have Tu:(b8 h c i).c=if (givesH (h.must (c.has (aJ i.op))) (nth ag (c.top (aJ i.op)) 0) (nth ag (c.top (aJ i.op)) 1) i).stops=true then c.cut (aJ i.op)
   else (c.cut (aJ i.op)).put (aG (h.must (c.has (aJ i.op))) (nth ag (c.top (aJ i.op)) 0) (nth ag (c.top (aJ i.op)) 1) i):=by
  unfold b8;dsimp only;split<;>rfl
 rw [TZ,Tu]
 clear TZ Tu pE hop DQ hst hIn hu hH hC C ho hbl
 generalize aG (h.must (c.has (aJ i.op))) (nth ag (c.top (aJ i.op)) 0) (nth ag (c.top (aJ i.op)) 1) i=V at *
 generalize givesH (h.must (c.has (aJ i.op))) (nth ag (c.top (aJ i.op)) 0) (nth ag (c.top (aJ i.op)) 1) i=H at *
 generalize c.cut (aJ i.op)=c1 at *
 obtain ⟨op,ia,ib,ic,ii,args⟩:=i
 dsimp only at *
 cases hst:H.stops
 ·rw [if_neg (by decide),if_neg (by decide)]
  go_enter Tryz.func58,Tryz.ntmps58
  go_wp2_with (first
   | (go_at_call 116;refine GV.out.mono ?_;rintro e w2 ⟨rfl,h2,c2,f2⟩;have dB:=h2.base;have qN:=c2.lt;have H2:Hid (Hs w0 g (w2.alloc (cT V)) p H):=h2.old ((Bl.refl w2).alloc _);have C2:Hid (Cs w0 (w2.alloc (cT V)) a c1):=c2.old ((Bl.refl w2).alloc _);have F2:Hid (Fq w0.heap.size g.T a w (w2.alloc (cT V))):=(HF.out.fq.trans f2).trans (Fr.fq (Fr.old dB ((Bl.refl w2).alloc _)));clear h2 c2 f2)
   | (go_at_call 112;refine (gQ w0 g p H _ H2.out).mono ?_;rintro e w4 ⟨he,sF⟩;rw [hst] at he;subst he;rw [sF];clear sF w4)
   | (go_at_call 60;refine (km w0 g HK.out p H a c1 V _ H2.out C2.out hle).mono ?_;rintro e w5 ⟨rfl,h5,c5,f5⟩))
  go_ret
  exact ⟨rfl,h5,c5,F2.out.trans f5⟩
 ·rw [if_pos rfl,if_pos rfl]
  go_enter Tryz.func58,Tryz.ntmps58
  go_wp2_with (first
   | (go_at_call 116;refine GV.out.mono ?_;rintro e w2 ⟨rfl,h2,c2,f2⟩;have dB:=h2.base;have qN:=c2.lt;have H2:Hid (Hs w0 g (w2.alloc (cT V)) p H):=h2.old ((Bl.refl w2).alloc _);have C2:Hid (Cs w0 (w2.alloc (cT V)) a c1):=c2.old ((Bl.refl w2).alloc _);have F2:Hid (Fq w0.heap.size g.T a w (w2.alloc (cT V))):=(HF.out.fq.trans f2).trans (Fr.fq (Fr.old dB ((Bl.refl w2).alloc _)));clear h2 c2 f2)
   | (go_at_call 112;refine (gQ w0 g p H _ H2.out).mono ?_;rintro e w4 ⟨he,sF⟩;rw [hst] at he;subst he;rw [sF];clear sF w4))
  go_ret
  exact ⟨rfl,H2.out,C2.out,F2.out⟩
theorem pI (h:Hp) (e f:Int) (ho:h.over=false):(h.fin e).fin f=h.fin e:=by simp [Hp.fin,ho]
theorem Fa (w0:World) (g:Ad) (p:Nat) (h:Hp) (a:Ca) (c:aH) (i:In) (Q:Option Addr) (nl q:Nat) (w:World) (hH:Hs w0 g w p h) (hC:Cs w0 w a c) (C:Cw w0 g h) (ho:h.over=false) (eP:c.stk.length<=500) (hp:0<=c.pc/\c.pc<=100000) (nm iK:Nat) (ok:vV h.file.classes nm iK c.locs.length i) (pn:i.op≠19) (oW:i.op≠20) (hst:∀v∈c.stk,iO h v) (hlo:gY c.locs) (hIn:cL w0 g.I h.input) (hu:0<=h.sh.used) (Jc:h.sh.out.length<=60000) :
  Calls Tryz.prog 58 #[.pointer (some ⟨p,0,none⟩),.pointer (some ⟨a.q,0,none⟩),.agg (cO i.op i.a i.b i.c i.n Q nl q)] w fun e w' =>
   e=.returned (int i64 (aM h c i).nx)/\Hs w0 g w' p (aM h c i).h/\Cs w0 w' a (aM h c i).c/\Fq w0.heap.size g.T a w w':=by
 have hop:=ok.op
 have OS:i.op=11∨i.op=12∨i.op=13∨i.op=21∨i.op=4∨i.op=5∨i.op=22∨i.op=23∨i.op=24∨i.op=16∨iw i.op:=by unfold iw;omega
 rcases OS with e|e|e|e|e|e|e|e|e|e|hpb
 ·have ed:aM h c i=⟨h,c,i.a⟩:=by unfold aM;rw [if_pos e]
  rw [ed,e]
  exact I8 w0 g p h a c _ _ _ _ Q nl q w hH hC C ho eP hp
 ·have ed:aM h c i=DC h c i:=by unfold aM;rw [if_neg (by omega),if_pos e]
  rw [ed,e]
  unfold DC
  dsimp only
  by_cases hl:1<=c.stk.length
  ·rw [cG hl,kJ h ho]
   by_cases hk:(nth ag (c.top 1) 0).kind=1
   ·rw [decide_eq_true hk,Bool.true_and]
    have em:h.must true=h:=rfl
    rw [em]
    cases hr:jB i.b (nth ag (c.top 1) 0).n
    ·rw [if_neg (by decide)];exact EZ w0 g p h a c _ _ _ _ Q nl q w hH hC C ho eP hp hl hk hr
    ·rw [if_pos rfl];exact EX w0 g p h a c _ _ _ _ Q nl q w hH hC C ho eP hp hl hk hr
   ·rw [decide_eq_false hk,Bool.false_and,if_neg (by decide)]
    have em:h.must false=h.fin 6:=rfl
    rw [em]
    exact Eu w0 g p h a c _ _ _ _ Q nl q w hH hC C ho eP hp hl hk
  ·rw [cR hl,pZ hl,fJ hl]
   have e0:decide ((nth ag (List.replicate 1 ag) 0).kind=1)=false:=by decide
   rw [e0]
   have em:(h.fin 6).must false=h.fin 6:=pI h 6 6 ho
   have eb:(h.fin 6).mustB false=false:=rfl
   rw [em,eb,Bool.false_and,if_neg (by decide)]
   exact BZ w0 g p h a c _ _ _ _ Q nl q w hH hC C ho eP hp (by omega)
 ·have ed:aM h c i=pV h c i:=by unfold aM;rw [if_neg (by omega),if_neg (by omega),if_pos e]
  rw [ed,e]
  unfold pV
  dsimp only
  by_cases hl:1<=c.stk.length
  ·rw [cG hl,kJ h ho]
   by_cases hk:(nth ag (c.top 1) 0).kind=3
   ·have ei:isRef (nth ag (c.top 1) 0)=true:=decide_eq_true hk
    rw [ei,Bool.true_and]
    have em:h.must true=h:=rfl
    rw [em]
    by_cases hn:(nth ag (c.top 1) 0).n<0
    ·rw [decide_eq_true hn,if_pos rfl];exact EU w0 g p h a c _ _ _ _ Q nl q w hH hC C ho eP hp hl hk hn
    ·rw [decide_eq_false hn,if_neg (by decide)];exact EW w0 g p h a c _ _ _ _ Q nl q w hH hC C ho eP hp hl hk hn
   ·have ei:isRef (nth ag (c.top 1) 0)=false:=decide_eq_false hk
    rw [ei,Bool.false_and,if_neg (by decide)]
    have em:h.must false=h.fin 6:=rfl
    rw [em]
    exact ET w0 g p h a c _ _ _ _ Q nl q w hH hC C ho eP hp hl hk
  ·rw [cR hl,pZ hl,fJ hl]
   have e0:isRef (nth ag (List.replicate 1 ag) 0)=false:=by decide
   rw [e0]
   have em:(h.fin 6).must false=h.fin 6:=pI h 6 6 ho
   have eb:(h.fin 6).mustB false=false:=rfl
   rw [em,eb,Bool.false_and,if_neg (by decide)]
   exact BX w0 g p h a c _ _ _ _ Q nl q w hH hC C ho eP hp (by omega)
 ·have ed:aM h c i=vN h c i:=by unfold aM;rw [if_neg (by omega),if_neg (by omega),if_neg (by omega),if_pos e]
  rw [ed,e]
  unfold vN
  dsimp only
  by_cases hl:1<=c.stk.length
  ·rw [cG hl,if_neg (by rw [ho];decide)]
   exact Ja w0 g p h a c _ _ _ _ Q nl q w hH hC C ho eP hp hl
  ·rw [cR hl,fJ hl,if_pos (cC ho)]
   exact BV w0 g p h a c _ _ _ _ Q nl q w hH hC C ho eP hp (by omega)
 ·have ed:aM h c i=kR h c i:=by unfold aM;rw [if_neg (by omega),if_neg (by omega),if_neg (by omega),if_neg (by omega),if_pos e]
  obtain ⟨s1,s2,s3,s4⟩:=ok.slot (Or.inl e)
  rw [ed,e]
  unfold kR
  dsimp only
  rw [kJ h ho]
  by_cases hk:(nth ag c.locs i.a.toNat).kind=i.b
  ·rw [decide_eq_true hk,if_pos rfl]
   exact Jg w0 g p h a c _ _ _ _ Q nl q w hH hC C ho eP hp ⟨s1,s2⟩ hk
  ·rw [decide_eq_false hk,if_neg (by decide)]
   exact Je w0 g p h a c _ _ _ _ Q nl q w hH hC C ho eP hp ⟨s1,s2⟩ hk
 ·have ed:aM h c i=kD h c i:=by unfold aM;rw [if_neg (by omega),if_neg (by omega),if_neg (by omega),if_neg (by omega),if_neg (by omega),if_pos e]
  obtain ⟨s1,s2,s3,s4⟩:=ok.slot (Or.inr e)
  rw [ed,e]
  unfold kD
  dsimp only
  by_cases hl:1<=c.stk.length
  ·rw [cG hl,kJ h ho]
   by_cases hk:(nth ag (c.top 1) 0).kind=i.b
   ·rw [decide_eq_true hk,if_pos rfl]
    exact Ji w0 g p h a c _ _ _ _ Q nl q w hH hC C ho eP hp hl hk ⟨s1,s2⟩ hlo s3
   ·rw [decide_eq_false hk,if_neg (by decide)]
    exact Jh w0 g p h a c _ _ _ _ Q nl q w hH hC C ho eP hp hl hk
  ·rw [cR hl,pZ hl,fJ hl]
   have e0:decide ((nth ag (List.replicate 1 ag) 0).kind=i.b)=false:=decide_eq_false (fun hh=>s4 (by rw [<-hh];rfl))
   rw [e0]
   have em:(h.fin 6).must false=h.fin 6:=pI h 6 6 ho
   have eb:(h.fin 6).mustB false=false:=rfl
   rw [em,eb,if_neg (by decide)]
   exact E2 w0 g p h a c _ _ _ _ Q nl q w hH hC C ho eP hp (by omega) s4
 ·have ed:aM h c i=DD h c i:=by unfold aM;rw [if_neg (by omega),if_neg (by omega),if_neg (by omega),if_neg (by omega),if_neg (by omega),if_neg (by omega),if_pos e]
  rw [ed,e]
  exact I9 w0 g p h a c _ _ _ _ Q nl q w hH hC C ho eP hp
 ·have ed:aM h c i=pj h c i:=by unfold aM;rw [if_neg (by omega),if_neg (by omega),if_neg (by omega),if_neg (by omega),if_neg (by omega),if_neg (by omega),if_neg (by omega),if_pos e]
  rw [ed,e]
  unfold pj
  dsimp only
  by_cases hl:1<=c.stk.length
  ·rw [cG hl,if_neg (by rw [ho];decide)]
   exact Jd w0 g p h a c _ _ _ _ Q nl q w hH hC C ho eP hp hl
  ·rw [cR hl,fJ hl,if_pos (cC ho)]
   exact Bu w0 g p h a c _ _ _ _ Q nl q w hH hC C ho eP hp (by omega)
 ·have ed:aM h c i=oQ h c i:=by unfold aM;rw [if_neg (by omega),if_neg (by omega),if_neg (by omega),if_neg (by omega),if_neg (by omega),if_neg (by omega),if_neg (by omega),if_neg (by omega),if_pos e]
  rw [ed,e]
  unfold oQ
  dsimp only
  by_cases hl:1<=c.stk.length
  ·rw [cG hl,if_neg (by rw [ho];decide)]
   exact Jb w0 g p h a c _ _ _ _ Q nl q w hH hC C ho eP hp hl Jc
  ·rw [cR hl,fJ hl,if_pos (cC ho)]
   exact BW w0 g p h a c _ _ _ _ Q nl q w hH hC C ho eP hp (by omega)
 ·have ed:aM h c i=j8 h c i:=by unfold aM;rw [if_neg (by omega),if_neg (by omega),if_neg (by omega),if_neg (by omega),if_neg (by omega),if_neg (by omega),if_neg (by omega),if_neg (by omega),if_neg (by omega),if_pos e]
  obtain ⟨s1,s2,s3,s4⟩:=ok.fld (Or.inr e)
  rw [ed,e]
  unfold j8
  dsimp only
  by_cases hl:2<=c.stk.length
  ·rw [cG hl,if_neg (by rw [ho];decide),kJ h ho]
   by_cases hk:(nth ag (c.top 2) 0).kind=3
   ·have ei:isRef (nth ag (c.top 2) 0)=true:=decide_eq_true hk
    rw [ei,if_pos rfl]
    exact E4 w0 g p h a c _ _ _ _ Q nl q w hH hC C ho eP hp hl hk (fun e=>((hst _ (gV hl (by omega:0<2))).ref e).2) (fun e=>((hst _ (gV hl (by omega:1<2))).ref e).2) ⟨s1,s2⟩ ⟨s3,s4⟩
   ·have ei:isRef (nth ag (c.top 2) 0)=false:=decide_eq_false hk
    rw [ei,if_neg (by decide)]
    exact E3 w0 g p h a c _ _ _ _ Q nl q w hH hC C ho eP hp hl hk
  ·rw [cR hl,fJ hl,if_pos (cC ho)]
   exact B5 w0 g p h a c _ _ _ _ Q nl q w hH hC C ho eP hp (by omega)
 ·have ed:aM h c i=b8 h c i:=by
   unfold iw at hpb
   unfold aM;rw [if_neg (by omega),if_neg (by omega),if_neg (by omega),if_neg (by omega),if_neg (by omega),if_neg (by omega),if_neg (by omega),if_neg (by omega),if_neg (by omega),if_neg (by omega)]
  rw [ed]
  exact Ch w0 g p h a c i Q nl q w hH hC C ho eP hp hpb (fun e=>ok.cls (Or.inl e)) hst hIn hu
theorem yP {h:Hp} {l:List Va} {k:List Ty} {q:Nat} (hq:q<l.length) (hk:l.length=k.length):h.enterL (l.drop q) (k.drop q)=(h.of (nth ag l q) (nth cN k q)&&h.enterL (l.drop (q+1)) (k.drop (q+1))):=by
 rw [List.drop_eq_getElem_cons hq,List.drop_eq_getElem_cons (l:=k) (by omega),Hp.enterL,<-bU (d:=ag) hq,<-bU (d:=cN) (by omega)]
theorem sH (w0:World) (g:Ad) (p:Nat) (h:Hp) (m:Me) (P CC K:Option Addr) (pp cc kk:Nat) (A:Option Addr) (ac lb:Nat) (l:List Va) (w:World) (hH:Hs w0 g w p h) (C:Cw w0 g h) (ho:h.over=false) (hP:dp w0 P m.params) (hl:l.length=m.params.length) (hA:bG lb w A l) (hg:∀v∈l,v.kind=3->v.n<h.objs.length) (hc:0<=h.calls/\h.calls<=20) :
  Calls Tryz.prog 51 #[.pointer (some ⟨p,0,none⟩),iW m P CC K pp cc kk,.slice A l.length ac] w fun e w'=>e=.returned (.bool (h.enterB m l))/\Hs w0 g w' p (h.enterH m l)/\Fr w0.heap.size g.T w w':=by
 have cI:=hH.base
 have HH:Hid (∀wr,Bl w wr->Hs w0 g wr p h):=fun wr hb=>hH.old hb
 have HC:Hid (Cw w0 g h):=C
 have RJ:Hid (∀wr,Bl w wr->dp wr P m.params):=fun wr hb=>(hP.bl hH.bl).bl hb
 have T0:Hid (∀wr,Bl w wr->bG lb wr A l):=fun wr hb=>hA.keep fun b cs f e _=>(hb.block _ (af e)).trans e
 have HG:Hid (∀v∈l,v.kind=3->v.n<h.objs.length):=hg
 have HL:Hid (l.length=m.params.length):=hl
 have qK:(!h.over)=true:=by rw [ho];rfl
 have Ia:=hP.1
 unfold maxLen at Ia
 have HM:Hid ((w.alloc (dH m P CC K pp cc kk)).cell? ⟨w.heap.size,0,none⟩=some (.slice P m.params.length pp)):=ak rfl
 have vp:Hid (∀q,q<l.length->h.enterL (l.drop q) (m.params.drop q)=(h.of (nth ag l q) (nth cN m.params q)&&h.enterL (l.drop (q+1)) (m.params.drop (q+1)))):=fun q hq=>yP hq hl
 have rS:Hid (h.must false=h.fin 6):=rfl
 have RD:Hid (h.mustB false=false):=rfl
 obtain ⟨R,hR⟩:∃R,h.enterL l m.params=R:=⟨_,rfl⟩
 have HR:Hid (h.enterL (l.drop 0) (m.params.drop 0)=R):=by rw [List.drop_zero,List.drop_zero];exact hR
 have hB:h.enterB m l=(R&&!h.deep):=by unfold Hp.enterB;rw [hR]
 have hE:h.enterH m l=if R=false then h.fin 6 else if h.deep=true then h.fin 5 else { h with calls:=h.calls+1 }:=by unfold Hp.enterH;rw [hR]
 have HB:Hid (h.enterB m l=(R&&!h.deep)):=hB
 have HE:Hid (h.enterH m l=if R=false then h.fin 6 else if h.deep=true then h.fin 5 else { h with calls:=h.calls+1 }):=hE
 have V4:Hid (dp w0 P m.params):=hP
 have V7:Hid (∀wr,Bl (w.alloc (dH m P CC K pp cc kk)) wr->wr.heap[w.heap.size]?=some (dH m P CC K pp cc kk)):=fun wr hb=>(hb.block _ (by simp)).trans (aD _ _ _)
 clear hB hE hR hH C hP hA hg hl
 go_enter Tryz.func51,Tryz.ntmps51
 go_wp2
 go_loopw [7] (fun i wr=>∃q:Nat,q<=m.params.length/\i=int i64 q/\Hid (Bl w wr)/\Hid (Bl (w.alloc (dH m P CC K pp cc kk)) wr)/\wr.cell? ⟨w.heap.size,0,none⟩=some (.slice P m.params.length pp)/\Hid (h.enterL (l.drop q) (m.params.drop q)=R)) (fun i _=>m.params.length-(intOf i).toNat)
 case atStart=>exact ⟨0,Nat.zero_le _,rfl,(Bl.refl w).alloc _,Bl.refl _,HM.out,HR⟩
 case round =>
  obtain ⟨q,hq,rfl,Ci,Qc,c7,hr⟩:=hrel
  by_cases eR:q<m.params.length
  ·have Cj:q<l.length:=by rw [HL.out];exact eR
   have Rh:=RJ.out wr Ci.out
   rcases Rh.2 with h0|⟨b',gj,Jq,hcell⟩
   ·omega
   obtain ⟨g0,g1,-⟩:=hcell q eR
   obtain ⟨b,off,RL,hcl⟩:=(T0.out wr Ci.out).fst (by omega)
   obtain ⟨v0,v1⟩:=hcl q Cj
   have Fb:=vp.out q Cj
   rw [Jq] at c7
   have HV:Hid ((nth ag l q).kind=3->(nth ag l q).n<h.objs.length):=HG.out _ (bJ Cj)
   subst RL
   have T1:(q:Int)<(l.length:Int):=by omega
   have Yg:l.length<=2 ^ 63-1:=by have:=HL.out;omega
   have cV:(0:Int)<=(q:Int):=by omega
   have mN:(q:Int)<(m.params.length:Int):=by omega
   rw [hr.out] at Fb
   have Li:Hid (R=(h.of (nth ag l q) (nth cN m.params q)&&h.enterL (l.drop (q+1)) (m.params.drop (q+1)))):=Fb
   have Rz:Hid (∀w2,Fr w0.heap.size g.T wr w2->w2.cell? ⟨b,off+q*2,none⟩=some (int i64 (nth ag l q).kind)/\w2.cell? ⟨b,off+q*2+1,none⟩=some (int i64 (nth ag l q).n)):=fun w2 f=>by
    obtain ⟨bb,oo,Ag,vE⟩:=((T0.out wr Ci.out).fr HC.out.k f).fst (by omega)
    simp only [Option.some.injEq,Addr.mk.injEq] at Ag
    obtain ⟨rfl,rfl,-⟩:=Ag
    exact vE q Cj
   have V8:Hid (∀w2,Fr w0.heap.size g.T wr w2->w2.cell? ⟨w.heap.size,0,none⟩=some (.slice (some ⟨b',gj,none⟩) m.params.length pp)):=fun w2 f=>by
    have hb:=V7.out wr Qc.out
    rw [aa (f.keep _ _ _ _ hb HC.out.k.nm),<-Jq];rfl
   have V9:Hid (∀w2,Fr w0.heap.size g.T wr w2->w2.cell? ⟨b',gj+q*2,none⟩=some (int i64 (nth cN m.params q).kind)/\w2.cell? ⟨b',gj+q*2+1,none⟩=some (int i64 (nth cN m.params q).cls)):=fun w2 f=>by
    rcases (V4.out.bl (Below.trans (HH.out wr Ci.out).bl f.bl)).2 with h0|⟨b2,o2,RM,vE⟩
    ·omega
    rw [Jq] at RM
    simp only [Option.some.injEq,Addr.mk.injEq] at RM
    obtain ⟨rfl,rfl,-⟩:=RM
    exact ⟨(vE q eR).1,(vE q eR).2.1⟩
   have T2:Hid (P=some ⟨b',gj,none⟩):=Jq
   clear hcell hcl Rh Fb hr Jq
   generalize hX:nth ag l q=X at *
   generalize hY:nth cN m.params q=Y at *
   clear hX hY
   cases hO:h.of X Y
   ·have OT:R=false:=by rw [Li.out,hO];rfl
    subst OT
    go_wp2
    go_region_held3 (fun w'=>w'.cell? ⟨b,off+q*2,none⟩=some (int i64 X.kind)/\w'.cell? ⟨b,off+q*2+1,none⟩=some (int i64 X.n)/\w'.cell? ⟨w.heap.size,0,none⟩=some (.slice (some ⟨b',gj,none⟩) m.params.length pp)/\w'.cell? ⟨b',gj+q*2,none⟩=some (int i64 Y.kind)/\w'.cell? ⟨b',gj+q*2+1,none⟩=some (int i64 Y.cls))
     (go_keep)
     (first
      | (go_at_call 57;refine (jn w0 g p h X Y _ (by first|exact HH.out _ Ci.out.drew|exact HH.out _ Ci.out) HC.out.cls HC.out.tree HV.out).mono ?_;rintro e w1 ⟨he,h1,f1,b1⟩;rw [hO] at he;subst he;have e0:=b1.cell v0;have e1:=b1.cell v1;have e2:=b1.cell c7;have e3:=b1.cell g0;have e4:=b1.cell g1;have F1:Hid (Fr w0.heap.size g.T wr w1):=Fr.trans (Fr.drew (Fr.refl _ _ _)) f1;clear f1 b1)
      | (go_at_call 55;refine (bk w0 g HC.out.k p h false _ h1).mono ?_;rintro e w2 ⟨he,h2,f2⟩;rw [RD.out] at he;subst he;rw [rS.out] at h2;have FF:Hid (Fr w0.heap.size g.T wr w2):=F1.out.trans f2;obtain ⟨a0,a1⟩:=Rz.out w2 FF.out;have a2:=V8.out w2 FF.out;obtain ⟨a3,a4⟩:=V9.out w2 FF.out))
    go_wp2
    go_ret
    refine ⟨aj ?_,?_,(Fr.old cI Ci.out).trans FF.out⟩
    ·rw [HB.out];rfl
    ·rw [HE.out];first|(rw [if_pos rfl];exact h2)|(rw [if_pos trivial];exact h2)
   ·have Lc:Hid (h.enterL (l.drop (q+1)) (m.params.drop (q+1))=R):=by rw [Li.out,hO,Bool.true_and];rfl
    go_wp2
    go_region_held3 (fun w'=>w'.cell? ⟨b,off+q*2,none⟩=some (int i64 X.kind)/\w'.cell? ⟨b,off+q*2+1,none⟩=some (int i64 X.n)/\w'.cell? ⟨w.heap.size,0,none⟩=some (.slice (some ⟨b',gj,none⟩) m.params.length pp)/\w'.cell? ⟨b',gj+q*2,none⟩=some (int i64 Y.kind)/\w'.cell? ⟨b',gj+q*2+1,none⟩=some (int i64 Y.cls))
     (go_keep)
     (first
      | (go_at_call 57;refine (jn w0 g p h X Y _ (by first|exact HH.out _ Ci.out.drew|exact HH.out _ Ci.out) HC.out.cls HC.out.tree HV.out).mono ?_;rintro e w1 ⟨he,h1,f1,b1⟩;rw [hO] at he;subst he;have e0:=b1.cell v0;have e1:=b1.cell v1;have e2:=b1.cell c7;have e3:=b1.cell g0;have e4:=b1.cell g1;have B1:Hid (Bl w w1):=Bl.trans Ci.out.drew b1;have B2:Hid (Bl (w.alloc (dH m P CC K pp cc kk)) w1):=Bl.trans Qc.out.drew b1;clear f1 b1)
      | (go_at_call 55;refine (dj w0 g p h _ h1).mono ?_;rintro e w2 ⟨he,eK⟩;rw [qK] at he;subst he;rw [eK];clear eK w2))
    go_wp2
    go_roundw
    case rel=>exact ⟨q+1,by omega,by go_num,B1,B2,by rw [T2.out];exact e2,Lc⟩
    case measure=>simp [intOf];omega
  ·obtain rfl:q=m.params.length:=by omega
   have Wa:R=true:=by
    have:=hr.out
    rw [List.drop_length] at this
    rw [<-this]
    unfold Hp.enterL
    split
    ·rename_i h1 h2;simp at h2
    ·rfl
   subst Wa
   obtain ⟨vo,vx,hv,H⟩:=HH.out wr Ci.out
   have c4:=H.cells.c4
   have f4:=H.free 4
   have HA:Hid (cD w0 g wr p h vo vx hv):=H
   clear H
   by_cases hd:20<=h.calls
   ·have d1:decide (20<=h.calls)=true:=decide_eq_true hd
    go_wp2_with (go_at_call 108;refine (nN w0 g HC.out.k p h 5 _ ⟨vo,vx,hv,HA.out⟩).mono ?_;rintro e w1 ⟨rfl,h1,f1⟩)
    go_ret
    have OU:h.deep=true:=d1
    refine ⟨aj ?_,?_,(Fr.old cI Ci.out).trans f1⟩
    ·rw [HB.out,OU];rfl
    ·rw [HE.out];simp only [if_pos OU];simpa using h1
   ·have d1:decide (20<=h.calls)=false:=decide_eq_false hd
    go_wp2
    go_ret
    have OU:h.deep=false:=d1
    refine ⟨aj ?_,?_,(Fr.old cI Ci.out).trans (HA.out.frSet 4 _)⟩
    ·rw [HB.out,OU];rfl
    ·rw [HE.out,if_neg (by decide),if_neg (by rw [OU];decide)]
     exact ⟨vo,vx,hv,HA.out.set HC.out.k _ rfl rfl rfl⟩
def Fe (w0:World) (g:Ad) (p:Nat) (a:Ca) (A:Option Addr) (w:World) (many:Nat) (h:Hp) (c:aH) (l:List Va) (e:Ending) (w':World):Prop :=
 ∃A1 cW bd,e=.returned (.slice A1 many cW)/\bG a.lb w' A1 l/\Hs w0 g w' p h/\bq w0 w' a c A bd/\Fq w0.heap.size g.T a w w'/\many<=cW
theorem ox (w0:World) (g:Ad) (k:Tk g.T) (p:Nat) (h:Hp) (a:Ca) (c:aH) (many:Nat) (w:World) (A:Option Addr) (cap:Nat) (hH:Hs w0 g w p h) (H:bq w0 w a c A cap) (ho:h.over=false) (hm:many<=c.stk.length) (hs:c.stk.length<=1000) :
  Calls Tryz.prog 56 #[.pointer (some ⟨p,0,none⟩),.pointer (some ⟨a.q,0,none⟩),int i64 (many:Int)] w fun e w' =>
   Fe w0 g p a A w many h (c.cut many) (c.top many) e w':=by
 have HC:Hid (bq w0 w a c A cap):=H
 have HH:Hid (Hs w0 g w p h):=hH
 have c9:=H.cells.c9
 have f9:=H.free 9
 have mJ:=H.cap
 have EM:(!h.over)=true:=by rw [ho];rfl
 obtain ⟨n,hn⟩:∃n,c.stk.length=n+many:=⟨c.stk.length-many,by omega⟩
 have e1:c.top many=c.stk.drop n:=by unfold aH.top;rw [if_pos hm];congr 1;omega
 have e2:c.cut many={ c with stk:=c.stk.take n }:=by unfold aH.cut;rw [if_pos hm];congr 2;omega
 rw [e1,e2]
 clear e1 e2 H hH hm
 have hlt:(c.stk.take n).length=n:=by simp;omega
 have RC:(c.stk.drop n).length=many:=by simp;omega
 have HS:Hid (bG a.lb w A c.stk):=HC.out.stk
 have HN:Hid (c.stk.length=n+many):=hn
 rw [hn] at c9 hs mJ
 clear hn
 go_enter Tryz.func56,Tryz.ntmps56
 go_wp2_with (go_at_call 55;refine (dj w0 g p h _ HH.out).mono ?_;rintro e w1 ⟨he,hw1⟩;rw [EM] at he;subst he;subst hw1)
 ·go_ret
  refine ⟨A,_,n,rfl,Or.inl (by omega),HH.out.cf (HC.out.cf k 9 _),?_,HC.out.fq _ 9 _,by omega⟩
  have hx:=HC.out.setStk (cap':=n) (HS.out.take n) (by omega)
  rw [hlt] at hx
  exact hx
 ·go_ret
  refine ⟨_,_,cap,rfl,?_,HH.out.cf (HC.out.cf k 9 _),?_,HC.out.fq _ 9 _,by omega⟩
  ·rcases HS.out with h0|⟨b,off,cs,f,rfl,-⟩
   ·exact Or.inl (by rw [RC];have:=HN.out;omega)
   ·have e:(⟨b,off,none⟩:Addr).add (n*2)=⟨b,off+n*2,none⟩:=by simp [Addr.add]
    have hx:=HC.out.setStk (cap':=cap) (HS.out.take n) (by omega)
    rw [hlt] at hx
    have hy:=HS.out.drop n
    show bG a.lb _ (some ((⟨b,off,none⟩:Addr).add (n*2))) _
    rw [e]
    refine hy.keep fun b' cs' f' e' n'=>?_
    rw [aA]
    ·exact e'
    ·rintro rfl;rw [HC.out.blk] at e';simp at e'
  ·have hx:=HC.out.setStk (cap':=cap) (HS.out.take n) (by omega)
   rw [hlt] at hx
   exact hx
structure Env (w0:World) (g:Ad) (h:Hp):Prop where
 cw:Cw w0 g h
 may:qa h.file
 mes:eE w0 g.M h.file.methods
 inp:cL w0 g.I h.input
section
variable {w0:World} {g:Ad} {h h':Hp}
theorem Env.of (e:Env w0 g h) (e1:h'.file=h.file) (e2:h'.input=h.input):Env w0 g h' :=
 ⟨⟨e.cw.k,by rw [e1];exact e.cw.cls,by rw [e1];exact e.cw.tree,by rw [e1];exact e.cw.ge,by rw [e1];exact e.cw.le,by rw [e1];exact e.cw.fl⟩,by rw [e1];exact e.may,by rw [e1];exact e.mes,by rw [e2];exact e.inp⟩
theorem Env.le (e:Env w0 g h) (l:Le h h'):Env w0 g h':=e.of l.file l.input
end
def sI (w0:World) (g:Ad) (p n:Nat):Prop :=
 ∀(h:Hp) (m:Me) (P CC K:Option Addr) (pp cc kk:Nat) (A:Option Addr) (ac lb:Nat) (l:List Va) (w:World),
  Hs w0 g w p h->Env w0 g h->h.over=false->h.thrown=-1->Gh 0 h->kZ w0 m P CC K->fw h.file.classes h.file.methods.length m=true->(∀i∈m.code,i.ok)->l.length=m.params.length->(∀v∈l,iO h v)->bG lb w A l->l.length<=ac->(h.fuel-h.sh.steps).toNat<=n ->
  Calls Tryz.prog 26 #[.pointer (some ⟨p,0,none⟩),iW m P CC K pp cc kk,.slice A l.length ac] w fun e w' =>
   e=.returned (iE (fX (bF n) h m l).2)/\Hs w0 g w' p (fX (bF n) h m l).1/\Fr w0.heap.size g.T w w'
theorem ja {A:Option Addr} {l:List Me} (h:eE w A l) {i:Nat} (hi:i<l.length):∃b off P C K p c k,A=some ⟨b,off,none⟩ /\
  (w.cell? ⟨b,off+i*8,none⟩=some (.slice P (nth bO l i).params.length p)/\w.cell? ⟨b,off+i*8+1,none⟩=some (int i64 (nth bO l i).ret.kind)/\w.cell? ⟨b,off+i*8+2,none⟩=some (int i64 (nth bO l i).ret.cls)
  /\ w.cell? ⟨b,off+i*8+3,none⟩=some (int i64 (nth bO l i).stack)/\w.cell? ⟨b,off+i*8+4,none⟩=some (int i64 (nth bO l i).locs)/\w.cell? ⟨b,off+i*8+5,none⟩=some (int i64 (nth bO l i).regs)
  /\ w.cell? ⟨b,off+i*8+6,none⟩=some (.slice C (nth bO l i).code.length c)/\w.cell? ⟨b,off+i*8+7,none⟩=some (.slice K (nth bO l i).hands.length k))/\kZ w (nth bO l i) P C K:=by
 rcases h.2 with h0|⟨b,off,hA,hc⟩
 ·omega
 obtain ⟨P,C,K,p,c,k,h0,h1,h2,h3,h4,h5,h6,h7,h8⟩:=hc i hi
 exact ⟨b,off,P,C,K,p,c,k,hA,⟨h0,h1,h2,h3,h4,h5,h6,h7⟩,h8⟩
structure ep (w:World) (b:Nat) (m:Me) (P C K:Option Addr) (p c k:Nat):Prop where
 blk:w.heap[b]?=some (dH m P C K p c k)
structure Ff (w:World) (b:Nat) (m:Me) (P C K:Option Addr) (p c k:Nat):Prop where
 c0:w.cell? ⟨b,0,none⟩=some (.slice P m.params.length p)
 c1:w.cell? ⟨b,1,none⟩=some (int i64 m.ret.kind)
 c2:w.cell? ⟨b,2,none⟩=some (int i64 m.ret.cls)
 c3:w.cell? ⟨b,3,none⟩=some (int i64 m.stack)
 c4:w.cell? ⟨b,4,none⟩=some (int i64 m.locs)
 c5:w.cell? ⟨b,5,none⟩=some (int i64 m.regs)
 c6:w.cell? ⟨b,6,none⟩=some (.slice C m.code.length c)
 c7:w.cell? ⟨b,7,none⟩=some (.slice K m.hands.length k)
theorem ep.cells (h:ep w b m P C K p c k):Ff w b m P C K p c k:=by
 constructor<;>(rw [aa h.blk];rfl)
theorem ep.fr {B:Nat} {T:TypeId} {w':World} (h:ep w b m P C K p c k) (t:Tk T) (f:Fr B T w w'):ep w' b m P C K p c k:=⟨f.keep _ _ _ _ h.blk t.nm⟩
theorem ep.fq {B:Nat} {T:TypeId} {a:Ca} {w':World} (h:ep w b m P C K p c k) (t:Tk T) (f:Fq B T a w w') (h1:b≠a.q) (h2:b≠a.lb):ep w' b m P C K p c k:=⟨f.keep _ _ _ _ h.blk t.nm h1 h2⟩
section
variable (w0:World) (g:Ad) (p:Nat) (h:Hp) (a:Ca) (c:aH) (ia ib ic ii:Int) (Q:Option Addr) (nl q:Nat) (w:World)
theorem Jr (hH:Hs w0 g w p h) (hC:Cs w0 w a c) (E:Env w0 g h) (ho:h.over=false) (eP:c.stk.length<=500) (hp:0<=c.pc/\c.pc<=100000) (pq:0<=ia/\ia<h.file.methods.length) (yQ:(nth bO h.file.methods ia.toNat).params.length<=4) (hl:c.stk.length<(nth bO h.file.methods ia.toNat).params.length) :
  Calls Tryz.prog 58 #[.pointer (some ⟨p,0,none⟩),.pointer (some ⟨a.q,0,none⟩),.agg (cO 19 ia ib ic ii Q nl q)] w fun e w' =>
   e=.returned (int i64 (c.pc+1))/\Hs w0 g w' p (h.fin 6)/\Cs w0 w' a c/\Fq w0.heap.size g.T a w w':=by
 have cI:=hH.base
 obtain ⟨A,cap,H0⟩:=hC
 have cV:a.q<w.heap.size:=af H0.blk
 have gJ:a.lb<w.heap.size:=af H0.loc.blk
 obtain ⟨n,rfl⟩:∃n:Nat,ia=n:=⟨ia.toNat,by omega⟩
 rw [Int.toNat_natCast] at yQ hl
 have kx:n<h.file.methods.length:=by omega
 have jX:=E.mes.1
 unfold maxLen at jX
 obtain ⟨mb,mo,P,CC,K,pp,cc,kk,hM,⟨y0,y1,y2,y3,y4,y5,y6,y7⟩,hme⟩:=ja (E.mes.bl (hH.bl.alloc (.cells (cO 19 (n:Int) ib ic ii Q nl q) 55))) kx
 have hbl:Bl w (w.alloc (.cells (cO 19 (n:Int) ib ic ii Q nl q) 55)):=(Bl.refl w).alloc _
 have kr:mb<w.heap.size:=by
  rcases E.mes.2 with h0|⟨b,off,hb,hc⟩
  ·omega
  ·rw [hM] at hb
   simp only [Option.some.injEq,Addr.mk.injEq] at hb
   obtain ⟨rfl,rfl,-⟩:=hb
   obtain ⟨_,_,_,_,_,_,h0,_⟩:=hc n kx
   have:=bC h0
   omega
 have HK:Hid (Tk g.T):=E.cw.k
 have c1:(w.alloc (.cells (cO 19 (n:Int) ib ic ii Q nl q) 55)).cell? ⟨p,1,none⟩=some (.slice (some ⟨mb,mo,none⟩) h.file.methods.length g.m):=by
  obtain ⟨vo,vx,hv,X⟩:=hH.old hbl
  rw [<-hM];exact X.cells.c1
 have RN:p<w.heap.size:=by obtain ⟨vo,vx,hv,X⟩:=hH;exact af X.blk
 have HI:Hid (cJ (w.alloc (.cells (cO 19 (n:Int) ib ic ii Q nl q) 55)) w.heap.size 19 (n:Int) ib ic ii):=⟨_,cd rfl⟩
 have j1:=HI.out.c1
 have d10:=(H0.old hbl).cells.c10
 have kv:(0:Int)<=(n:Int):=by omega
 have kg:(n:Int)<(h.file.methods.length:Int):=by omega
 have Dk:=hH
 have Jf:=H0
 have br:=ho
 clear hH H0 hbl ho E hM hme pq
 generalize hX:nth bO h.file.methods n=M at *
 clear hX
 have l9:Hid ((h.fin 6).over=true):=cC br
 go_enter Tryz.func58,Tryz.ntmps58
 go_wp2
 go_region_held3 (fun w'=>w'.cell? ⟨p,1,none⟩=some (.slice (some ⟨mb,mo,none⟩) h.file.methods.length g.m)/\w'.cell? ⟨w.heap.size,1,none⟩=some (int i64 (n:Int))/\w'.cell? ⟨mb,mo+n*8,none⟩=some (.slice P M.params.length pp)/\w'.cell? ⟨mb,mo+n*8+1,none⟩=some (int i64 M.ret.kind)/\w'.cell? ⟨mb,mo+n*8+2,none⟩=some (int i64 M.ret.cls)/\w'.cell? ⟨mb,mo+n*8+3,none⟩=some (int i64 M.stack)/\w'.cell? ⟨mb,mo+n*8+4,none⟩=some (int i64 M.locs)/\w'.cell? ⟨mb,mo+n*8+5,none⟩=some (int i64 M.regs)/\w'.cell? ⟨mb,mo+n*8+6,none⟩=some (.slice CC M.code.length cc)/\w'.cell? ⟨mb,mo+n*8+7,none⟩=some (.slice K M.hands.length kk))
  (go_keep)
  (fail)
 have hb1:Bl w ((w.alloc (.cells (cO 19 (n:Int) ib ic ii Q nl q) 55)).alloc (dH M P CC K pp cc kk)).drew:=(((Bl.refl w).alloc _).alloc _).drew
 have Ah:Hid (Hs w0 g ((w.alloc (.cells (cO 19 (n:Int) ib ic ii Q nl q) 55)).alloc (dH M P CC K pp cc kk)).drew p h):=Dk.old hb1
 have E0:Hid (bq w0 ((w.alloc (.cells (cO 19 (n:Int) ib ic ii Q nl q) 55)).alloc (dH M P CC K pp cc kk)).drew a c A cap):=Jf.old hb1
 have E1:Hid (Fr w0.heap.size g.T w ((w.alloc (.cells (cO 19 (n:Int) ib ic ii Q nl q) 55)).alloc (dH M P CC K pp cc kk)).drew):=Fr.old cI hb1
 have vF:Hid (ep ((w.alloc (.cells (cO 19 (n:Int) ib ic ii Q nl q) 55)).alloc (dH M P CC K pp cc kk)).drew (w.heap.size+1) M P CC K pp cc kk):=⟨cd (by simp)⟩
 clear hb1
 go_wp2_with (go_at_call 56;refine (dK w0 g HK.out p h a c M.params.length _ A cap Ah.out E0.out br hl yQ).mono ?_;rintro e w1 ⟨A1,cW,bd,rfl,de,h1,c1,f1,-⟩;have iH:w1.cell? ⟨p,12,none⟩=some (.bool true):=(by obtain ⟨vo,vx,hv,X⟩:=h1;rw [X.cells.c12,l9.out]))
 go_ret
 exact ⟨rfl,h1,⟨A,bd,c1⟩,E1.out.fq.trans f1⟩
theorem Fg (hH:Hs w0 g w p h) (hC:Cs w0 w a c) (E:Env w0 g h) (ho:h.over=false) (eP:c.stk.length<=500) (hp:0<=c.pc/\c.pc<=100000) (pq:0<=ia/\ia<h.file.methods.length) (yQ:(nth bO h.file.methods ia.toNat).params.length<=4) (hl:(nth bO h.file.methods ia.toNat).params.length<=c.stk.length) (N:Nat) (IH:sI w0 g p N) (gh:Gh 0 h) (iX:h.thrown=-1) (gc:Gc h c) (hN:(h.fuel-h.sh.steps).toNat<=N) :
  Calls Tryz.prog 58 #[.pointer (some ⟨p,0,none⟩),.pointer (some ⟨a.q,0,none⟩),.agg (cO 19 ia ib ic ii Q nl q)] w fun e w' =>
   e=.returned (int i64 (c.pc+1))/\Hs w0 g w' p (if ((fX (bF N) h (nth bO h.file.methods ia.toNat) (c.top (nth bO h.file.methods ia.toNat).params.length)).1.stops=false/\(nth bO h.file.methods ia.toNat).ret.kind≠0) then (fX (bF N) h (nth bO h.file.methods ia.toNat) (c.top (nth bO h.file.methods ia.toNat).params.length)).1.putH (c.cut (nth bO h.file.methods ia.toNat).params.length) (fX (bF N) h (nth bO h.file.methods ia.toNat) (c.top (nth bO h.file.methods ia.toNat).params.length)).2 else (fX (bF N) h (nth bO h.file.methods ia.toNat) (c.top (nth bO h.file.methods ia.toNat).params.length)).1)/\Cs w0 w' a (if ((fX (bF N) h (nth bO h.file.methods ia.toNat) (c.top (nth bO h.file.methods ia.toNat).params.length)).1.stops=false/\(nth bO h.file.methods ia.toNat).ret.kind≠0) then (c.cut (nth bO h.file.methods ia.toNat).params.length).put (fX (bF N) h (nth bO h.file.methods ia.toNat) (c.top (nth bO h.file.methods ia.toNat).params.length)).2 else c.cut (nth bO h.file.methods ia.toNat).params.length)/\Fq w0.heap.size g.T a w w':=by
 have cI:=hH.base
 obtain ⟨A,cap,H0⟩:=hC
 have cV:a.q<w.heap.size:=af H0.blk
 have gJ:a.lb<w.heap.size:=af H0.loc.blk
 obtain ⟨n,rfl⟩:∃n:Nat,ia=n:=⟨ia.toNat,by omega⟩
 rw [Int.toNat_natCast] at yQ hl ⊢
 have kx:n<h.file.methods.length:=by omega
 have jX:=E.mes.1
 unfold maxLen at jX
 obtain ⟨mb,mo,P,CC,K,pp,cc,kk,hM,⟨y0,y1,y2,y3,y4,y5,y6,y7⟩,hme⟩:=ja (E.mes.bl (hH.bl.alloc (.cells (cO 19 (n:Int) ib ic ii Q nl q) 55))) kx
 have hbl:Bl w (w.alloc (.cells (cO 19 (n:Int) ib ic ii Q nl q) 55)):=(Bl.refl w).alloc _
 have kr:mb<w.heap.size:=by
  rcases E.mes.2 with h0|⟨b,off,hb,hc⟩
  ·omega
  ·rw [hM] at hb
   simp only [Option.some.injEq,Addr.mk.injEq] at hb
   obtain ⟨rfl,rfl,-⟩:=hb
   obtain ⟨_,_,_,_,_,_,h0,_⟩:=hc n kx
   have:=bC h0
   omega
 have HK:Hid (Tk g.T):=E.cw.k
 have c1:(w.alloc (.cells (cO 19 (n:Int) ib ic ii Q nl q) 55)).cell? ⟨p,1,none⟩=some (.slice (some ⟨mb,mo,none⟩) h.file.methods.length g.m):=by
  obtain ⟨vo,vx,hv,X⟩:=hH.old hbl
  rw [<-hM];exact X.cells.c1
 have RN:p<w.heap.size:=by obtain ⟨vo,vx,hv,X⟩:=hH;exact af X.blk
 have HI:Hid (cJ (w.alloc (.cells (cO 19 (n:Int) ib ic ii Q nl q) 55)) w.heap.size 19 (n:Int) ib ic ii):=⟨_,cd rfl⟩
 have j1:=HI.out.c1
 have d10:=(H0.old hbl).cells.c10
 have kv:(0:Int)<=(n:Int):=by omega
 have kg:(n:Int)<(h.file.methods.length:Int):=by omega
 have wU:=E.may _ (bJ (d:=bO) kx)
 have OV:kZ w0 (nth bO h.file.methods n) P CC K:=by
  obtain ⟨Yh,Yi,P',C',K',p',c',k',RO,⟨z0,-,-,-,-,-,z6,z7⟩,RP⟩:=ja E.mes kx
  rw [hM] at RO
  simp only [Option.some.injEq,Addr.mk.injEq] at RO
  obtain ⟨rfl,rfl,-⟩:=RO
  have hbw:=hH.bl.alloc (.cells (cO 19 (n:Int) ib ic ii Q nl q) 55)
  have a0:=(hbw.cell z0).symm.trans y0
  have a6:=(hbw.cell z6).symm.trans y6
  have a7:=(hbw.cell z7).symm.trans y7
  simp only [Option.some.injEq,Value.slice.injEq] at a0 a6 a7
  obtain ⟨rfl,-,-⟩:=a0
  obtain ⟨rfl,-,-⟩:=a6
  obtain ⟨rfl,-,-⟩:=a7
  exact RP
 have HR:Hid (∀(A1:Option Addr) (ac lb:Nat) (w1:World),Hs w0 g w1 p h->bG lb w1 A1 (c.top (nth bO h.file.methods n).params.length)->(nth bO h.file.methods n).params.length<=ac->Calls Tryz.prog 26 #[.pointer (some ⟨p,0,none⟩),iW (nth bO h.file.methods n) P CC K pp cc kk,.slice A1 (nth bO h.file.methods n).params.length ac] w1 fun e w' =>
   e=.returned (iE (fX (bF N) h (nth bO h.file.methods n) (c.top (nth bO h.file.methods n).params.length)).2)/\Hs w0 g w' p (fX (bF N) h (nth bO h.file.methods n) (c.top (nth bO h.file.methods n).params.length)).1/\Fr w0.heap.size g.T w1 w'):=fun A1 ac lb w1 xU de Qk=>by
  have:=IH h (nth bO h.file.methods n) P CC K pp cc kk A1 ac lb (c.top (nth bO h.file.methods n).params.length) w1 xU E ho iX gh OV wU.1 wU.2 (aC _ _) (fun v hv=>by
   have e:c.top (nth bO h.file.methods n).params.length=c.stk.drop (c.stk.length-(nth bO h.file.methods n).params.length):=by unfold aH.top;rw [if_pos hl]
   rw [e] at hv
   exact gc.stk v (List.mem_of_mem_drop hv)) de (by rw [aC];exact Qk) hN
  rw [aC] at this
  exact this
 clear wU OV IH gh iX gc hN
 have Dk:=hH
 have Jf:=H0
 have br:=ho
 clear hH H0 hbl ho E hM hme pq
 generalize hX:nth bO h.file.methods n=M at *
 clear hX
 generalize ND:(fX (bF N) h M (c.top M.params.length)).1=R1 at *
 generalize qy:(fX (bF N) h M (c.top M.params.length)).2=R2 at *
 clear ND qy
 have n3:w.heap.size+1≠a.q:=by omega
 have n4:w.heap.size+1≠a.lb:=by omega
 have hle:(c.cut M.params.length).stk.length<=1000:=by have:=eW c M.params.length;omega
 have hs:c.stk.length<=1000:=by omega
 cases hst:R1.stops
 ·by_cases hk:M.ret.kind=0
  ·rw [if_neg (by omega),if_neg (by omega)]
   have hz:(M.ret.kind !=0)=false:=by simpa using hk
   clear hk
   go_enter Tryz.func58,Tryz.ntmps58
   go_wp2
   go_region_held3 (fun w'=>w'.cell? ⟨p,1,none⟩=some (.slice (some ⟨mb,mo,none⟩) h.file.methods.length g.m)/\w'.cell? ⟨w.heap.size,1,none⟩=some (int i64 (n:Int))/\w'.cell? ⟨mb,mo+n*8,none⟩=some (.slice P M.params.length pp)/\w'.cell? ⟨mb,mo+n*8+1,none⟩=some (int i64 M.ret.kind)/\w'.cell? ⟨mb,mo+n*8+2,none⟩=some (int i64 M.ret.cls)/\w'.cell? ⟨mb,mo+n*8+3,none⟩=some (int i64 M.stack)/\w'.cell? ⟨mb,mo+n*8+4,none⟩=some (int i64 M.locs)/\w'.cell? ⟨mb,mo+n*8+5,none⟩=some (int i64 M.regs)/\w'.cell? ⟨mb,mo+n*8+6,none⟩=some (.slice CC M.code.length cc)/\w'.cell? ⟨mb,mo+n*8+7,none⟩=some (.slice K M.hands.length kk))
    (go_keep)
    (fail)
   have hb1:Bl w ((w.alloc (.cells (cO 19 (n:Int) ib ic ii Q nl q) 55)).alloc (dH M P CC K pp cc kk)).drew:=(((Bl.refl w).alloc _).alloc _).drew
   have Ah:Hid (Hs w0 g ((w.alloc (.cells (cO 19 (n:Int) ib ic ii Q nl q) 55)).alloc (dH M P CC K pp cc kk)).drew p h):=Dk.old hb1
   have E0:Hid (bq w0 ((w.alloc (.cells (cO 19 (n:Int) ib ic ii Q nl q) 55)).alloc (dH M P CC K pp cc kk)).drew a c A cap):=Jf.old hb1
   have E1:Hid (Fr w0.heap.size g.T w ((w.alloc (.cells (cO 19 (n:Int) ib ic ii Q nl q) 55)).alloc (dH M P CC K pp cc kk)).drew):=Fr.old cI hb1
   have vF:Hid (ep ((w.alloc (.cells (cO 19 (n:Int) ib ic ii Q nl q) 55)).alloc (dH M P CC K pp cc kk)).drew (w.heap.size+1) M P CC K pp cc kk):=⟨cd (by simp)⟩
   clear hb1
   go_wp2_with (first
    | (go_at_call 56;refine (ox w0 g HK.out p h a c M.params.length _ A cap Ah.out E0.out br hl hs).mono ?_;rintro e w1 ⟨A1,cW,bd,rfl,de,h1,c1,f1,wV⟩;have iH:w1.cell? ⟨p,12,none⟩=some (.bool false):=(by obtain ⟨vo,vx,hv,X⟩:=h1;rw [X.cells.c12,br]);have M2:Hid (ep w1 (w.heap.size+1) M P CC K pp cc kk):=vF.out.fq HK.out f1 n3 n4;have x0:=M2.out.cells.c0;have x1:=M2.out.cells.c1;have x2:=M2.out.cells.c2;have x3:=M2.out.cells.c3;have x4:=M2.out.cells.c4;have x5:=M2.out.cells.c5;have x6:=M2.out.cells.c6;have x7:=M2.out.cells.c7;have H1:Hid (Hs w0 g w1 p h):=h1;have S1:Hid (bG a.lb w1 A1 (c.top M.params.length)):=de;clear h1 de)
    | (go_at_call 26;refine (HR.out A1 cW a.lb _ H1.out S1.out wV).mono ?_;rintro e w2 ⟨rfl,h2,f2⟩;have dB:=h2.base;have M3:=M2.out.fr HK.out f2;have z1:=M3.cells.c1;have T3:=af M3.blk;clear M3;have bb:Bl w2 (w2.alloc (cT R2)):=(Bl.refl w2).alloc _;have H2:Hid (Hs w0 g (w2.alloc (cT R2)) p R1):=h2.old bb;have C2:Hid (bq w0 (w2.alloc (cT R2)) a (c.cut M.params.length) A bd):=(c1.fr HK.out f2).old bb;have F2:Hid (Fq w0.heap.size g.T a w (w2.alloc (cT R2))):=((E1.out.fq.trans f1).trans f2.fq).trans (Fr.fq (Fr.old dB bb));have z2:=bb.cell z1;clear h2 f2 bb)
    | (go_at_call 112;refine (gQ w0 g p R1 _ H2.out).mono ?_;rintro e w4 ⟨he,sF⟩;rw [hst] at he;subst he;rw [sF];clear sF w4))
   go_ret
   exact ⟨rfl,H2.out,⟨A,bd,C2.out⟩,F2.out⟩
  ·rw [if_pos ⟨rfl,hk⟩,if_pos ⟨rfl,hk⟩]
   have hz:(M.ret.kind !=0)=true:=by simpa using hk
   clear hk
   go_enter Tryz.func58,Tryz.ntmps58
   go_wp2
   go_region_held3 (fun w'=>w'.cell? ⟨p,1,none⟩=some (.slice (some ⟨mb,mo,none⟩) h.file.methods.length g.m)/\w'.cell? ⟨w.heap.size,1,none⟩=some (int i64 (n:Int))/\w'.cell? ⟨mb,mo+n*8,none⟩=some (.slice P M.params.length pp)/\w'.cell? ⟨mb,mo+n*8+1,none⟩=some (int i64 M.ret.kind)/\w'.cell? ⟨mb,mo+n*8+2,none⟩=some (int i64 M.ret.cls)/\w'.cell? ⟨mb,mo+n*8+3,none⟩=some (int i64 M.stack)/\w'.cell? ⟨mb,mo+n*8+4,none⟩=some (int i64 M.locs)/\w'.cell? ⟨mb,mo+n*8+5,none⟩=some (int i64 M.regs)/\w'.cell? ⟨mb,mo+n*8+6,none⟩=some (.slice CC M.code.length cc)/\w'.cell? ⟨mb,mo+n*8+7,none⟩=some (.slice K M.hands.length kk))
    (go_keep)
    (fail)
   have hb1:Bl w ((w.alloc (.cells (cO 19 (n:Int) ib ic ii Q nl q) 55)).alloc (dH M P CC K pp cc kk)).drew:=(((Bl.refl w).alloc _).alloc _).drew
   have Ah:Hid (Hs w0 g ((w.alloc (.cells (cO 19 (n:Int) ib ic ii Q nl q) 55)).alloc (dH M P CC K pp cc kk)).drew p h):=Dk.old hb1
   have E0:Hid (bq w0 ((w.alloc (.cells (cO 19 (n:Int) ib ic ii Q nl q) 55)).alloc (dH M P CC K pp cc kk)).drew a c A cap):=Jf.old hb1
   have E1:Hid (Fr w0.heap.size g.T w ((w.alloc (.cells (cO 19 (n:Int) ib ic ii Q nl q) 55)).alloc (dH M P CC K pp cc kk)).drew):=Fr.old cI hb1
   have vF:Hid (ep ((w.alloc (.cells (cO 19 (n:Int) ib ic ii Q nl q) 55)).alloc (dH M P CC K pp cc kk)).drew (w.heap.size+1) M P CC K pp cc kk):=⟨cd (by simp)⟩
   clear hb1
   go_wp2_with (first
    | (go_at_call 56;refine (ox w0 g HK.out p h a c M.params.length _ A cap Ah.out E0.out br hl hs).mono ?_;rintro e w1 ⟨A1,cW,bd,rfl,de,h1,c1,f1,wV⟩;have iH:w1.cell? ⟨p,12,none⟩=some (.bool false):=(by obtain ⟨vo,vx,hv,X⟩:=h1;rw [X.cells.c12,br]);have M2:Hid (ep w1 (w.heap.size+1) M P CC K pp cc kk):=vF.out.fq HK.out f1 n3 n4;have x0:=M2.out.cells.c0;have x1:=M2.out.cells.c1;have x2:=M2.out.cells.c2;have x3:=M2.out.cells.c3;have x4:=M2.out.cells.c4;have x5:=M2.out.cells.c5;have x6:=M2.out.cells.c6;have x7:=M2.out.cells.c7;have H1:Hid (Hs w0 g w1 p h):=h1;have S1:Hid (bG a.lb w1 A1 (c.top M.params.length)):=de;clear h1 de)
    | (go_at_call 26;refine (HR.out A1 cW a.lb _ H1.out S1.out wV).mono ?_;rintro e w2 ⟨rfl,h2,f2⟩;have dB:=h2.base;have M3:=M2.out.fr HK.out f2;have z1:=M3.cells.c1;have T3:=af M3.blk;clear M3;have bb:Bl w2 (w2.alloc (cT R2)):=(Bl.refl w2).alloc _;have H2:Hid (Hs w0 g (w2.alloc (cT R2)) p R1):=h2.old bb;have C2:Hid (bq w0 (w2.alloc (cT R2)) a (c.cut M.params.length) A bd):=(c1.fr HK.out f2).old bb;have F2:Hid (Fq w0.heap.size g.T a w (w2.alloc (cT R2))):=((E1.out.fq.trans f1).trans f2.fq).trans (Fr.fq (Fr.old dB bb));have z2:=bb.cell z1;clear h2 f2 bb)
    | (go_at_call 112;refine (gQ w0 g p R1 _ H2.out).mono ?_;rintro e w4 ⟨he,sF⟩;rw [hst] at he;subst he;rw [sF];clear sF w4)
    | (go_at_call 60;refine (km w0 g HK.out p R1 a (c.cut M.params.length) R2 _ H2.out ⟨A,bd,C2.out⟩ hle).mono ?_;rintro e w5 ⟨rfl,h5,c5,f5⟩))
   go_ret
   exact ⟨rfl,h5,c5,F2.out.trans f5⟩
 ·rw [if_neg (by simp),if_neg (by simp)]
  go_enter Tryz.func58,Tryz.ntmps58
  go_wp2
  go_region_held3 (fun w'=>w'.cell? ⟨p,1,none⟩=some (.slice (some ⟨mb,mo,none⟩) h.file.methods.length g.m)/\w'.cell? ⟨w.heap.size,1,none⟩=some (int i64 (n:Int))/\w'.cell? ⟨mb,mo+n*8,none⟩=some (.slice P M.params.length pp)/\w'.cell? ⟨mb,mo+n*8+1,none⟩=some (int i64 M.ret.kind)/\w'.cell? ⟨mb,mo+n*8+2,none⟩=some (int i64 M.ret.cls)/\w'.cell? ⟨mb,mo+n*8+3,none⟩=some (int i64 M.stack)/\w'.cell? ⟨mb,mo+n*8+4,none⟩=some (int i64 M.locs)/\w'.cell? ⟨mb,mo+n*8+5,none⟩=some (int i64 M.regs)/\w'.cell? ⟨mb,mo+n*8+6,none⟩=some (.slice CC M.code.length cc)/\w'.cell? ⟨mb,mo+n*8+7,none⟩=some (.slice K M.hands.length kk))
   (go_keep)
   (fail)
  have hb1:Bl w ((w.alloc (.cells (cO 19 (n:Int) ib ic ii Q nl q) 55)).alloc (dH M P CC K pp cc kk)).drew:=(((Bl.refl w).alloc _).alloc _).drew
  have Ah:Hid (Hs w0 g ((w.alloc (.cells (cO 19 (n:Int) ib ic ii Q nl q) 55)).alloc (dH M P CC K pp cc kk)).drew p h):=Dk.old hb1
  have E0:Hid (bq w0 ((w.alloc (.cells (cO 19 (n:Int) ib ic ii Q nl q) 55)).alloc (dH M P CC K pp cc kk)).drew a c A cap):=Jf.old hb1
  have E1:Hid (Fr w0.heap.size g.T w ((w.alloc (.cells (cO 19 (n:Int) ib ic ii Q nl q) 55)).alloc (dH M P CC K pp cc kk)).drew):=Fr.old cI hb1
  have vF:Hid (ep ((w.alloc (.cells (cO 19 (n:Int) ib ic ii Q nl q) 55)).alloc (dH M P CC K pp cc kk)).drew (w.heap.size+1) M P CC K pp cc kk):=⟨cd (by simp)⟩
  clear hb1
  go_wp2_with (first
   | (go_at_call 56;refine (ox w0 g HK.out p h a c M.params.length _ A cap Ah.out E0.out br hl hs).mono ?_;rintro e w1 ⟨A1,cW,bd,rfl,de,h1,c1,f1,wV⟩;have iH:w1.cell? ⟨p,12,none⟩=some (.bool false):=(by obtain ⟨vo,vx,hv,X⟩:=h1;rw [X.cells.c12,br]);have M2:Hid (ep w1 (w.heap.size+1) M P CC K pp cc kk):=vF.out.fq HK.out f1 n3 n4;have x0:=M2.out.cells.c0;have x1:=M2.out.cells.c1;have x2:=M2.out.cells.c2;have x3:=M2.out.cells.c3;have x4:=M2.out.cells.c4;have x5:=M2.out.cells.c5;have x6:=M2.out.cells.c6;have x7:=M2.out.cells.c7;have H1:Hid (Hs w0 g w1 p h):=h1;have S1:Hid (bG a.lb w1 A1 (c.top M.params.length)):=de;clear h1 de)
   | (go_at_call 26;refine (HR.out A1 cW a.lb _ H1.out S1.out wV).mono ?_;rintro e w2 ⟨rfl,h2,f2⟩;have dB:=h2.base;have M3:=M2.out.fr HK.out f2;have z1:=M3.cells.c1;have T3:=af M3.blk;clear M3;have bb:Bl w2 (w2.alloc (cT R2)):=(Bl.refl w2).alloc _;have H2:Hid (Hs w0 g (w2.alloc (cT R2)) p R1):=h2.old bb;have C2:Hid (bq w0 (w2.alloc (cT R2)) a (c.cut M.params.length) A bd):=(c1.fr HK.out f2).old bb;have F2:Hid (Fq w0.heap.size g.T a w (w2.alloc (cT R2))):=((E1.out.fq.trans f1).trans f2.fq).trans (Fr.fq (Fr.old dB bb));have z2:=bb.cell z1;clear h2 f2 bb)
   | (go_at_call 112;refine (gQ w0 g p R1 _ H2.out).mono ?_;rintro e w4 ⟨he,sF⟩;rw [hst] at he;subst he;rw [sF];clear sF w4))
  go_ret
  exact ⟨rfl,H2.out,⟨A,bd,C2.out⟩,F2.out⟩
end
theorem Fh (w0:World) (g:Ad) (p:Nat) (h:Hp) (a:Ca) (c:aH) (i:In) (Q:Option Addr) (nl q:Nat) (w:World) (hH:Hs w0 g w p h) (hC:Cs w0 w a c) (E:Env w0 g h) (ho:h.over=false) (eP:c.stk.length<=500) (hp:0<=c.pc/\c.pc<=100000) (hop:i.op=19) (pq:0<=i.a/\i.a<h.file.methods.length) (N:Nat) (IH:sI w0 g p N) (gh:Gh 0 h) (iX:h.thrown=-1) (gc:Gc h c) (hN:(h.fuel-h.sh.steps).toNat<=N) :
  Calls Tryz.prog 58 #[.pointer (some ⟨p,0,none⟩),.pointer (some ⟨a.q,0,none⟩),.agg (cO i.op i.a i.b i.c i.n Q nl q)] w fun e w' =>
   e=.returned (int i64 (gZ (bF N) h c i).nx)/\Hs w0 g w' p (gZ (bF N) h c i).h/\Cs w0 w' a (gZ (bF N) h c i).c/\Fq w0.heap.size g.T a w w':=by
 have yQ:(nth bO h.file.methods i.a.toNat).params.length<=4:=(jh (E.may _ (bJ (by omega))).1).2.2.2.2.1
 rw [hop]
 unfold gZ
 dsimp only
 by_cases hl:(nth bO h.file.methods i.a.toNat).params.length<=c.stk.length
 ·rw [cG hl,if_neg (by rw [ho];decide)]
  have:=Fg w0 g p h a c i.a i.b i.c i.n Q nl q w hH hC E ho eP hp pq yQ hl N IH gh iX gc hN
  split
  ·rename_i hx;rw [if_pos hx,if_pos hx] at this;exact this
  ·rename_i hx;rw [if_neg hx,if_neg hx] at this;exact this
 ·rw [cR hl,fJ hl,if_pos (cC ho)]
  exact Jr w0 g p h a c i.a i.b i.c i.n Q nl q w hH hC E ho eP hp pq yQ (by omega)
def Ck (N:Nat) (h:Hp) (c:aH) (i:In):jE:=if i.op=19 then gZ (bF N) h c i else aM h c i
theorem Js {N:Nat} {h:Hp} {c:aH} {i:In} (hmay:qa h.file) (gh:Gh 1 h) (gc:Gc h c) (ho:h.over=false) (iX:h.thrown=-1) (ok:vV h.file.classes h.file.methods.length c.m.code.length c.locs.length i) (Bd:i.ok) (hp:0<=c.pc/\c.pc<c.m.code.length):Kept h c (Ck N h c i):=by
 unfold Ck;split
 ·rename_i e
  exact sd (se h.file hmay N) rfl gh.less gc ho iX hmay (ok.call e) hp
 ·exact kf gh gc ho iX ok Bd hp
theorem Mx (w0:World) (g:Ad) (p:Nat) (h:Hp) (a:Ca) (c:aH) (i:In) (Q:Option Addr) (nl q:Nat) (w:World) (hH:Hs w0 g w p h) (hC:Cs w0 w a c) (E:Env w0 g h) (ho:h.over=false) (hp:0<=c.pc/\c.pc<c.m.code.length) (oW:i.op≠20) (N:Nat) (IH:sI w0 g p N) (gh:Gh 1 h) (iX:h.thrown=-1) (gc:Gc h c) (ok:vV h.file.classes h.file.methods.length c.m.code.length c.locs.length i) (hN:(h.fuel-h.sh.steps).toNat<=N) :
  Calls Tryz.prog 58 #[.pointer (some ⟨p,0,none⟩),.pointer (some ⟨a.q,0,none⟩),.agg (cO i.op i.a i.b i.c i.n Q nl q)] w fun e w' =>
   e=.returned (int i64 (Ck N h c i).nx)/\Hs w0 g w' p (Ck N h c i).h/\Cs w0 w' a (Ck N h c i).c/\Fq w0.heap.size g.T a w w':=by
 have hs:=gc.short
 have hcl:=(jh gc.me).2.2.2.2.2.2.1
 have Jc:=gh.out
 have hst:=gh.steps
 have Yj:=gh.fuel
 unfold Ck;split
 ·rename_i e
  exact Fh w0 g p h a c i Q nl q w hH hC E ho (by omega) (by omega) e (ok.call e) N IH gh.less iX gc hN
 ·rename_i e
  exact Fa w0 g p h a c i Q nl q w hH hC E.cw ho (by omega) (by omega) h.file.methods.length c.m.code.length ok e oW gc.stk gc.ok E.inp gh.used (by omega)
theorem Fj (k:Int) (h0:0<=k) (hn:k<=1000000) (u:World):(Instr.makeSlice 58 (int i64 k) (int i64 k)).run Tryz.prog u=.ok (.slice (some ⟨u.heap.size,0,none⟩) k.toNat k.toNat) (u.alloc (.cells (aL (List.replicate k.toNat ag)).toArray 62)):=by
 have:=zu k.toNat (by omega) u
 rw [Int.toNat_of_nonneg h0] at this
 exact this
theorem My (w0:World) (g:Ad) (p:Nat) (h:Hp) (m:Me) (P CC K:Option Addr) (pp cc kk:Nat) (A:Option Addr) (ac lb:Nat) (l:List Va) (w:World) (hH:Hs w0 g w p h) (E:Env w0 g h) (ho:h.over=false) (gh:Gh 0 h) (hme:kZ w0 m P CC K) (hl:l.length=m.params.length) (hg:∀v∈l,iO h v) (hA:bG lb w A l) (hb:h.enterB m l=false) :
  Calls Tryz.prog 26 #[.pointer (some ⟨p,0,none⟩),iW m P CC K pp cc kk,.slice A l.length ac] w fun e w'=>e=.returned (iE ag)/\Hs w0 g w' p (h.enterH m l)/\Fr w0.heap.size g.T w w':=by
 have cI:=hH.base
 have hbl:Bl w ((w.alloc (dH m P CC K pp cc kk)).alloc iy):=((Bl.refl w).alloc _).alloc _
 have HF:Hid (Fr w0.heap.size g.T w ((w.alloc (dH m P CC K pp cc kk)).alloc iy)):=Fr.old cI hbl
 have HH:Hid (Hs w0 g ((w.alloc (dH m P CC K pp cc kk)).alloc iy) p h):=hH.old hbl
 have HR:Hid (aP ((w.alloc (dH m P CC K pp cc kk)).alloc iy) (w.heap.size+1) ag):=⟨cd (by simp)⟩
 have HA:Hid (bG lb ((w.alloc (dH m P CC K pp cc kk)).alloc iy) A l):=hA.keep fun b cs f e _=>(hbl.block _ (af e)).trans e
 have HK:Hid (Tk g.T):=E.cw.k
 have HC:Hid (Cw w0 g h):=E.cw
 have HP:Hid (dp w0 P m.params):=hme.1
 have HL:Hid (l.length=m.params.length):=hl
 have HG:Hid (∀v∈l,v.kind=3->v.n<h.objs.length):=fun v hv e=>((hg v hv).ref e).2
 have HB:Hid (h.enterB m l=false):=hb
 have hcl:=gh.calls
 have bN:w0.heap.size<=w.heap.size+1:=by omega
 have bV:w.heap.size<=w.heap.size+1:=by omega
 clear hH E hme hl hg hA hb hbl gh
 go_enter Tryz.func26,Tryz.ntmps26
 go_wp2_with (go_at_call 51;refine (sH w0 g p h m P CC K pp cc kk A ac lb l _ HH.out HC.out ho HP.out HL.out HA.out HG.out hcl).mono ?_;rintro e w1 ⟨he,h1,f1⟩;rw [HB.out] at he;subst he;have b1:=HR.out.keep HK.out f1;have r0:=b1.c0;have r1:=b1.c1;have r2:=b1.fr 0;have r3:=b1.fr 1;have kW:Hid (aP w1 (w.heap.size+1) ag):=b1;clear b1)
 (try simp only [Exit.inBlock,Exit.then])
 refine bodyPost_ret (results_cell_row rfl _ _ (w.heap.size+1) _ _ _ _ rfl (kW.out.set ag).blk Tryz.underlying62 rfl bp) rfl ?_
 exact ⟨rfl,h1.cf (kW.out.cf HK.out bN _ _),((HF.out.trans f1).new bV bN _).new bV bN _⟩
end Go.Proofs.YtgiiapenmjollaaGreat
