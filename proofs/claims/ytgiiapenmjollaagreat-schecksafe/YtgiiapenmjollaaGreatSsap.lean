import Derived.Test.YtgiiapenmjollaaGreatSsan
import Derived.Test.YtgiiapenmjollaaGreatSsao
namespace Go.Proofs.YtgiiapenmjollaaGreat
set_option linter.all false
set_option maxHeartbeats 40000000
set_option maxRecDepth 100000
open Go.RowKit
def putsB (op:Int):Prop:=op=1∨op=2∨op=3∨op=6∨op=7∨op=8∨op=9∨op=10∨op=14∨op=15∨op=17∨op=18∨op=25
theorem gives_any (w0:World) (g:Ad) (p:Nat) (h:Hp) (a:Ca) (c:Cal) (i:In) (Q:Option Addr) (nl q:Nat) (w:World) (hH:Hs w0 g w p h) (hC:Cs w0 w a c) (C:Cw w0 g h) (ho:h.over=false) (hs:c.stk.length≤1000)
  (hop:putsB i.op) (h14:i.op=14→0≤i.a∧i.a<h.file.classes.length) (hst:∀v∈c.stk,GdV h v) (hIn:IntsAt w0 g.I h.input) (hu:0≤h.sh.used) :
  Calls Tryz.prog 116 #[.pointer (some ⟨p,0,none⟩),.pointer (some ⟨a.q,0,none⟩),.agg (inC i.op i.a i.b i.c i.n Q nl q)] w fun e w' =>
   e=.returned (vaV (givesV (h.must (c.has (manyOf i.op))) (nth va0 (c.top (manyOf i.op)) 0) (nth va0 (c.top (manyOf i.op)) 1) i))∧Hs w0 g w' p (givesH (h.must (c.has (manyOf i.op))) (nth va0 (c.top (manyOf i.op)) 0) (nth va0 (c.top (manyOf i.op)) 1) i)
   ∧ Cs w0 w' a (c.cut (manyOf i.op))∧Fq w0.heap.size g.T a w w':=by
 obtain ⟨op,ia,ib,ic,ii,args⟩:=i
 dsimp only at *
 unfold putsB at hop
 rcases hop with rfl|rfl|rfl|rfl|rfl|rfl|rfl|rfl|rfl|rfl|rfl|rfl|rfl
 ·have em:manyOf 1=0:=by decide
  rw [em]
  rw [must_has (Nat.zero_le _)]
  have e1:∀x y,givesH h x y ⟨1,ia,ib,ic,ii,args⟩=h:=fun x y=>by simp [givesH,ho]
  have e2:∀x y,givesV h x y ⟨1,ia,ib,ic,ii,args⟩=⟨1,ii⟩:=fun x y=>by simp [givesV,ho]
  rw [e1,e2]
  exact gives_1 w0 g p h a c ia ib ic ii Q nl q w hH hC C ho hs
 ·have em:manyOf 2=0:=by decide
  rw [em]
  rw [must_has (Nat.zero_le _)]
  have e1:∀x y,givesH h x y ⟨2,ia,ib,ic,ii,args⟩=h:=fun x y=>by simp [givesH,ho]
  have e2:∀x y,givesV h x y ⟨2,ia,ib,ic,ii,args⟩=⟨2,ii⟩:=fun x y=>by simp [givesV,ho]
  rw [e1,e2]
  exact gives_2 w0 g p h a c ia ib ic ii Q nl q w hH hC C ho hs
 ·have em:manyOf 3=0:=by decide
  rw [em]
  rw [must_has (Nat.zero_le _)]
  have e1:∀x y,givesH h x y ⟨3,ia,ib,ic,ii,args⟩=h:=fun x y=>by simp [givesH,ho]
  have e2:∀x y,givesV h x y ⟨3,ia,ib,ic,ii,args⟩=⟨3,-1⟩:=fun x y=>by simp [givesV,ho]
  rw [e1,e2]
  exact gives_3 w0 g p h a c ia ib ic ii Q nl q w hH hC C ho hs
 ·have em:manyOf 6=2:=by decide
  rw [em]
  by_cases hl:2≤c.stk.length
  ·rw [must_has hl]
   have e1:givesH h (nth va0 (c.top 2) 0) (nth va0 (c.top 2) 1) ⟨6,ia,ib,ic,ii,args⟩=h.reckH (nth va0 (c.top 2) 0) (nth va0 (c.top 2) 1) 1 ia:=by simp [givesH,ho]
   have e2:givesV h (nth va0 (c.top 2) 0) (nth va0 (c.top 2) 1) ⟨6,ia,ib,ic,ii,args⟩=h.reckV (nth va0 (c.top 2) 0) (nth va0 (c.top 2) 1) 1 ia:=by simp [givesV,ho]
   rw [e1,e2]
   exact gives_6 w0 g p h a c ia ib ic ii Q nl q w hH hC C ho hs hl (hst _ (top_mem hl (by omega:0<2))).num (hst _ (top_mem hl (by omega:1<2))).num
  ·rw [must_hasn hl,cut_no hl]
   have e1:∀x y,givesH (h.fin 6) x y ⟨6,ia,ib,ic,ii,args⟩=h.fin 6:=fun x y=>by simp [givesH,fin_over ho]
   have e2:∀x y,givesV (h.fin 6) x y ⟨6,ia,ib,ic,ii,args⟩=va0:=fun x y=>by simp [givesV,fin_over ho]
   rw [e1,e2]
   exact gives_no6 w0 g p h a c ia ib ic ii Q nl q w hH hC C ho hs (by omega)
 ·have em:manyOf 7=2:=by decide
  rw [em]
  by_cases hl:2≤c.stk.length
  ·rw [must_has hl]
   have e1:givesH h (nth va0 (c.top 2) 0) (nth va0 (c.top 2) 1) ⟨7,ia,ib,ic,ii,args⟩=h.reckH (nth va0 (c.top 2) 0) (nth va0 (c.top 2) 1) 2 ia:=by simp [givesH,ho]
   have e2:givesV h (nth va0 (c.top 2) 0) (nth va0 (c.top 2) 1) ⟨7,ia,ib,ic,ii,args⟩=h.reckV (nth va0 (c.top 2) 0) (nth va0 (c.top 2) 1) 2 ia:=by simp [givesV,ho]
   rw [e1,e2]
   exact gives_7 w0 g p h a c ia ib ic ii Q nl q w hH hC C ho hs hl (hst _ (top_mem hl (by omega:0<2))).num (hst _ (top_mem hl (by omega:1<2))).num
  ·rw [must_hasn hl,cut_no hl]
   have e1:∀x y,givesH (h.fin 6) x y ⟨7,ia,ib,ic,ii,args⟩=h.fin 6:=fun x y=>by simp [givesH,fin_over ho]
   have e2:∀x y,givesV (h.fin 6) x y ⟨7,ia,ib,ic,ii,args⟩=va0:=fun x y=>by simp [givesV,fin_over ho]
   rw [e1,e2]
   exact gives_no7 w0 g p h a c ia ib ic ii Q nl q w hH hC C ho hs (by omega)
 ·have em:manyOf 8=1:=by decide
  rw [em]
  by_cases hl:1≤c.stk.length
  ·rw [must_has hl]
   have e1:givesH h (nth va0 (c.top 1) 0) (nth va0 (c.top 1) 1) ⟨8,ia,ib,ic,ii,args⟩=h.must (decide ((nth va0 (c.top 1) 0).kind=1)):=by simp [givesH,ho]
   have e2:givesV h (nth va0 (c.top 1) 0) (nth va0 (c.top 1) 1) ⟨8,ia,ib,ic,ii,args⟩=⟨2,(nth va0 (c.top 1) 0).n⟩:=by simp [givesV,ho]
   rw [e1,e2]
   exact gives_8 w0 g p h a c ia ib ic ii Q nl q w hH hC C ho hs hl
  ·rw [must_hasn hl,cut_no hl]
   have e1:∀x y,givesH (h.fin 6) x y ⟨8,ia,ib,ic,ii,args⟩=h.fin 6:=fun x y=>by simp [givesH,fin_over ho]
   have e2:∀x y,givesV (h.fin 6) x y ⟨8,ia,ib,ic,ii,args⟩=va0:=fun x y=>by simp [givesV,fin_over ho]
   rw [e1,e2]
   exact gives_no8 w0 g p h a c ia ib ic ii Q nl q w hH hC C ho hs (by omega)
 ·have em:manyOf 9=1:=by decide
  rw [em]
  by_cases hl:1≤c.stk.length
  ·rw [must_has hl]
   have e1:givesH h (nth va0 (c.top 1) 0) (nth va0 (c.top 1) 1) ⟨9,ia,ib,ic,ii,args⟩=h.must (decide ((nth va0 (c.top 1) 0).kind=2)):=by simp [givesH,ho]
   have e2:givesV h (nth va0 (c.top 1) 0) (nth va0 (c.top 1) 1) ⟨9,ia,ib,ic,ii,args⟩=⟨1,wrap32 (nth va0 (c.top 1) 0).n⟩:=by simp [givesV,ho]
   rw [e1,e2]
   exact gives_9 w0 g p h a c ia ib ic ii Q nl q w hH hC C ho hs hl
  ·rw [must_hasn hl,cut_no hl]
   have e1:∀x y,givesH (h.fin 6) x y ⟨9,ia,ib,ic,ii,args⟩=h.fin 6:=fun x y=>by simp [givesH,fin_over ho]
   have e2:∀x y,givesV (h.fin 6) x y ⟨9,ia,ib,ic,ii,args⟩=va0:=fun x y=>by simp [givesV,fin_over ho]
   rw [e1,e2]
   exact gives_no9 w0 g p h a c ia ib ic ii Q nl q w hH hC C ho hs (by omega)
 ·have em:manyOf 10=2:=by decide
  rw [em]
  by_cases hl:2≤c.stk.length
  ·rw [must_has hl]
   have e1:givesH h (nth va0 (c.top 2) 0) (nth va0 (c.top 2) 1) ⟨10,ia,ib,ic,ii,args⟩=h.must (ofBoth (nth va0 (c.top 2) 0) (nth va0 (c.top 2) 1) 2):=by simp [givesH,ho]
   have e2:givesV h (nth va0 (c.top 2) 0) (nth va0 (c.top 2) 1) ⟨10,ia,ib,ic,ii,args⟩=⟨1,cmpV (nth va0 (c.top 2) 0).n (nth va0 (c.top 2) 1).n⟩:=by simp [givesV,ho]
   rw [e1,e2]
   by_cases hk:(nth va0 (c.top 2) 0).kind=2
   ·exact gives_10y w0 g p h a c ia ib ic ii Q nl q w hH hC C ho hs hl hk
   ·exact gives_10n w0 g p h a c ia ib ic ii Q nl q w hH hC C ho hs hl hk
  ·rw [must_hasn hl,cut_no hl]
   have e1:∀x y,givesH (h.fin 6) x y ⟨10,ia,ib,ic,ii,args⟩=h.fin 6:=fun x y=>by simp [givesH,fin_over ho]
   have e2:∀x y,givesV (h.fin 6) x y ⟨10,ia,ib,ic,ii,args⟩=va0:=fun x y=>by simp [givesV,fin_over ho]
   rw [e1,e2]
   exact gives_no10 w0 g p h a c ia ib ic ii Q nl q w hH hC C ho hs (by omega)
 ·have em:manyOf 14=0:=by decide
  rw [em]
  rw [must_has (Nat.zero_le _)]
  have e1:∀x y,givesH h x y ⟨14,ia,ib,ic,ii,args⟩=h.new ia:=fun x y=>by simp [givesH,ho]
  have e2:∀x y,givesV h x y ⟨14,ia,ib,ic,ii,args⟩=h.newV:=fun x y=>by simp [givesV,ho]
  rw [e1,e2]
  exact gives_14 w0 g p h a c ia ib ic ii Q nl q w hH hC C ho hs (h14 rfl)
 ·have em:manyOf 15=1:=by decide
  rw [em]
  by_cases hl:1≤c.stk.length
  ·rw [must_has hl]
   have e1:givesH h (nth va0 (c.top 1) 0) (nth va0 (c.top 1) 1) ⟨15,ia,ib,ic,ii,args⟩=h.findH (nth va0 (c.top 1) 0) ia:=by simp [givesH,ho]
   have e2:givesV h (nth va0 (c.top 1) 0) (nth va0 (c.top 1) 1) ⟨15,ia,ib,ic,ii,args⟩=h.getV (nth va0 (c.top 1) 0) ia ib:=by simp [givesV,ho]
   rw [e1,e2]
   exact gives_15 w0 g p h a c ia ib ic ii Q nl q w hH hC C ho hs hl (fun e=>((hst _ (top_mem hl (by omega:0<1))).ref e).2)
  ·rw [must_hasn hl,cut_no hl]
   have e1:∀x y,givesH (h.fin 6) x y ⟨15,ia,ib,ic,ii,args⟩=h.fin 6:=fun x y=>by simp [givesH,fin_over ho]
   have e2:∀x y,givesV (h.fin 6) x y ⟨15,ia,ib,ic,ii,args⟩=va0:=fun x y=>by simp [givesV,fin_over ho]
   rw [e1,e2]
   exact gives_no15 w0 g p h a c ia ib ic ii Q nl q w hH hC C ho hs (by omega)
 ·have em:manyOf 17=1:=by decide
  rw [em]
  by_cases hl:1≤c.stk.length
  ·rw [must_has hl]
   have e1:givesH h (nth va0 (c.top 1) 0) (nth va0 (c.top 1) 1) ⟨17,ia,ib,ic,ii,args⟩=h.cast (nth va0 (c.top 1) 0) ia:=by simp [givesH,ho]
   have e2:givesV h (nth va0 (c.top 1) 0) (nth va0 (c.top 1) 1) ⟨17,ia,ib,ic,ii,args⟩=(nth va0 (c.top 1) 0):=by simp [givesV,ho]
   rw [e1,e2]
   exact gives_17 w0 g p h a c ia ib ic ii Q nl q w hH hC C ho hs hl (fun e=>((hst _ (top_mem hl (by omega:0<1))).ref e).2)
  ·rw [must_hasn hl,cut_no hl]
   have e1:∀x y,givesH (h.fin 6) x y ⟨17,ia,ib,ic,ii,args⟩=h.fin 6:=fun x y=>by simp [givesH,fin_over ho]
   have e2:∀x y,givesV (h.fin 6) x y ⟨17,ia,ib,ic,ii,args⟩=va0:=fun x y=>by simp [givesV,fin_over ho]
   rw [e1,e2]
   exact gives_no17 w0 g p h a c ia ib ic ii Q nl q w hH hC C ho hs (by omega)
 ·have em:manyOf 18=1:=by decide
  rw [em]
  by_cases hl:1≤c.stk.length
  ·rw [must_has hl]
   have e1:givesH h (nth va0 (c.top 1) 0) (nth va0 (c.top 1) 1) ⟨18,ia,ib,ic,ii,args⟩=h.must (isRef (nth va0 (c.top 1) 0)):=by simp [givesH,ho]
   have e2:givesV h (nth va0 (c.top 1) 0) (nth va0 (c.top 1) 1) ⟨18,ia,ib,ic,ii,args⟩=h.isV (nth va0 (c.top 1) 0) ia:=by simp [givesV,ho]
   rw [e1,e2]
   exact gives_18 w0 g p h a c ia ib ic ii Q nl q w hH hC C ho hs hl (fun e=>((hst _ (top_mem hl (by omega:0<1))).ref e).2)
  ·rw [must_hasn hl,cut_no hl]
   have e1:∀x y,givesH (h.fin 6) x y ⟨18,ia,ib,ic,ii,args⟩=h.fin 6:=fun x y=>by simp [givesH,fin_over ho]
   have e2:∀x y,givesV (h.fin 6) x y ⟨18,ia,ib,ic,ii,args⟩=va0:=fun x y=>by simp [givesV,fin_over ho]
   rw [e1,e2]
   exact gives_no18 w0 g p h a c ia ib ic ii Q nl q w hH hC C ho hs (by omega)
 ·have em:manyOf 25=0:=by decide
  rw [em]
  rw [must_has (Nat.zero_le _)]
  have e1:∀x y,givesH h x y ⟨25,ia,ib,ic,ii,args⟩=h.input':=fun x y=>by simp [givesH,ho]
  have e2:∀x y,givesV h x y ⟨25,ia,ib,ic,ii,args⟩=h.inV:=fun x y=>by simp [givesV,ho]
  rw [e1,e2]
  exact gives_25 w0 g p h a c ia ib ic ii Q nl q w hH hC C ho hs hIn hu
theorem does_rest (w0:World) (g:Ad) (p:Nat) (h:Hp) (a:Ca) (c:Cal) (i:In) (Q:Option Addr) (nl q:Nat) (w:World) (hH:Hs w0 g w p h) (hC:Cs w0 w a c) (C:Cw w0 g h) (ho:h.over=false) (hs5:c.stk.length≤500) (hp:0≤c.pc∧c.pc≤100000)
  (hop:putsB i.op) (h14:i.op=14→0≤i.a∧i.a<h.file.classes.length) (hst:∀v∈c.stk,GdV h v) (hIn:IntsAt w0 g.I h.input) (hu:0≤h.sh.used) :
  Calls Tryz.prog 58 #[.pointer (some ⟨p,0,none⟩),.pointer (some ⟨a.q,0,none⟩),.agg (inC i.op i.a i.b i.c i.n Q nl q)] w fun e w' =>
   e=.returned (.int .i64 (givesP h c i).nx)∧Hs w0 g w' p (givesP h c i).h∧Cs w0 w' a (givesP h c i).c∧Fq w0.heap.size g.T a w w':=by
 have hbs:=hH.base
 have hbl:Bl w (w.alloc (.cells (inC i.op i.a i.b i.c i.n Q nl q) 55)):=(Bl.refl w).alloc _
 have GV:Hid (Calls Tryz.prog 116 #[.pointer (some ⟨p,0,none⟩),.pointer (some ⟨a.q,0,none⟩),.agg (inC i.op i.a i.b i.c i.n Q nl q)] (w.alloc (.cells (inC i.op i.a i.b i.c i.n Q nl q) 55)) fun e w' =>
   e=.returned (vaV (givesV (h.must (c.has (manyOf i.op))) (nth va0 (c.top (manyOf i.op)) 0) (nth va0 (c.top (manyOf i.op)) 1) i))∧Hs w0 g w' p (givesH (h.must (c.has (manyOf i.op))) (nth va0 (c.top (manyOf i.op)) 0) (nth va0 (c.top (manyOf i.op)) 1) i)
   ∧ Cs w0 w' a (c.cut (manyOf i.op))∧Fq w0.heap.size g.T a (w.alloc (.cells (inC i.op i.a i.b i.c i.n Q nl q) 55)) w') :=
  gives_any w0 g p h a c i Q nl q _ (hH.old hbl) (hC.old hbl) C ho (by omega) hop h14 hst hIn hu
 have HF:Hid (Fr w0.heap.size g.T w (w.alloc (.cells (inC i.op i.a i.b i.c i.n Q nl q) 55))):=Fr.old hbs hbl
 have d10:(w.alloc (.cells (inC i.op i.a i.b i.c i.n Q nl q) 55)).cell? ⟨a.q,10,none⟩=some (.int .i64 c.pc):=by
  obtain ⟨A,cap,X⟩:=hC.old hbl
  exact X.cells.c10
 have HK:Hid (Tk g.T):=C.k
 have hq:=hC.lt
 have hle:(c.cut (manyOf i.op)).stk.length≤1000:=by have:=cut_le c (manyOf i.op);omega
 have z11:(i.op==11)=false:=by unfold putsB at hop;simp;omega
 have z12:(i.op==12)=false:=by unfold putsB at hop;simp;omega
 have z13:(i.op==13)=false:=by unfold putsB at hop;simp;omega
 have z19:(i.op==19)=false:=by unfold putsB at hop;simp;omega
 have z21:(i.op==21)=false:=by unfold putsB at hop;simp;omega
 have z4:(i.op==4)=false:=by unfold putsB at hop;simp;omega
 have z5:(i.op==5)=false:=by unfold putsB at hop;simp;omega
 have z22:(i.op==22)=false:=by unfold putsB at hop;simp;omega
 have z23:(i.op==23)=false:=by unfold putsB at hop;simp;omega
 have z24:(i.op==24)=false:=by unfold putsB at hop;simp;omega
 have z16:(i.op==16)=false:=by unfold putsB at hop;simp;omega
 have hnx:(givesP h c i).nx=c.pc+1:=by unfold givesP;dsimp only;split<;>rfl
 rw [hnx]
 have hgh:(givesP h c i).h=if (givesH (h.must (c.has (manyOf i.op))) (nth va0 (c.top (manyOf i.op)) 0) (nth va0 (c.top (manyOf i.op)) 1) i).stops=true then givesH (h.must (c.has (manyOf i.op))) (nth va0 (c.top (manyOf i.op)) 0) (nth va0 (c.top (manyOf i.op)) 1) i
   else (givesH (h.must (c.has (manyOf i.op))) (nth va0 (c.top (manyOf i.op)) 0) (nth va0 (c.top (manyOf i.op)) 1) i).putH (c.cut (manyOf i.op)) (givesV (h.must (c.has (manyOf i.op))) (nth va0 (c.top (manyOf i.op)) 0) (nth va0 (c.top (manyOf i.op)) 1) i):=by
  unfold givesP;dsimp only;split<;>rfl
 have hgc:(givesP h c i).c=if (givesH (h.must (c.has (manyOf i.op))) (nth va0 (c.top (manyOf i.op)) 0) (nth va0 (c.top (manyOf i.op)) 1) i).stops=true then c.cut (manyOf i.op)
   else (c.cut (manyOf i.op)).put (givesV (h.must (c.has (manyOf i.op))) (nth va0 (c.top (manyOf i.op)) 0) (nth va0 (c.top (manyOf i.op)) 1) i):=by
  unfold givesP;dsimp only;split<;>rfl
 rw [hgh,hgc]
 clear hgh hgc hnx hop h14 hst hIn hu hH hC C ho hbl
 generalize givesV (h.must (c.has (manyOf i.op))) (nth va0 (c.top (manyOf i.op)) 0) (nth va0 (c.top (manyOf i.op)) 1) i=V at *
 generalize givesH (h.must (c.has (manyOf i.op))) (nth va0 (c.top (manyOf i.op)) 0) (nth va0 (c.top (manyOf i.op)) 1) i=H at *
 generalize c.cut (manyOf i.op)=c1 at *
 obtain ⟨op,ia,ib,ic,ii,args⟩:=i
 dsimp only at *
 cases hst:H.stops
 ·rw [if_neg (by decide),if_neg (by decide)]
  go_enter Tryz.func58,Tryz.ntmps58
  go_wp2_with (first
   | (go_at_call 116;refine GV.out.mono ?_;rintro e w2 ⟨rfl,h2,c2,f2⟩;have hb2:=h2.base;have hq2:=c2.lt;have H2:Hid (Hs w0 g (w2.alloc (vaO V)) p H):=h2.old ((Bl.refl w2).alloc _);have C2:Hid (Cs w0 (w2.alloc (vaO V)) a c1):=c2.old ((Bl.refl w2).alloc _);have F2:Hid (Fq w0.heap.size g.T a w (w2.alloc (vaO V))):=(HF.out.fq.trans f2).trans (Fr.fq (Fr.old hb2 ((Bl.refl w2).alloc _)));clear h2 c2 f2)
   | (go_at_call 112;refine (stops_any w0 g p H _ H2.out).mono ?_;rintro e w4 ⟨he,hw4⟩;rw [hst] at he;subst he;rw [hw4];clear hw4 w4)
   | (go_at_call 60;refine (cput_any w0 g HK.out p H a c1 V _ H2.out C2.out hle).mono ?_;rintro e w5 ⟨rfl,h5,c5,f5⟩))
  go_ret
  exact ⟨rfl,h5,c5,F2.out.trans f5⟩
 ·rw [if_pos rfl,if_pos rfl]
  go_enter Tryz.func58,Tryz.ntmps58
  go_wp2_with (first
   | (go_at_call 116;refine GV.out.mono ?_;rintro e w2 ⟨rfl,h2,c2,f2⟩;have hb2:=h2.base;have hq2:=c2.lt;have H2:Hid (Hs w0 g (w2.alloc (vaO V)) p H):=h2.old ((Bl.refl w2).alloc _);have C2:Hid (Cs w0 (w2.alloc (vaO V)) a c1):=c2.old ((Bl.refl w2).alloc _);have F2:Hid (Fq w0.heap.size g.T a w (w2.alloc (vaO V))):=(HF.out.fq.trans f2).trans (Fr.fq (Fr.old hb2 ((Bl.refl w2).alloc _)));clear h2 c2 f2)
   | (go_at_call 112;refine (stops_any w0 g p H _ H2.out).mono ?_;rintro e w4 ⟨he,hw4⟩;rw [hst] at he;subst he;rw [hw4];clear hw4 w4))
  go_ret
  exact ⟨rfl,H2.out,C2.out,F2.out⟩
theorem fin_fin (h:Hp) (e f:Int) (ho:h.over=false):(h.fin e).fin f=h.fin e:=by simp [Hp.fin,ho]
theorem does_any (w0:World) (g:Ad) (p:Nat) (h:Hp) (a:Ca) (c:Cal) (i:In) (Q:Option Addr) (nl q:Nat) (w:World) (hH:Hs w0 g w p h) (hC:Cs w0 w a c) (C:Cw w0 g h) (ho:h.over=false) (hs5:c.stk.length≤500) (hp:0≤c.pc∧c.pc≤100000)
  (nm ncode:Nat) (ok:InOk h.file.classes nm ncode c.locs.length i) (h19:i.op≠19) (h20:i.op≠20) (hst:∀v∈c.stk,GdV h v) (hlo:LocOk c.locs) (hIn:IntsAt w0 g.I h.input) (hu:0≤h.sh.used) (hout:h.sh.out.length≤60000) :
  Calls Tryz.prog 58 #[.pointer (some ⟨p,0,none⟩),.pointer (some ⟨a.q,0,none⟩),.agg (inC i.op i.a i.b i.c i.n Q nl q)] w fun e w' =>
   e=.returned (.int .i64 (doesP h c i).nx)∧Hs w0 g w' p (doesP h c i).h∧Cs w0 w' a (doesP h c i).c∧Fq w0.heap.size g.T a w w':=by
 have hop:=ok.op
 have hcase:i.op=11∨i.op=12∨i.op=13∨i.op=21∨i.op=4∨i.op=5∨i.op=22∨i.op=23∨i.op=24∨i.op=16∨putsB i.op:=by unfold putsB;omega
 rcases hcase with e|e|e|e|e|e|e|e|e|e|hpb
 ·have ed:doesP h c i=⟨h,c,i.a⟩:=by unfold doesP;rw [if_pos e]
  rw [ed,e]
  exact does_11 w0 g p h a c _ _ _ _ Q nl q w hH hC C ho hs5 hp
 ·have ed:doesP h c i=ifP h c i:=by unfold doesP;rw [if_neg (by omega),if_pos e]
  rw [ed,e]
  unfold ifP
  dsimp only
  by_cases hl:1≤c.stk.length
  ·rw [must_has hl,must_is h ho]
   by_cases hk:(nth va0 (c.top 1) 0).kind=1
   ·rw [decide_eq_true hk,Bool.true_and]
    have em:h.must true=h:=rfl
    rw [em]
    cases hr:hldB i.b (nth va0 (c.top 1) 0).n
    ·rw [if_neg (by decide)];exact does_12n w0 g p h a c _ _ _ _ Q nl q w hH hC C ho hs5 hp hl hk hr
    ·rw [if_pos rfl];exact does_12y w0 g p h a c _ _ _ _ Q nl q w hH hC C ho hs5 hp hl hk hr
   ·rw [decide_eq_false hk,Bool.false_and,if_neg (by decide)]
    have em:h.must false=h.fin 6:=rfl
    rw [em]
    exact does_12x w0 g p h a c _ _ _ _ Q nl q w hH hC C ho hs5 hp hl hk
  ·rw [must_hasn hl,top_no hl,cut_no hl]
   have e0:decide ((nth va0 (List.replicate 1 va0) 0).kind=1)=false:=by decide
   rw [e0]
   have em:(h.fin 6).must false=h.fin 6:=fin_fin h 6 6 ho
   have eb:(h.fin 6).mustB false=false:=rfl
   rw [em,eb,Bool.false_and,if_neg (by decide)]
   exact does_no12 w0 g p h a c _ _ _ _ Q nl q w hH hC C ho hs5 hp (by omega)
 ·have ed:doesP h c i=ifnP h c i:=by unfold doesP;rw [if_neg (by omega),if_neg (by omega),if_pos e]
  rw [ed,e]
  unfold ifnP
  dsimp only
  by_cases hl:1≤c.stk.length
  ·rw [must_has hl,must_is h ho]
   by_cases hk:(nth va0 (c.top 1) 0).kind=3
   ·have ei:isRef (nth va0 (c.top 1) 0)=true:=decide_eq_true hk
    rw [ei,Bool.true_and]
    have em:h.must true=h:=rfl
    rw [em]
    by_cases hn:(nth va0 (c.top 1) 0).n<0
    ·rw [decide_eq_true hn,if_pos rfl];exact does_13y w0 g p h a c _ _ _ _ Q nl q w hH hC C ho hs5 hp hl hk hn
    ·rw [decide_eq_false hn,if_neg (by decide)];exact does_13n w0 g p h a c _ _ _ _ Q nl q w hH hC C ho hs5 hp hl hk hn
   ·have ei:isRef (nth va0 (c.top 1) 0)=false:=decide_eq_false hk
    rw [ei,Bool.false_and,if_neg (by decide)]
    have em:h.must false=h.fin 6:=rfl
    rw [em]
    exact does_13x w0 g p h a c _ _ _ _ Q nl q w hH hC C ho hs5 hp hl hk
  ·rw [must_hasn hl,top_no hl,cut_no hl]
   have e0:isRef (nth va0 (List.replicate 1 va0) 0)=false:=by decide
   rw [e0]
   have em:(h.fin 6).must false=h.fin 6:=fin_fin h 6 6 ho
   have eb:(h.fin 6).mustB false=false:=rfl
   rw [em,eb,Bool.false_and,if_neg (by decide)]
   exact does_no13 w0 g p h a c _ _ _ _ Q nl q w hH hC C ho hs5 hp (by omega)
 ·have ed:doesP h c i=thrP h c i:=by unfold doesP;rw [if_neg (by omega),if_neg (by omega),if_neg (by omega),if_pos e]
  rw [ed,e]
  unfold thrP
  dsimp only
  by_cases hl:1≤c.stk.length
  ·rw [must_has hl,if_neg (by rw [ho];decide)]
   exact does_21 w0 g p h a c _ _ _ _ Q nl q w hH hC C ho hs5 hp hl
  ·rw [must_hasn hl,cut_no hl,if_pos (fin_over ho)]
   exact does_no21 w0 g p h a c _ _ _ _ Q nl q w hH hC C ho hs5 hp (by omega)
 ·have ed:doesP h c i=loadP h c i:=by unfold doesP;rw [if_neg (by omega),if_neg (by omega),if_neg (by omega),if_neg (by omega),if_pos e]
  obtain ⟨s1,s2,s3,s4⟩:=ok.slot (Or.inl e)
  rw [ed,e]
  unfold loadP
  dsimp only
  rw [must_is h ho]
  by_cases hk:(nth va0 c.locs i.a.toNat).kind=i.b
  ·rw [decide_eq_true hk,if_pos rfl]
   exact does_4y w0 g p h a c _ _ _ _ Q nl q w hH hC C ho hs5 hp ⟨s1,s2⟩ hk
  ·rw [decide_eq_false hk,if_neg (by decide)]
   exact does_4x w0 g p h a c _ _ _ _ Q nl q w hH hC C ho hs5 hp ⟨s1,s2⟩ hk
 ·have ed:doesP h c i=storeP h c i:=by unfold doesP;rw [if_neg (by omega),if_neg (by omega),if_neg (by omega),if_neg (by omega),if_neg (by omega),if_pos e]
  obtain ⟨s1,s2,s3,s4⟩:=ok.slot (Or.inr e)
  rw [ed,e]
  unfold storeP
  dsimp only
  by_cases hl:1≤c.stk.length
  ·rw [must_has hl,must_is h ho]
   by_cases hk:(nth va0 (c.top 1) 0).kind=i.b
   ·rw [decide_eq_true hk,if_pos rfl]
    exact does_5y w0 g p h a c _ _ _ _ Q nl q w hH hC C ho hs5 hp hl hk ⟨s1,s2⟩ hlo s3
   ·rw [decide_eq_false hk,if_neg (by decide)]
    exact does_5x w0 g p h a c _ _ _ _ Q nl q w hH hC C ho hs5 hp hl hk
  ·rw [must_hasn hl,top_no hl,cut_no hl]
   have e0:decide ((nth va0 (List.replicate 1 va0) 0).kind=i.b)=false:=decide_eq_false (fun hh=>s4 (by rw [←hh];rfl))
   rw [e0]
   have em:(h.fin 6).must false=h.fin 6:=fin_fin h 6 6 ho
   have eb:(h.fin 6).mustB false=false:=rfl
   rw [em,eb,if_neg (by decide)]
   exact does_no5 w0 g p h a c _ _ _ _ Q nl q w hH hC C ho hs5 hp (by omega) s4
 ·have ed:doesP h c i=popP h c i:=by unfold doesP;rw [if_neg (by omega),if_neg (by omega),if_neg (by omega),if_neg (by omega),if_neg (by omega),if_neg (by omega),if_pos e]
  rw [ed,e]
  exact does_22 w0 g p h a c _ _ _ _ Q nl q w hH hC C ho hs5 hp
 ·have ed:doesP h c i=dupP h c i:=by unfold doesP;rw [if_neg (by omega),if_neg (by omega),if_neg (by omega),if_neg (by omega),if_neg (by omega),if_neg (by omega),if_neg (by omega),if_pos e]
  rw [ed,e]
  unfold dupP
  dsimp only
  by_cases hl:1≤c.stk.length
  ·rw [must_has hl,if_neg (by rw [ho];decide)]
   exact does_23 w0 g p h a c _ _ _ _ Q nl q w hH hC C ho hs5 hp hl
  ·rw [must_hasn hl,cut_no hl,if_pos (fin_over ho)]
   exact does_no23 w0 g p h a c _ _ _ _ Q nl q w hH hC C ho hs5 hp (by omega)
 ·have ed:doesP h c i=emitP h c i:=by unfold doesP;rw [if_neg (by omega),if_neg (by omega),if_neg (by omega),if_neg (by omega),if_neg (by omega),if_neg (by omega),if_neg (by omega),if_neg (by omega),if_pos e]
  rw [ed,e]
  unfold emitP
  dsimp only
  by_cases hl:1≤c.stk.length
  ·rw [must_has hl,if_neg (by rw [ho];decide)]
   exact does_24 w0 g p h a c _ _ _ _ Q nl q w hH hC C ho hs5 hp hl hout
  ·rw [must_hasn hl,cut_no hl,if_pos (fin_over ho)]
   exact does_no24 w0 g p h a c _ _ _ _ Q nl q w hH hC C ho hs5 hp (by omega)
 ·have ed:doesP h c i=setP h c i:=by unfold doesP;rw [if_neg (by omega),if_neg (by omega),if_neg (by omega),if_neg (by omega),if_neg (by omega),if_neg (by omega),if_neg (by omega),if_neg (by omega),if_neg (by omega),if_pos e]
  obtain ⟨s1,s2,s3,s4⟩:=ok.fld (Or.inr e)
  rw [ed,e]
  unfold setP
  dsimp only
  by_cases hl:2≤c.stk.length
  ·rw [must_has hl,if_neg (by rw [ho];decide),must_is h ho]
   by_cases hk:(nth va0 (c.top 2) 0).kind=3
   ·have ei:isRef (nth va0 (c.top 2) 0)=true:=decide_eq_true hk
    rw [ei,if_pos rfl]
    exact does_16y w0 g p h a c _ _ _ _ Q nl q w hH hC C ho hs5 hp hl hk (fun e=>((hst _ (top_mem hl (by omega:0<2))).ref e).2) (fun e=>((hst _ (top_mem hl (by omega:1<2))).ref e).2) ⟨s1,s2⟩ ⟨s3,s4⟩
   ·have ei:isRef (nth va0 (c.top 2) 0)=false:=decide_eq_false hk
    rw [ei,if_neg (by decide)]
    exact does_16x w0 g p h a c _ _ _ _ Q nl q w hH hC C ho hs5 hp hl hk
  ·rw [must_hasn hl,cut_no hl,if_pos (fin_over ho)]
   exact does_no16 w0 g p h a c _ _ _ _ Q nl q w hH hC C ho hs5 hp (by omega)
 ·have ed:doesP h c i=givesP h c i:=by
   unfold putsB at hpb
   unfold doesP;rw [if_neg (by omega),if_neg (by omega),if_neg (by omega),if_neg (by omega),if_neg (by omega),if_neg (by omega),if_neg (by omega),if_neg (by omega),if_neg (by omega),if_neg (by omega)]
  rw [ed]
  exact does_rest w0 g p h a c i Q nl q w hH hC C ho hs5 hp hpb (fun e=>ok.cls (Or.inl e)) hst hIn hu
theorem enter_step {h:Hp} {l:List Va} {k:List Ty} {q:Nat} (hq:q<l.length) (hk:l.length=k.length):h.enterL (l.drop q) (k.drop q)=(h.of (nth va0 l q) (nth ty0 k q)&&h.enterL (l.drop (q+1)) (k.drop (q+1))):=by
 rw [List.drop_eq_getElem_cons hq,List.drop_eq_getElem_cons (l:=k) (by omega),Hp.enterL,←nth_get (d:=va0) hq,←nth_get (d:=ty0) (by omega)]
theorem enter_any (w0:World) (g:Ad) (p:Nat) (h:Hp) (m:Me) (P CC K:Option Addr) (pp cc kk:Nat) (A:Option Addr) (ac lb:Nat) (l:List Va) (w:World) (hH:Hs w0 g w p h) (C:Cw w0 g h) (ho:h.over=false) (hP:TysAt w0 P m.params) (hl:l.length=m.params.length)
  (hA:StkAt lb w A l) (hg:∀v∈l,v.kind=3→v.n<h.objs.length) (hc:0≤h.calls∧h.calls≤20) :
  Calls Tryz.prog 51 #[.pointer (some ⟨p,0,none⟩),meV m P CC K pp cc kk,.slice A l.length ac] w fun e w'=>e=.returned (.bool (h.enterB m l))∧Hs w0 g w' p (h.enterH m l)∧Fr w0.heap.size g.T w w':=by
 have hbs:=hH.base
 have HH:Hid (∀wr,Bl w wr→Hs w0 g wr p h):=fun wr hb=>hH.old hb
 have HC:Hid (Cw w0 g h):=C
 have HPT:Hid (∀wr,Bl w wr→TysAt wr P m.params):=fun wr hb=>(hP.bl hH.bl).bl hb
 have HAT:Hid (∀wr,Bl w wr→StkAt lb wr A l):=fun wr hb=>hA.keep fun b cs f e _=>(hb.block _ (lt_some e)).trans e
 have HG:Hid (∀v∈l,v.kind=3→v.n<h.objs.length):=hg
 have HL:Hid (l.length=m.params.length):=hl
 have hnv:(!h.over)=true:=by rw [ho];rfl
 have hpm:=hP.1
 unfold maxLen at hpm
 have HM:Hid ((w.alloc (meBO m P CC K pp cc kk)).cell? ⟨w.heap.size,0,none⟩=some (.slice P m.params.length pp)):=cell_of_new rfl
 have HST:Hid (∀q,q<l.length→h.enterL (l.drop q) (m.params.drop q)=(h.of (nth va0 l q) (nth ty0 m.params q)&&h.enterL (l.drop (q+1)) (m.params.drop (q+1)))):=fun q hq=>enter_step hq hl
 have HMU:Hid (h.must false=h.fin 6):=rfl
 have HMB:Hid (h.mustB false=false):=rfl
 obtain ⟨R,hR⟩:∃R,h.enterL l m.params=R:=⟨_,rfl⟩
 have HR:Hid (h.enterL (l.drop 0) (m.params.drop 0)=R):=by rw [List.drop_zero,List.drop_zero];exact hR
 have hB:h.enterB m l=(R&&!h.deep):=by unfold Hp.enterB;rw [hR]
 have hE:h.enterH m l=if R=false then h.fin 6 else if h.deep=true then h.fin 5 else { h with calls:=h.calls+1 }:=by unfold Hp.enterH;rw [hR]
 have HB:Hid (h.enterB m l=(R&&!h.deep)):=hB
 have HE:Hid (h.enterH m l=if R=false then h.fin 6 else if h.deep=true then h.fin 5 else { h with calls:=h.calls+1 }):=hE
 have HP0:Hid (TysAt w0 P m.params):=hP
 have HMX:Hid (∀wr,Bl (w.alloc (meBO m P CC K pp cc kk)) wr→wr.heap[w.heap.size]?=some (meBO m P CC K pp cc kk)):=fun wr hb=>(hb.block _ (by simp)).trans (blk_new _ _ _)
 clear hB hE hR hH C hP hA hg hl
 go_enter Tryz.func51,Tryz.ntmps51
 go_wp2
 go_loopw [7] (fun i wr=>∃q:Nat,q≤m.params.length∧i=.int .i64 q∧Hid (Bl w wr)∧Hid (Bl (w.alloc (meBO m P CC K pp cc kk)) wr)∧wr.cell? ⟨w.heap.size,0,none⟩=some (.slice P m.params.length pp)∧Hid (h.enterL (l.drop q) (m.params.drop q)=R)) (fun i _=>m.params.length-(intOf i).toNat)
 case atStart=>exact ⟨0,Nat.zero_le _,rfl,(Bl.refl w).alloc _,Bl.refl _,HM.out,HR⟩
 case round =>
  obtain ⟨q,hq,rfl,hgr,hgb,c7,hr⟩:=hrel
  by_cases hql:q<m.params.length
  ·have hql':q<l.length:=by rw [HL.out];exact hql
   have hts:=HPT.out wr hgr.out
   rcases hts.2 with h0|⟨b',off',hPA,hcell⟩
   ·omega
   obtain ⟨g0,g1,-⟩:=hcell q hql
   obtain ⟨b,off,hAA,hcl⟩:=(HAT.out wr hgr.out).fst (by omega)
   obtain ⟨v0,v1⟩:=hcl q hql'
   have hstep:=HST.out q hql'
   rw [hPA] at c7
   have HV:Hid ((nth va0 l q).kind=3→(nth va0 l q).n<h.objs.length):=HG.out _ (nth_mem hql')
   subst hAA
   have hA1:(q:Int)<(l.length:Int):=by omega
   have hAm:l.length≤2 ^ 63-1:=by have:=HL.out;omega
   have hq0:(0:Int)≤(q:Int):=by omega
   have hq1:(q:Int)<(m.params.length:Int):=by omega
   rw [hr.out] at hstep
   have HSTEP:Hid (R=(h.of (nth va0 l q) (nth ty0 m.params q)&&h.enterL (l.drop (q+1)) (m.params.drop (q+1)))):=hstep
   have HVK:Hid (∀w2,Fr w0.heap.size g.T wr w2→w2.cell? ⟨b,off+q*2,none⟩=some (.int .i64 (nth va0 l q).kind)∧w2.cell? ⟨b,off+q*2+1,none⟩=some (.int .i64 (nth va0 l q).n)):=fun w2 f=>by
    obtain ⟨bb,oo,hbo,hc2⟩:=((HAT.out wr hgr.out).fr HC.out.k f).fst (by omega)
    simp only [Option.some.injEq,Addr.mk.injEq] at hbo
    obtain ⟨rfl,rfl,-⟩:=hbo
    exact hc2 q hql'
   have HMK:Hid (∀w2,Fr w0.heap.size g.T wr w2→w2.cell? ⟨w.heap.size,0,none⟩=some (.slice (some ⟨b',off',none⟩) m.params.length pp)):=fun w2 f=>by
    have hb:=HMX.out wr hgb.out
    rw [cell_blk (f.keep _ _ _ _ hb HC.out.k.nm),←hPA];rfl
   have HYK:Hid (∀w2,Fr w0.heap.size g.T wr w2→w2.cell? ⟨b',off'+q*2,none⟩=some (.int .i64 (nth ty0 m.params q).kind)∧w2.cell? ⟨b',off'+q*2+1,none⟩=some (.int .i64 (nth ty0 m.params q).cls)):=fun w2 f=>by
    rcases (HP0.out.bl (Below.trans (HH.out wr hgr.out).bl f.bl)).2 with h0|⟨b2,o2,hPB,hc2⟩
    ·omega
    rw [hPA] at hPB
    simp only [Option.some.injEq,Addr.mk.injEq] at hPB
    obtain ⟨rfl,rfl,-⟩:=hPB
    exact ⟨(hc2 q hql).1,(hc2 q hql).2.1⟩
   have HPA:Hid (P=some ⟨b',off',none⟩):=hPA
   clear hcell hcl hts hstep hr hPA
   generalize hX:nth va0 l q=X at *
   generalize hY:nth ty0 m.params q=Y at *
   clear hX hY
   cases hO:h.of X Y
   ·have hRf:R=false:=by rw [HSTEP.out,hO];rfl
    subst hRf
    go_wp2
    go_region_held3 (fun w'=>w'.cell? ⟨b,off+q*2,none⟩=some (.int .i64 X.kind)∧w'.cell? ⟨b,off+q*2+1,none⟩=some (.int .i64 X.n)∧w'.cell? ⟨w.heap.size,0,none⟩=some (.slice (some ⟨b',off',none⟩) m.params.length pp)∧w'.cell? ⟨b',off'+q*2,none⟩=some (.int .i64 Y.kind)∧w'.cell? ⟨b',off'+q*2+1,none⟩=some (.int .i64 Y.cls))
     (go_keep)
     (first
      | (go_at_call 57;refine (of_any w0 g p h X Y _ (by first|exact HH.out _ hgr.out.drew|exact HH.out _ hgr.out) HC.out.cls HC.out.tree HV.out).mono ?_;rintro e w1 ⟨he,h1,f1,b1⟩;rw [hO] at he;subst he;have e0:=b1.cell v0;have e1:=b1.cell v1;have e2:=b1.cell c7;have e3:=b1.cell g0;have e4:=b1.cell g1;have F1:Hid (Fr w0.heap.size g.T wr w1):=Fr.trans (Fr.drew (Fr.refl _ _ _)) f1;clear f1 b1)
      | (go_at_call 55;refine (must_any w0 g HC.out.k p h false _ h1).mono ?_;rintro e w2 ⟨he,h2,f2⟩;rw [HMB.out] at he;subst he;rw [HMU.out] at h2;have FF:Hid (Fr w0.heap.size g.T wr w2):=F1.out.trans f2;obtain ⟨a0,a1⟩:=HVK.out w2 FF.out;have a2:=HMK.out w2 FF.out;obtain ⟨a3,a4⟩:=HYK.out w2 FF.out))
    go_wp2
    go_ret
    refine ⟨ret_bool ?_,?_,(Fr.old hbs hgr.out).trans FF.out⟩
    ·rw [HB.out];rfl
    ·rw [HE.out];first|(rw [if_pos rfl];exact h2)|(rw [if_pos trivial];exact h2)
   ·have HNX:Hid (h.enterL (l.drop (q+1)) (m.params.drop (q+1))=R):=by rw [HSTEP.out,hO,Bool.true_and];rfl
    go_wp2
    go_region_held3 (fun w'=>w'.cell? ⟨b,off+q*2,none⟩=some (.int .i64 X.kind)∧w'.cell? ⟨b,off+q*2+1,none⟩=some (.int .i64 X.n)∧w'.cell? ⟨w.heap.size,0,none⟩=some (.slice (some ⟨b',off',none⟩) m.params.length pp)∧w'.cell? ⟨b',off'+q*2,none⟩=some (.int .i64 Y.kind)∧w'.cell? ⟨b',off'+q*2+1,none⟩=some (.int .i64 Y.cls))
     (go_keep)
     (first
      | (go_at_call 57;refine (of_any w0 g p h X Y _ (by first|exact HH.out _ hgr.out.drew|exact HH.out _ hgr.out) HC.out.cls HC.out.tree HV.out).mono ?_;rintro e w1 ⟨he,h1,f1,b1⟩;rw [hO] at he;subst he;have e0:=b1.cell v0;have e1:=b1.cell v1;have e2:=b1.cell c7;have e3:=b1.cell g0;have e4:=b1.cell g1;have B1:Hid (Bl w w1):=Bl.trans hgr.out.drew b1;have B2:Hid (Bl (w.alloc (meBO m P CC K pp cc kk)) w1):=Bl.trans hgb.out.drew b1;clear f1 b1)
      | (go_at_call 55;refine (must_true w0 g p h _ h1).mono ?_;rintro e w2 ⟨he,hw2⟩;rw [hnv] at he;subst he;rw [hw2];clear hw2 w2))
    go_wp2
    go_roundw
    case rel=>exact ⟨q+1,by omega,by go_num,B1,B2,by rw [HPA.out];exact e2,HNX⟩
    case measure=>simp [intOf];omega
  ·obtain rfl:q=m.params.length:=by omega
   have hRt:R=true:=by
    have:=hr.out
    rw [List.drop_length] at this
    rw [←this]
    unfold Hp.enterL
    split
    ·rename_i h1 h2;simp at h2
    ·rfl
   subst hRt
   obtain ⟨vo,vx,hv,H⟩:=HH.out wr hgr.out
   have c4:=H.cells.c4
   have f4:=H.free 4
   have HA:Hid (HpAt w0 g wr p h vo vx hv):=H
   clear H
   by_cases hd:20≤h.calls
   ·have d1:decide (20≤h.calls)=true:=decide_eq_true hd
    go_wp2_with (go_at_call 108;refine (end_any w0 g HC.out.k p h 5 _ ⟨vo,vx,hv,HA.out⟩).mono ?_;rintro e w1 ⟨rfl,h1,f1⟩)
    go_ret
    have hdp:h.deep=true:=d1
    refine ⟨ret_bool ?_,?_,(Fr.old hbs hgr.out).trans f1⟩
    ·rw [HB.out,hdp];rfl
    ·rw [HE.out];simp only [if_pos hdp];simpa using h1
   ·have d1:decide (20≤h.calls)=false:=decide_eq_false hd
    go_wp2
    go_ret
    have hdp:h.deep=false:=d1
    refine ⟨ret_bool ?_,?_,(Fr.old hbs hgr.out).trans (HA.out.frSet 4 _)⟩
    ·rw [HB.out,hdp];rfl
    ·rw [HE.out,if_neg (by decide),if_neg (by rw [hdp];decide)]
     exact ⟨vo,vx,hv,HA.out.set HC.out.k _ rfl rfl rfl⟩
def TakeEndC (w0:World) (g:Ad) (p:Nat) (a:Ca) (A:Option Addr) (w:World) (many:Nat) (h:Hp) (c:Cal) (l:List Va) (e:Ending) (w':World):Prop :=
 ∃A1 cap1 cap2,e=.returned (.slice A1 many cap1)∧StkAt a.lb w' A1 l∧Hs w0 g w' p h∧CalAt w0 w' a c A cap2∧Fq w0.heap.size g.T a w w'∧many≤cap1
theorem take_yesC (w0:World) (g:Ad) (k:Tk g.T) (p:Nat) (h:Hp) (a:Ca) (c:Cal) (many:Nat) (w:World) (A:Option Addr) (cap:Nat) (hH:Hs w0 g w p h) (H:CalAt w0 w a c A cap) (ho:h.over=false) (hm:many≤c.stk.length) (hs:c.stk.length≤1000) :
  Calls Tryz.prog 56 #[.pointer (some ⟨p,0,none⟩),.pointer (some ⟨a.q,0,none⟩),.int .i64 (many:Int)] w fun e w' =>
   TakeEndC w0 g p a A w many h (c.cut many) (c.top many) e w':=by
 have HC:Hid (CalAt w0 w a c A cap):=H
 have HH:Hid (Hs w0 g w p h):=hH
 have c9:=H.cells.c9
 have f9:=H.free 9
 have hcap:=H.cap
 have hmt:(!h.over)=true:=by rw [ho];rfl
 obtain ⟨n,hn⟩:∃n,c.stk.length=n+many:=⟨c.stk.length-many,by omega⟩
 have e1:c.top many=c.stk.drop n:=by unfold Cal.top;rw [if_pos hm];congr 1;omega
 have e2:c.cut many={ c with stk:=c.stk.take n }:=by unfold Cal.cut;rw [if_pos hm];congr 2;omega
 rw [e1,e2]
 clear e1 e2 H hH hm
 have hlt:(c.stk.take n).length=n:=by simp;omega
 have hld:(c.stk.drop n).length=many:=by simp;omega
 have HS:Hid (StkAt a.lb w A c.stk):=HC.out.stk
 have HN:Hid (c.stk.length=n+many):=hn
 rw [hn] at c9 hs hcap
 clear hn
 go_enter Tryz.func56,Tryz.ntmps56
 go_wp2_with (go_at_call 55;refine (must_true w0 g p h _ HH.out).mono ?_;rintro e w1 ⟨he,hw1⟩;rw [hmt] at he;subst he;subst hw1)
 ·go_ret
  refine ⟨A,_,n,rfl,Or.inl (by omega),HH.out.cf (HC.out.cf k 9 _),?_,HC.out.fq _ 9 _,by omega⟩
  have hx:=HC.out.setStk (cap':=n) (HS.out.take n) (by omega)
  rw [hlt] at hx
  exact hx
 ·go_ret
  refine ⟨_,_,cap,rfl,?_,HH.out.cf (HC.out.cf k 9 _),?_,HC.out.fq _ 9 _,by omega⟩
  ·rcases HS.out with h0|⟨b,off,cs,f,rfl,-⟩
   ·exact Or.inl (by rw [hld];have:=HN.out;omega)
   ·have e:(⟨b,off,none⟩:Addr).add (n*2)=⟨b,off+n*2,none⟩:=by simp [Addr.add]
    have hx:=HC.out.setStk (cap':=cap) (HS.out.take n) (by omega)
    rw [hlt] at hx
    have hy:=HS.out.drop n
    show StkAt a.lb _ (some ((⟨b,off,none⟩:Addr).add (n*2))) _
    rw [e]
    refine hy.keep fun b' cs' f' e' n'=>?_
    rw [block_far]
    ·exact e'
    ·rintro rfl;rw [HC.out.blk] at e';simp at e'
  ·have hx:=HC.out.setStk (cap':=cap) (HS.out.take n) (by omega)
   rw [hlt] at hx
   exact hx
end Go.Proofs.YtgiiapenmjollaaGreat
