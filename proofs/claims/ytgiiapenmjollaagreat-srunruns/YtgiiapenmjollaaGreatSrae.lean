import Derived.Test.YtgiiapenmjollaaGreatSrad
namespace Go.Proofs.YtgiiapenmjollaaGreat
set_option linter.all false
set_option maxHeartbeats 40000000
set_option maxRecDepth 100000
open Go.RowKit
open Go.Value (int)
open Go.IntKind (i64)
theorem BB (lb lc n:Nat) (l:List Va) (w:World) (B:cu w lb l) (hn:n+1<l.length) (hl:l.length<=1000) (hk:(nth ag l n).kind=2) (h4:(nth ag l (n+1)).kind=4) :
  Calls Tryz.prog 149 #[.slice (some ⟨lb,0,none⟩) l.length lc,int i64 (n:Int),int i64 2] w fun e w'=>e=.returned (cn (nth ag l n))/\Bl w w':=by
 have x0:=B.c0 (i:=n) (by omega)
 have x1:=B.c1 (i:=n) (by omega)
 have Rb:=ab (B.c0 (i:=n+1) hn)
 have Rc:=ab (B.c1 (i:=n+1) hn)
 have hlt:=af B.blk
 have kv:(0:Int)<=(n:Int):=by omega
 have kg:(n:Int)<(l.length:Int):=by omega
 have ID:(0:Int)<=(n:Int)+1:=by omega
 have Tn:(n:Int)+1<(l.length:Int):=by omega
 have HK:=ab hk
 have Rd:=ab h4
 have HL:=ab (aD w #[int i64 0,int i64 0] 100)
 have HB:Hid (Bl w (w.alloc eT)):=(Bl.refl w).alloc _
 generalize nth ag l n=u at *
 generalize nth ag l (n+1)=u' at *
 clear B hk h4
 go_enter Tryz.func149,Tryz.ntmps149
 go_wp2_with (go_at_call 144;first
  | (refine (eI u 2 _ HK.out).mono ?_;rintro e w2 ⟨rfl,b2⟩;have q0:=ai b2 HL.out;have y2:=b2.cell (Bl.cell HB.out Rb.out);have y3:=b2.cell (Bl.cell HB.out Rc.out);have gJ:=af q0;have mZ:=bC y2;replace b2:=ab b2;replace q0:=ab q0)
  | (refine (eI u' 4 _ Rd.out).mono ?_;rintro e w3 ⟨rfl,b3⟩;replace q0:=ab (ai b3 ((Below.heap_alloc _ _ _ (af q0.out)).trans q0.out));have r0:=b3.cell (ak (w:=w2) (cs:=#[int i64 u.kind,int i64 u.n]) (t:=100) (o:=0) rfl);have r1:=b3.cell (ak (w:=w2) (cs:=#[int i64 u.kind,int i64 u.n]) (t:=100) (o:=1) rfl);have c4:=aK q0.out;have c5:=aI q0.out;have fz:=ay q0.out;replace b3:=ab b3))
 refine bodyPost_ret (results_cell_row rfl _ _ w.heap.size _ _ _ _ rfl (bQ q0.out) Tryz.underlying100 rfl bK) rfl ?_
 exact ⟨rfl,kB ((HB.out.trans (b2.out.alloc _)).trans b3.out) (Nat.le_refl _) _ _⟩
end Go.Proofs.YtgiiapenmjollaaGreat
