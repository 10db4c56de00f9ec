import Derived.Test.YtgiiapenmjollabGreatRlaf
namespace Go.Proofs.YtgiiapenmjollabGreat
set_option linter.all false
set_option maxHeartbeats 40000000
set_option maxRecDepth 100000
open Go.RowKit
theorem read_lost (lb lc n:Nat) (l:List Va) (w:World) (B:LBox w lb l) (hn:n+1<l.length) (hl:l.length≤1000) (hk:(nth va0 l n).kind=2) (h4:(nth va0 l (n+1)).kind≠4) :
  Calls Tryz.prog 199 #[.slice (some ⟨lb,0,none⟩) l.length lc,.int .i64 (n:Int),.int .i64 2] w fun e w'=>e=stopE 6 0 0∧Bl w w':=by
 have x0:=B.c0 (i:=n) (by omega)
 have x1:=B.c1 (i:=n) (by omega)
 have HX2:=hid (B.c0 (i:=n+1) hn)
 have HX3:=hid (B.c1 (i:=n+1) hn)
 have hlt:=lt_some B.blk
 have hn0:(0:Int)≤(n:Int):=by omega
 have hn1:(n:Int)<(l.length:Int):=by omega
 have hn2:(0:Int)≤(n:Int)+1:=by omega
 have hn3:(n:Int)+1<(l.length:Int):=by omega
 have HK:=hid hk
 have HK4:=hid h4
 have HB:Hid (Bl w (w.alloc mvZ)):=(Bl.refl w).alloc _
 generalize nth va0 l n=u at *
 generalize nth va0 l (n+1)=u' at *
 clear B hk h4
 go_enter Tryz.func199,Tryz.ntmps199
 go_wp2_with (go_at_call 261;first
  | (refine (mustbe_yes u 2 _ HK.out).mono ?_;rintro e w2 ⟨rfl,b2⟩;have y2:=b2.cell (Bl.cell HB.out HX2.out);have y3:=b2.cell (Bl.cell HB.out HX3.out);have hl1:=cell_lt y2;replace b2:=hid b2)
  | (refine (mustbe_no u' 4 _ HK4.out).mono ?_;rintro e w3 ⟨rfl,b3⟩;replace b3:=hid b3))
 exact ⟨rfl,rfl,(HB.out.trans (b2.out.alloc _)).trans b3.out⟩
end Go.Proofs.YtgiiapenmjollabGreat
