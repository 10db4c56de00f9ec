import Derived.Test.YtgiiapenmjollaaGreatSraw
namespace Go.Proofs.YtgiiapenmjollaaGreat
set_option linter.all false
set_option maxHeartbeats 40000000
set_option maxRecDepth 100000
open Go.RowKit
open Go.Value (int)
open Go.IntKind (i64)
section
variable (s:Nat) (X:Nat->Prop) (wx w0:World) (g:Mg) (h:Hp) (qs:List Nat) (a:Mc) (c:aH)
theorem CZ (w:World) (H:RX s X wx w0 g w h qs a c) (hp:0<=c.pc/\c.pc<9223372036854775807) :
  Calls Tryz.prog 41 #[.pointer (some ⟨a.q,0,none⟩),cn ag] w fun e w'=>e=.returned (.tuple #[])/\RX s X wx w0 g w' h qs a { c with pc:=c.pc+1 }:=by
 have HS:=ab (H.setpc (c.pc+1))
 obtain ⟨c10,fz,-⟩:=H.c10
 have hq:=H.qlt
 clear H
 go_enter Tryz.func41,Tryz.ntmps41
 go_wp2
 go_end0
 exact ⟨rfl,HS.out.bl ((Bl.refl _).alloc _)⟩
theorem GB (v:Va) (w:World) (H:RX s X wx w0 g w h qs a c) (hp:0<=c.pc/\c.pc<9223372036854775807) (hv:1<=v.kind/\v.kind<=3) (hl:c.stk.length<=1000) (hz:(aQ (c.stk++[v]):Int)<=c.m.stack) :
  Calls Tryz.prog 41 #[.pointer (some ⟨a.q,0,none⟩),cn (im v)] w fun e w'=>e=.returned (.tuple #[])/\RX s X wx w0 g w' h qs a { c.put v with pc:=c.pc+1 }:=by
 have HH:=ab H
 have HB:Hid (Bl w (w.alloc (.cells #[int i64 (im v).kind,int i64 (im v).n] 100))):=(Bl.refl w).alloc _
 have HP:Hid (∀X wx w,RX s X wx w0 g w h qs a c->Calls Tryz.prog 95 #[.pointer (some ⟨a.q,0,none⟩),cn (im v)] w fun e w2=>e=.returned (.tuple #[])/\RX s X wx w0 g w2 h qs a (c.put v)):=fun X wx w H=>by
  have:=cM s X wx w0 g h qs a c v w H hv hl
  rw [if_pos hz] at this
  exact this
 have hq:=H.qlt
 have zB:((im v).kind==0)=false:=by
  have:(im v).kind=v.kind:=by unfold im;split<;>rfl
  rw [this];simp;omega
 have mM:Hid ((c.put v).pc=c.pc):=rfl
 clear H hv hl hz
 go_enter Tryz.func41,Tryz.ntmps41
 go_wp2_with (go_at_call 95;refine (HH.out.y.useY HB.out HP.out).mono ?_;rintro e w1 ⟨rfl,H1,K1⟩;clear K1;have tq:=H1.x;have HS:=ab (tq.setpc (c.pc+1));obtain ⟨c10,fz,-⟩:=tq.c10;rw [mM.out] at c10;clear tq H1)
 go_end0
 exact ⟨rfl,HS.out⟩
theorem Ki (v:Va) (w:World) (H:RX s X wx w0 g w h qs a c) (hv:1<=v.kind/\v.kind<=3) (hl:c.stk.length<=1000) (hz:¬(aQ (c.stk++[v]):Int)<=c.m.stack) :
  Calls Tryz.prog 41 #[.pointer (some ⟨a.q,0,none⟩),cn (im v)] w fun e w'=>e=aV 6 0 0/\RX s X wx w0 g w' h qs a (c.put v):=by
 have HH:=ab H
 have HB:Hid (Bl w (w.alloc (.cells #[int i64 (im v).kind,int i64 (im v).n] 100))):=(Bl.refl w).alloc _
 have HP:Hid (∀X wx w,RX s X wx w0 g w h qs a c->Calls Tryz.prog 95 #[.pointer (some ⟨a.q,0,none⟩),cn (im v)] w fun e w2=>e=aV 6 0 0/\RX s X wx w0 g w2 h qs a (c.put v)):=fun X wx w H=>by
  have:=cM s X wx w0 g h qs a c v w H hv hl
  rw [if_neg hz] at this
  exact this
 have hq:=H.qlt
 have zB:((im v).kind==0)=false:=by
  have:(im v).kind=v.kind:=by unfold im;split<;>rfl
  rw [this];simp;omega
 clear H hv hl hz
 go_enter Tryz.func41,Tryz.ntmps41
 go_wp2_with (go_at_call 95;refine (HH.out.y.useY HB.out HP.out).mono ?_;rintro e w1 ⟨rfl,H1,K1⟩;clear K1;have tq:=ab H1.x;clear H1)
 exact ⟨rfl,rfl,tq.out⟩
end
end Go.Proofs.YtgiiapenmjollaaGreat
