import Derived.Test.YtgiiapenmjollaaSlbc
namespace Go.Proofs.Ytgiiapenmjollaa
set_option linter.all false
set_option maxHeartbeats 40000000
open Go.RowKit
set_option maxRecDepth 100000 in
theorem back_void (s:Nat) (X:Nat→Prop) (wx w0:World) (g:Mg) (h:Hp) (qs:List Nat) (a:Mc) (c:Cal) (w:World) (H:RX s X wx w0 g w h qs a c) (hp:0≤c.pc∧c.pc<9223372036854775807) :
  Calls Try.prog 67 #[.pointer (some ⟨a.q,0,none⟩),mvV va0] w fun e w'=>e=.returned (.tuple #[])∧RX s X wx w0 g w' h qs a { c with pc:=c.pc+1 }:=by
 have HS:=hid (H.setpc (c.pc+1))
 obtain ⟨c10,fz,-⟩:=H.c10
 have hq:=H.qlt
 clear H
 go_enter Try.func67,Try.ntmps67
 go_wp2
 go_end0
 exact ⟨rfl,HS.out.bl ((Bl.refl _).alloc _)⟩
set_option maxRecDepth 100000 in
theorem back_put (s:Nat) (X:Nat→Prop) (wx w0:World) (g:Mg) (h:Hp) (qs:List Nat) (a:Mc) (c:Cal) (v:Va) (w:World) (H:RX s X wx w0 g w h qs a c) (hp:0≤c.pc∧c.pc<9223372036854775807) (hv:1≤v.kind∧v.kind≤3) (hl:c.stk.length≤1000) (hz:(sizP (c.stk++[v]):Int)≤c.m.stack) :
  Calls Try.prog 67 #[.pointer (some ⟨a.q,0,none⟩),mvV (im v)] w fun e w'=>e=.returned (.tuple #[])∧RX s X wx w0 g w' h qs a { c.put v with pc:=c.pc+1 }:=by
 have HH:=hid H
 have HB:Hid (Bl w (w.alloc (.cells #[.int .i64 (im v).kind,.int .i64 (im v).n] 109))):=(Bl.refl w).alloc _
 have HP:Hid (∀X wx w,RX s X wx w0 g w h qs a c→Calls Try.prog 95 #[.pointer (some ⟨a.q,0,none⟩),mvV (im v)] w fun e w2=>e=.returned (.tuple #[])∧RX s X wx w0 g w2 h qs a (c.put v)):=fun X wx w H=>by
  have:=mput_any s X wx w0 g h qs a c v w H hv hl
  rw [if_pos hz] at this
  exact this
 have hq:=H.qlt
 have hk0:((im v).kind==0)=false:=by
  have:(im v).kind=v.kind:=by unfold im;split<;>rfl
  rw [this];simp;omega
 have HPC:Hid ((c.put v).pc=c.pc):=rfl
 clear H hv hl hz
 go_enter Try.func67,Try.ntmps67
 go_wp2_with (go_at_call 95;refine (HH.out.y.useY HB.out HP.out).mono ?_;rintro e w1 ⟨rfl,H1,K1⟩;clear K1;have HX1:=H1.x;have HS:=hid (HX1.setpc (c.pc+1));obtain ⟨c10,fz,-⟩:=HX1.c10;rw [HPC.out] at c10;clear HX1 H1)
 go_end0
 exact ⟨rfl,HS.out⟩
set_option maxRecDepth 100000 in
theorem back_no (s:Nat) (X:Nat→Prop) (wx w0:World) (g:Mg) (h:Hp) (qs:List Nat) (a:Mc) (c:Cal) (v:Va) (w:World) (H:RX s X wx w0 g w h qs a c) (hv:1≤v.kind∧v.kind≤3) (hl:c.stk.length≤1000) (hz:¬(sizP (c.stk++[v]):Int)≤c.m.stack) :
  Calls Try.prog 67 #[.pointer (some ⟨a.q,0,none⟩),mvV (im v)] w fun e w'=>e=stopE 6 0 0∧RX s X wx w0 g w' h qs a (c.put v):=by
 have HH:=hid H
 have HB:Hid (Bl w (w.alloc (.cells #[.int .i64 (im v).kind,.int .i64 (im v).n] 109))):=(Bl.refl w).alloc _
 have HP:Hid (∀X wx w,RX s X wx w0 g w h qs a c→Calls Try.prog 95 #[.pointer (some ⟨a.q,0,none⟩),mvV (im v)] w fun e w2=>e=stopE 6 0 0∧RX s X wx w0 g w2 h qs a (c.put v)):=fun X wx w H=>by
  have:=mput_any s X wx w0 g h qs a c v w H hv hl
  rw [if_neg hz] at this
  exact this
 have hq:=H.qlt
 have hk0:((im v).kind==0)=false:=by
  have:(im v).kind=v.kind:=by unfold im;split<;>rfl
  rw [this];simp;omega
 clear H hv hl hz
 go_enter Try.func67,Try.ntmps67
 go_wp2_with (go_at_call 95;refine (HH.out.y.useY HB.out HP.out).mono ?_;rintro e w1 ⟨rfl,H1,K1⟩;clear K1;have HX1:=hid H1.x;clear H1)
 exact ⟨rfl,rfl,HX1.out⟩
end Go.Proofs.Ytgiiapenmjollaa
