import Derived.Test.YtgiiapenmjollaaGreatSrai
namespace Go.Proofs.YtgiiapenmjollaaGreat
set_option linter.all false
set_option maxHeartbeats 40000000
set_option maxRecDepth 100000
open Go.RowKit
open Go.Value (int)
open Go.IntKind (i64)
section
open Go.Maps (Keyed has)
theorem Ez (s:Nat) (X:Nat->Prop) (wx w0:World) (g:Mg) (h:Hp) (qs:List Nat) (a:Mc) (c:aH) (o cc k j:Nat) (w:World) (H:RX s X wx w0 g w h qs a c) (F:Fix w0 g h) (iD:h.objs.length<=100) (ho:o<h.objs.length) (hc:cc<h.file.classes.length) (hk:k<(nth cg h.file.classes cc).fields.length) (hj:j<(nth cB h.objs o).held.length) (h3:(nth cH (nth cB h.objs o).held j).cls=cc) (h4:(nth cH (nth cB h.objs o).held j).fld=k) :
  Calls Tryz.prog 196 #[.pointer (some ⟨g.hb,0,none⟩),cn ⟨3,(o:Int)+1⟩,int i64 cc,int i64 k] w fun e w'=>e=.returned (cn (im (nth cH (nth cB h.objs o).held j).v))/\RX s X wx w0 g w' h qs a c:=by
 have H0:=H
 obtain ⟨vc,vo,vx,vs,l,H⟩:=H
 obtain ⟨n,D,FF⟩:=H.rh.fld
 obtain ⟨m1,m2,m3⟩:=tA F.may hc
 have ic:cP (cc:Int):=by unfold cP;omega
 have ik:cP (k:Int):=by unfold cP;omega
 have hx:∃x∈(nth cB h.objs o).held,x.cls=(cc:Int)/\x.fld=(k:Int)/\x.v=(nth cH (nth cB h.objs o).held j).v:=⟨_,bJ hj,h3,h4,rfl⟩
 cases hh:has D (ju ((o:Int)+1) cc k) with
 | true=>exact Ex s X wx w0 g h qs a c o cc k _ n D w H0 F FF.own (by omega) hc hk m1 m2 hh (FF.hit o cc k _ ho ic ik hx hh)
 | false =>
  have e:=FF.miss o cc k _ ho ic ik hx hh
  rw [e,IZ,gP]
  exact BQ s X wx w0 g h qs a c o cc k ag n D w H0 F FF.own (by omega) hc hk m1 m2 hh
end
end Go.Proofs.YtgiiapenmjollaaGreat
