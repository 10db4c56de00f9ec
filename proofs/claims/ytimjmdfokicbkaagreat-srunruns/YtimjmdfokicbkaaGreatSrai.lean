import Derived.Test.YtimjmdfokicbkaaGreatSrah
namespace Go.Proofs.YtimjmdfokicbkaaGreat
set_option linter.unusedVariables false
set_option linter.unusedSimpArgs false
set_option maxHeartbeats 40000000
set_option maxRecDepth 100000
open Go.RowKit
open Go.Value (int)
open Go.IntKind (i64)
section
open Go.Maps (Keyed has)
theorem EE (s:Nat) (X:Nat->Prop) (wx w0:World) (g:Mg) (h:Hp) (qs:List Nat) (a:Mc) (c:aH) (o cc k j:Nat) (w:World) (H:RX s X wx w0 g w h qs a c) (F:Fix w0 g h) (iz:h.objs.length≤100) (ho:o<h.objs.length) (hc:cc<h.file.classes.length) (hk:k<(nth cd h.file.classes cc).fields.length) (hj:j<(nth cA h.objs o).held.length) (h3:(nth cG (nth cA h.objs o).held j).cls=cc) (h4:(nth cG (nth cA h.objs o).held j).fld=k) :
  Calls Tryz.prog 211 #[.pointer (some ⟨g.hb,0,none⟩),cn ⟨3,(o:Int)+1⟩,int i64 cc,int i64 k] w fun e w'=>e=.returned (cn (im (nth cG (nth cA h.objs o).held j).v))/\RX s X wx w0 g w' h qs a c:=by
 have H0:=H
 obtain ⟨vc,vo,vx,vs,l,H⟩:=H
 obtain ⟨n,D,FF⟩:=H.rh.fld
 obtain ⟨m1,m2,m3⟩:=tx F.may hc
 have ic:cP (cc:Int):=by unfold cP;omega
 have ik:cP (k:Int):=by unfold cP;omega
 have hx:∃x∈(nth cA h.objs o).held,x.cls=(cc:Int)/\x.fld=(k:Int)/\x.v=(nth cG (nth cA h.objs o).held j).v:=⟨_,bE hj,h3,h4,rfl⟩
 cases hh:has D (jW ((o:Int)+1) cc k) with
 | true=>exact EB s X wx w0 g h qs a c o cc k _ n D w H0 F FF.own (by omega) hc hk m1 m2 hh (FF.hit o cc k _ ho ic ik hx hh)
 | false =>
  have e:=FF.miss o cc k _ ho ic ik hx hh
  rw [e,I4,gP]
  exact BQ s X wx w0 g h qs a c o cc k ag n D w H0 F FF.own (by omega) hc hk m1 m2 hh
end
end Go.Proofs.YtimjmdfokicbkaaGreat
