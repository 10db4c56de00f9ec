import Derived.Test.YtgiiapenmjollabGreatRlbc
namespace Go.Proofs.YtgiiapenmjollabGreat
set_option linter.all false
set_option maxHeartbeats 40000000
set_option maxRecDepth 100000
open Go.RowKit
theorem back_any (s:Nat) (X:Nat→Prop) (wx w0:World) (g:Mg) (h:Hp) (qs:List Qb) (a:Mc) (c:Cal) (v:Va) (w:World) (H:RX s X wx w0 g w h qs a c) (hp:0≤c.pc∧c.pc<9223372036854775807) (hv:0≤v.kind∧v.kind≤3) :
  Calls Tryz.prog 66 #[mvV (im v),.pointer (some ⟨a.bx,0,none⟩)] w fun e w'=>e=.returned (.tuple #[])∧RX s X wx w0 g w' h qs a { c with giv:=v,cau:=va0,pc:=c.pc+1 }:=by
 have hq:=H.qlt
 have HS:=hid (H.setP (c.pc+1) v va0 hv (by decide))
 obtain ⟨k11,fz,k12,k13,k14,k15⟩:=H.cp
 have hbx:w.cell? ⟨a.bx,0,none⟩=some (.pointer (some ⟨a.q,0,none⟩)):=by
  obtain ⟨vc,vo,vx,vs,l,H⟩:=H
  rw [cell_blk H.ca.box];rfl
 have hlb:a.bx<w.heap.size:=by
  obtain ⟨vc,vo,vx,vs,l,H⟩:=H
  exact lt_some H.ca.box
 have hqb:a.bx≠a.q:=by
  obtain ⟨vc,vo,vx,vs,l,H⟩:=H
  exact blk_ne H.ca.box H.ca.blk (by decide)
 have hn:w.heap.size≠a.q:=by omega
 clear H
 go_enter Tryz.func66,Tryz.ntmps66
 go_wp2
 go_region
 all_goals go_wp2
 all_goals go_end0
 all_goals exact ⟨rfl,HS.out.bl (by repeat (first|exact Bl.refl _|apply Bl.drew|apply Bl.alloc))⟩
end Go.Proofs.YtgiiapenmjollabGreat
