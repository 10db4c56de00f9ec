import Derived.Test.YtimjmdfokicbkabGreatRlac
namespace Go.Proofs.YtimjmdfokicbkabGreat
set_option linter.unusedVariables false
set_option linter.unusedSimpArgs false
set_option maxHeartbeats 40000000
open Go.RowKit
def MeBox (w:World) (b off:Nat) (m:Me) (P C K:Option Addr) (p c k:Nat):Prop :=
 w.cell? ⟨b,off,none⟩=some (.slice P m.params.length p)∧w.cell? ⟨b,off+1,none⟩=some (.int .i64 m.ret.kind)∧w.cell? ⟨b,off+2,none⟩=some (.int .i64 m.ret.cls)
  ∧ w.cell? ⟨b,off+3,none⟩=some (.int .i64 m.stack)∧w.cell? ⟨b,off+4,none⟩=some (.int .i64 m.locs)∧w.cell? ⟨b,off+5,none⟩=some (.int .i64 m.regs)
  ∧ w.cell? ⟨b,off+6,none⟩=some (.slice C m.code.length c)∧w.cell? ⟨b,off+7,none⟩=some (.slice K m.hands.length k)
theorem MeBox.bl {w w':World} (h:Bl w w') {b off:Nat} {m:Me} {P C K:Option Addr} {p c k:Nat} (hb:MeBox w b off m P C K p c k):MeBox w' b off m P C K p c k :=
 ⟨h.cell hb.1,h.cell hb.2.1,h.cell hb.2.2.1,h.cell hb.2.2.2.1,h.cell hb.2.2.2.2.1,h.cell hb.2.2.2.2.2.1,h.cell hb.2.2.2.2.2.2.1,h.cell hb.2.2.2.2.2.2.2⟩
abbrev meV (m:Me) (P C K:Option Addr) (p c k:Nat):Value :=
 .agg #[.slice P m.params.length p,.int .i64 m.ret.kind,.int .i64 m.ret.cls,.int .i64 m.stack,.int .i64 m.locs,.int .i64 m.regs,.slice C m.code.length c,.slice K m.hands.length k]
abbrev fiV (nc nm:Nat) (A B:Option Addr) (a b:Nat):Value:=.agg #[.slice A nc a,.slice B nm b]
def FiBox (w:World) (b off:Nat) (nc nm:Nat) (A B:Option Addr) (x y:Nat):Prop :=
 w.cell? ⟨b,off,none⟩=some (.slice A nc x)∧w.cell? ⟨b,off+1,none⟩=some (.slice B nm y)
theorem FiBox.bl {w w':World} (h:Bl w w') {b off nc nm:Nat} {A B:Option Addr} {x y:Nat} (hb:FiBox w b off nc nm A B x y):FiBox w' b off nc nm A B x y:=⟨h.cell hb.1,h.cell hb.2⟩
theorem mes_ok {w:World} {B:Option Addr} {l:List Me} (h:MesAt w B l):∀m∈l,∀i∈m.code,i.ok:=by
 intro m hm i hi
 obtain ⟨j,hj,rfl⟩:=List.getElem_of_mem hm
 rcases h.2 with h0|⟨mb,mo,-,hcell⟩
 ·omega
 obtain ⟨P,C,J,p,c,k,-,-,-,-,-,-,-,-,hme⟩:=hcell j hj
 rw [nth_get hj] at hme
 obtain ⟨q,hq,rfl⟩:=List.getElem_of_mem hi
 rcases hme.2.1.2 with h0|⟨xb,xo,-,hc⟩
 ·omega
 ·have:=(hc q hq).2.2.2.2.2.1
  rw [nth_get hq] at this
  exact this
theorem ints_ok {w:World} {I:Option Addr} {l:List Int} (h:IntsAt w I l):∀n∈l,I64 n:=by
 intro n hn
 obtain ⟨j,hj,rfl⟩:=List.getElem_of_mem hn
 rcases h.2 with h0|⟨b,off,-,hc⟩
 ·omega
 ·have:=(hc j hj).2
  rw [nth_get hj] at this
  exact this
def RowAt (w:World) (A:Option Addr) (l:List Int):Prop :=
 l.length≤maxLen∧(l.length=0∨∃b off,A=some ⟨b,off,none⟩∧∀i,i<l.length→w.cell? ⟨b,off+i,none⟩=some (.int .i64 (nth (0:Int) l i)))
theorem RowAt.bl {w w':World} {A:Option Addr} {l:List Int} (h:RowAt w A l) (hb:Bl w w'):RowAt w' A l:=by
 refine ⟨h.1,?_⟩
 rcases h.2 with h0|⟨b,off,e,hc⟩
 ·exact Or.inl h0
 ·exact Or.inr ⟨b,off,e,fun i hi=>hb.cell (hc i hi)⟩
theorem row_at {w:World} {base:Nat} {v:Value} {l:List Int} (h:w.ownsRow base 2 1 v l.length (l.map (Value.int .i64))):∃A cap,v=.slice A l.length cap∧RowAt w A l:=by
 rcases h.2 with ⟨h1,h0⟩|⟨gb,cap,cur,rfl,h2,h3,h4,h5,h6,h7⟩
 ·exact ⟨none,0,by rw [h1,h0],by unfold maxLen;omega,Or.inl h0⟩
 ·refine ⟨_,cap,rfl,by omega,Or.inr ⟨gb,0,rfl,fun i hi=>?_⟩⟩
  rw [cell_blk h3]
  have h8:(cur.toList.take (l.length*1))[i]?=(l.map (Value.int .i64))[i]?:=by rw [h7]
  rw [List.getElem?_take,if_pos (by omega)] at h8
  rw [Nat.zero_add,←Array.getElem?_toList,h8,List.getElem?_map,List.getElem?_eq_getElem hi,nth_get hi]
  rfl
end Go.Proofs.YtimjmdfokicbkabGreat
