import Derived.Test.YtfncnhlihmnkiaaGreatSsal
namespace Go.Proofs.YtfncnhlihmnkiaaGreat
set_option linter.all false
set_option maxHeartbeats 40000000
set_option maxRecDepth 100000
open Go.RowKit
theorem put_done {w0:World} {g:Ad} (k:Tk g.T) {p:Nat} {h:Hp} {a:Ca} {c:Cal} {v:Va} {w w2:World} {A:Option Addr} {cap gg cap2:Nat} (HH:Hs w0 g (w.alloc (vaO v)) p h) (HC:CalAt w0 (w.alloc (vaO v)) a c A cap) (hlb:a.lb<w.heap.size) (hbs:w0.heap.size≤w.heap.size)
  (hb:Bl (w.alloc (vaO v)) w2) (ho:w2.ownsRow (w.heap.size+1) 62 2 (.slice (some ⟨gg,0,none⟩) (c.stk.length+1) cap2) (c.stk.length+1) (vaCells c.stk++[.int .i64 v.kind,.int .i64 v.n])) :
  CalAt w0 (w2.setCell ⟨a.q,9,none⟩ (.slice (some ⟨gg,0,none⟩) (c.stk.length+1) cap2)) a (c.put v) (some ⟨gg,0,none⟩) cap2 ∧
  Hs w0 g (w2.setCell ⟨a.q,9,none⟩ (.slice (some ⟨gg,0,none⟩) (c.stk.length+1) cap2)) p h ∧
  Fq w0.heap.size g.T a w (w2.setCell ⟨a.q,9,none⟩ (.slice (some ⟨gg,0,none⟩) (c.stk.length+1) cap2)):=by
 have e:vaCells c.stk++[.int .i64 v.kind,.int .i64 v.n]=vaCells (c.stk++[v]):=by rw [vaCells_append];rfl
 rw [e] at ho
 obtain ⟨hs,hc⟩:=own_stk ho (lb:=a.lb) (by omega) (by simp)
 have H2:=HC.old hb
 have h1:=H2.setStk hs hc
 have el:(c.stk++[v]).length=c.stk.length+1:=by simp
 rw [el] at h1
 refine ⟨h1,(HH.old hb).cf (H2.cf k 9 _),Fq.trans (Fr.fq ?_) (H2.fq _ 9 _)⟩
 exact Fr.old hbs (Bl.trans ((Bl.refl w).alloc _) hb)
theorem cput_any (w0:World) (g:Ad) (k:Tk g.T) (p:Nat) (h:Hp) (a:Ca) (c:Cal) (v:Va) (w:World) (hH:Hs w0 g w p h) (hC:Cs w0 w a c) (hs:c.stk.length≤1000) :
  Calls Tryz.prog 60 #[.pointer (some ⟨p,0,none⟩),.pointer (some ⟨a.q,0,none⟩),vaV v] w fun e w' =>
   e=.returned (.tuple #[])∧Hs w0 g w' p (h.putH c v)∧Cs w0 w' a (c.put v)∧Fq w0.heap.size g.T a w w':=by
 have hbs:=hH.base
 have HF:Hid (Fr w0.heap.size g.T w (w.alloc (vaO v))):=(Fr.refl _ _ w).alloc hbs _
 have HH:Hid (Hs w0 g (w.alloc (vaO v)) p h):=hH.cf ((Cf.refl _ _ w).alloc hbs _)
 have HV:Hid (VaBox (w.alloc (vaO v)) w.heap.size v):=VaBox.new w v
 obtain ⟨A,cap,H0⟩:=hC
 have hq0:a.q<w.heap.size:=lt_some H0.blk
 have hlb:a.lb<w.heap.size:=lt_some H0.loc.blk
 have H:=H0.fr k HF.out
 have HC:Hid (CalAt w0 (w.alloc (vaO v)) a c A cap):=H
 have c9:=H.cells.c9
 have f9:=H.free 9
 have v0:=HV.out.c0
 have v1:=HV.out.c1
 clear H hH H0
 obtain ⟨i0,hi0,hz0,hz1,hz2⟩:=info_parts info_va3
 have hsz:(w.alloc (vaO v)).heap.size=w.heap.size+1:=by simp
 have k1:a.q<w.heap.size+1:=by omega
 have k2:a.q<w.heap.size+1+1:=by omega
 have k3:a.q<w.heap.size+1+1+1:=by omega
 go_enter Tryz.func60,Tryz.ntmps60
 go_wp2
 have HS:Hid (∀W,Bl (w.alloc (vaO v)) W→StkAt a.lb W A c.stk):=fun W hb=>HC.out.stk.keep fun b cs f e _=>(hb.block _ (lt_some e)).trans e
 have HQ:Hid (∀W,Bl (w.alloc (vaO v)) W→W.cell? ⟨a.q,9,none⟩=some (.slice A c.stk.length cap)∧W.frozen? ⟨a.q,9,none⟩=false∧W.cell? ⟨w.heap.size,0,none⟩=some (.int .i64 v.kind)∧W.cell? ⟨w.heap.size,1,none⟩=some (.int .i64 v.n)) :=
  fun W hb=>⟨hb.cell HC.out.cells.c9,(Below.frozen hb (p:=⟨a.q,9,none⟩) (by simp;omega)).trans (HC.out.free 9),hb.cell HV.out.c0,hb.cell HV.out.c1⟩
 go_region_law (first
  | (refine step_put1 rfl _ _ rfl (w.heap.size+1) _ rfl (by first|exact blk_at (by simp)|exact blk_up (by simp) (blk_at (by simp))) (by simp) A c.stk.length cap a.lb c.stk rfl rfl (HS.out _ (by repeat (first|exact Bl.refl _|refine Bl.alloc ?_ _|refine Bl.drew ?_))) hs ?_;intro v1 w1 own1 hg1 hat1;have hb1:Bl (w.alloc (vaO v)) w1:=(bl_grown (by repeat (first|exact Bl.refl _|refine Bl.alloc ?_ _|refine Bl.drew ?_)) hg1 (by intro k hk;simp at hk;rw [hsz];omega));have ha1:∀k,v1.ownBlock=some k→w.heap.size+1≤k:=(by intro k hk;rw [hk] at hat1;simp at hat1;omega);obtain ⟨q9,z9,r0,r1⟩:=HQ.out w1 hb1)
  | (refine step_append_lies _ rfl _ _ _ rfl (w.heap.size+1) 62 i0 _ 2 16 Tryz.underlying58 hi0 hz0 hz1 hz2 rfl (by omega) v1 c.stk.length (vaCells c.stk) rfl (by first|exact own1|exact own1.alloc _) _ 1 1 [.int .i64 v.kind,.int .i64 v.n] rfl rfl (World.news_of_block (cs:=#[.int .i64 v.kind,.int .i64 v.n]) (t:=62) (fr:=(0,0)) (by first|exact blk_at rfl|(rw [hg1.block _ (by simp) (by simp)];first|exact blk_at (by simp)|exact blk_up (by simp) (blk_at (by simp))))) (by simp [Value.oneCell']) (by omega) (by unfold maxLen;omega) (by omega) (by have:=hb1.size;rw [hsz] at this;simp;omega) _ rfl ?_;intro gg cap2 w2 own2 hgrow hat hlt;have hb2:Bl (w.alloc (vaO v)) w2:=(bl_grown (by first|exact hb1|exact hb1.alloc _) hgrow (by rw [hsz];exact ha1));obtain ⟨p9,y9,-,-⟩:=HQ.out w2 hb2))
 all_goals
  obtain ⟨HCF,HHF,HFQ⟩:=put_done k HH.out HC.out hlb hbs hb2 own2
  have HCF':Hid (CalAt w0 (w2.setCell ⟨a.q,9,none⟩ (.slice (some ⟨gg,0,none⟩) (c.stk.length+1) cap2)) a (c.put v) (some ⟨gg,0,none⟩) cap2):=HCF
  have HHF':Hid (Hs w0 g (w2.setCell ⟨a.q,9,none⟩ (.slice (some ⟨gg,0,none⟩) (c.stk.length+1) cap2)) p h):=HHF
  have HFQ':Hid (Fq w0.heap.size g.T a w (w2.setCell ⟨a.q,9,none⟩ (.slice (some ⟨gg,0,none⟩) (c.stk.length+1) cap2))):=HFQ
  have s3:=HCF.cells.c3
  have hms:(c.put v).m.stack=c.m.stack:=rfl
  rw [hms] at s3
  clear hms HCF HHF HFQ own2 hgrow hat hlt
  cases hst:h.stops
  ·go_wp2_with (first
    | (go_at_call 53;refine (size_at _ _ _ (c.stk++[v]) _ (HCF'.out.stk.vas (by unfold maxLen;simp [Cal.put];omega)) (by simp;omega) (by simp)).mono ?_;rintro e w3 ⟨rfl,hw3⟩;rw [hw3];clear hw3 w3)
    | (go_at_call 112;refine (stops_any w0 g p h _ HHF'.out).mono ?_;rintro e w4 ⟨he,hw4⟩;rw [hst] at he;subst he;rw [hw4];clear hw4 w4)
    | (go_at_call 55;refine (must_any w0 g k p h _ _ HHF'.out).mono ?_;rintro e w5 ⟨rfl,h5,f5⟩))
   go_end0
   refine ⟨rfl,?_,⟨_,_,HCF'.out.fr k f5⟩,HFQ'.out.trans f5.fq⟩
   have hr:h.putH c v=h.must (decide ((sizP (c.stk++[v]):Int)≤c.m.stack)):=by unfold Hp.putH;rw [if_neg (by rw [hst];decide)]
   rw [hr]
   exact h5
  ·go_wp2_with (first
    | (go_at_call 53;refine (size_at _ _ _ (c.stk++[v]) _ (HCF'.out.stk.vas (by unfold maxLen;simp [Cal.put];omega)) (by simp;omega) (by simp)).mono ?_;rintro e w3 ⟨rfl,hw3⟩;rw [hw3];clear hw3 w3)
    | (go_at_call 112;refine (stops_any w0 g p h _ HHF'.out).mono ?_;rintro e w4 ⟨he,hw4⟩;rw [hst] at he;subst he;rw [hw4];clear hw4 w4))
   go_end0
   have hr:h.putH c v=h:=by unfold Hp.putH;rw [if_pos hst]
   rw [hr]
   exact ⟨rfl,HHF'.out,⟨_,_,HCF'.out⟩,HFQ'.out⟩
end Go.Proofs.YtfncnhlihmnkiaaGreat
