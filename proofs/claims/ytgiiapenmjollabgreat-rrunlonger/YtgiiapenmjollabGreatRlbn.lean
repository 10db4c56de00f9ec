import Derived.Test.YtgiiapenmjollabGreatRlbl
import Derived.Test.YtgiiapenmjollabGreatRlbm
import Derived.Test.YtgiiapenmjollabGreatChecked
import Derived.KernelRfl
import Derived.ProofKit
import Derived.OpenShut
import Derived.ReadAgain
namespace Go.Proofs.YtgiiapenmjollabGreat
set_option linter.all false
set_option maxHeartbeats 40000000
set_option maxRecDepth 100000
open Go.RowKit
theorem FiBox.new (w:World) (nc nm:Nat) (A B:Option Addr) (x y:Nat):FiBox (w.alloc (fiO nc nm A B x y)) w.heap.size 0 nc nm A B x y:=⟨cell_of_new rfl,cell_of_new rfl⟩
structure SCells3 (w:World) (b:Nat) (nc nm:Nat) (A B:Option Addr) (x y:Nat) (m:Me) (P C K:Option Addr) (p c k:Nat) (i:In) (Q:Option Addr) (q:Nat):Prop where
 f0:w.cell? ⟨b,0,none⟩=some (.slice A nc x)
 f1:w.cell? ⟨b,1,none⟩=some (.slice B nm y)
 m:MeCells w (b+1) m P C K p c k
 i0:w.cell? ⟨b+1+1,0,none⟩=some (.int .i64 i.op)
 i1:w.cell? ⟨b+1+1,1,none⟩=some (.int .i64 i.a)
 i2:w.cell? ⟨b+1+1,2,none⟩=some (.int .i64 i.b)
 i3:w.cell? ⟨b+1+1,3,none⟩=some (.int .i64 i.c)
 i4:w.cell? ⟨b+1+1,4,none⟩=some (.int .i64 i.n)
 i5:w.cell? ⟨b+1+1,5,none⟩=some (.slice Q i.args.length q)
theorem SCells3.bl {w w':World} (h:Bl w w') {b nc nm:Nat} {A B:Option Addr} {x y:Nat} {m:Me} {P C K:Option Addr} {p c k:Nat} {i:In} {Q:Option Addr} {q:Nat}
  (hb:SCells3 w b nc nm A B x y m P C K p c k i Q q):SCells3 w' b nc nm A B x y m P C K p c k i Q q :=
 ⟨h.cell hb.f0,h.cell hb.f1,hb.m.bl h,h.cell hb.i0,h.cell hb.i1,h.cell hb.i2,h.cell hb.i3,h.cell hb.i4,h.cell hb.i5⟩
abbrev W3 (w:World) (nc nm:Nat) (A B:Option Addr) (x y:Nat) (m:Me) (P C K:Option Addr) (p c k:Nat) (i:In) (Q:Option Addr) (q:Nat):World :=
 ((w.alloc (fiO nc nm A B x y)).alloc (meO m P C K p c k)).alloc (inO i Q q)
theorem SCells3.new (w:World) (nc nm:Nat) (A B:Option Addr) (x y:Nat) (m:Me) (P C K:Option Addr) (p c k:Nat) (i:In) (Q:Option Addr) (q:Nat) :
  SCells3 (W3 w nc nm A B x y m P C K p c k i Q q) w.heap.size nc nm A B x y m P C K p c k i Q q:=by
 have h1:(w.alloc (fiO nc nm A B x y)).heap.size=w.heap.size+1:=World.size_alloc ..
 have h2:((w.alloc (fiO nc nm A B x y)).alloc (meO m P C K p c k)).heap.size=w.heap.size+1+1:=by rw [World.size_alloc,World.size_alloc]
 have b2:Bl (w.alloc (fiO nc nm A B x y)) (W3 w nc nm A B x y m P C K p c k i Q q):=((Bl.refl _).alloc _).alloc _
 have b3:Bl ((w.alloc (fiO nc nm A B x y)).alloc (meO m P C K p c k)) (W3 w nc nm A B x y m P C K p c k i Q q):=(Bl.refl _).alloc _
 have hm:=(MeCells.new (w.alloc (fiO nc nm A B x y)) m P C K p c k).bl b3
 rw [h1] at hm
 refine ⟨b2.cell (cell_of_new rfl),b2.cell (cell_of_new rfl),hm,?_,?_,?_,?_,?_,?_⟩<;>rw [←h2]<;>exact cell_of_new rfl
structure SCells2 (w:World) (b:Nat) (nc nm:Nat) (A B:Option Addr) (x y:Nat) (m:Me) (P C K:Option Addr) (p c k:Nat):Prop where
 f0:w.cell? ⟨b,0,none⟩=some (.slice A nc x)
 f1:w.cell? ⟨b,1,none⟩=some (.slice B nm y)
 m:MeCells w (b+1) m P C K p c k
theorem SCells2.bl {w w':World} (h:Bl w w') {b nc nm:Nat} {A B:Option Addr} {x y:Nat} {m:Me} {P C K:Option Addr} {p c k:Nat}
  (hb:SCells2 w b nc nm A B x y m P C K p c k):SCells2 w' b nc nm A B x y m P C K p c k:=⟨h.cell hb.f0,h.cell hb.f1,hb.m.bl h⟩
theorem SCells2.new (w:World) (nc nm:Nat) (A B:Option Addr) (x y:Nat) (m:Me) (P C K:Option Addr) (p c k:Nat) :
  SCells2 ((w.alloc (fiO nc nm A B x y)).alloc (meO m P C K p c k)) w.heap.size nc nm A B x y m P C K p c k:=by
 have b2:Bl (w.alloc (fiO nc nm A B x y)) ((w.alloc (fiO nc nm A B x y)).alloc (meO m P C K p c k)):=(Bl.refl _).alloc _
 have hm:=MeCells.new (w.alloc (fiO nc nm A B x y)) m P C K p c k
 rw [World.size_alloc] at hm
 exact ⟨b2.cell (cell_of_new rfl),b2.cell (cell_of_new rfl),hm⟩
theorem max_one (n:Nat):(if (1:Int)<(n:Int) then (n:Int) else 1)=max 1 (n:Int):=by split<;>omega
theorem proom_any (m:Me) (P C K:Option Addr) (p c k:Nat) (w:World) (hP:TysAt w P m.params) (h4:m.params.length≤4) (hk:∀k,k<m.params.length→(nth ty0 m.params k).kind≠0) :
  Calls Tryz.prog 130 #[meV m P C K p c k] w fun e w'=>e=.returned (.bool (proomB m))∧Bl w w':=by
 have hal:Bl w (w.alloc (meO m P C K p c k)):=(Bl.refl _).alloc _
 have XP:Hid (∀x:Fut (w.alloc (meO m P C K p c k)),TysAt x.to P m.params):=fun x=>hP.bl (hal.trans x.is)
 have HK:Hid (∀k,k<m.params.length→(nth ty0 m.params k).kind≠0):=hk
 obtain ⟨x0,x1,x2,x3,x4,x5,x6,x7⟩:=MeCells.new w m P C K p c k
 have y0:=fut_cell x0
 have y3:=fut_cell x3
 have y4:=fut_cell x4
 have y5:=fut_cell x5
 clear x0 x1 x2 x3 x4 x5 x6 x7 hP hk
 have hsl:=slotsN_le m.params
 unfold proomB
 by_cases hr:m.stack=0
 ·have hr':(m.stack==0)=true:=by simpa using hr
  rw [decide_eq_true hr,Bool.true_and]
  clear hr
  by_cases hs:m.locs=0
  ·have ds:(m.locs==0)=true:=by simpa using hs
   rw [decide_eq_true hs,Bool.true_and]
   clear hs
   obtain ⟨N,hN⟩:∃N,slotsN m.params=N:=⟨_,rfl⟩
   rw [hN] at hsl ⊢
   obtain ⟨R,hR⟩:∃R,decide (max 1 (N:Int)≤m.regs∧m.regs≤90)=R:=⟨_,rfl⟩
   rw [hR]
   rw [←max_one N] at hR
   go_enter Tryz.func130,Tryz.ntmps130
   go_wp2
   refine wp_region_fut (by kernel_rfl) (by kernel_rfl) fun hne=>?_
   repeat (go_big_quiet_step (first
    | (go_at_call 189;exact Calls.fut_eq _ (slots_any _ _ _ _ (XP.out _) (by omega) HK.out) (congrArg (fun n:Nat=>Value.int .i64 (n:Int)) hN))
    | (go_at_call 63;exact Calls.fut_same_eq _ (span_any _ _ _ _) (congrArg Value.bool hR))))
   refine wpQuiet_nil ?_
   rintro _ ⟨⟨w2,hw2⟩,rfl⟩
   go_wp2
   all_goals
    go_ret
    exact ⟨rfl,hal.trans hw2⟩
  ·have ds:(m.locs==0)=false:=by simpa using hs
   rw [decide_eq_false hs,Bool.false_and]
   go_enter Tryz.func130,Tryz.ntmps130
   go_wp2
   refine wp_region_fut (by kernel_rfl) (by kernel_rfl) fun hne=>?_
   repeat (go_big_quiet_step (fail))
   refine wpQuiet_nil ?_
   rintro _ ⟨⟨w2,hw2⟩,rfl⟩
   go_wp2
   go_ret
   exact ⟨rfl,hal.trans hw2⟩
 ·have hr':(m.stack==0)=false:=by simpa using hr
  rw [decide_eq_false hr,Bool.false_and]
  go_enter Tryz.func130,Tryz.ntmps130
  go_wp2
  refine wp_region_fut (by kernel_rfl) (by kernel_rfl) fun hne=>?_
  repeat (go_big_quiet_step (fail))
  refine wpQuiet_nil ?_
  rintro _ ⟨⟨w2,hw2⟩,rfl⟩
  go_wp2
  go_ret
  exact ⟨rfl,hal.trans hw2⟩
theorem rmc_far {wr:World} {b:Nat} {m:Me} {P C K:Option Addr} {p c k nc nm:Nat} {A B:Option Addr} {x y:Nat} (H:RmC wr b m P C K p c k nc nm A B x y) (o:Obj):RmC (wr.alloc o) b m P C K p c k nc nm A B x y:=H.bl ((Bl.refl wr).alloc o)
theorem pcode_any (cs:List Cl) (ms:List Me) (A B:Option Addr) (x y:Nat) (m:Me) (P C K:Option Addr) (p c k:Nat) (w:World) (h1:1≤m.regs) (h2:m.regs≤90) (hA:ClsAt w A cs) (hB:MesAt w B ms) (hC:InsAt w C m.code) :
  Calls Tryz.prog 131 #[rmV m P C K p c k cs.length ms.length A B x y] w fun e w'=>e=.returned (.bool (pcodeB cs ms m))∧Bl w w':=by
 have HA:Hid (ClsAt w A cs):=hA
 have HBB:Hid (MesAt w B ms):=hB
 have HC:Hid (InsAt w C m.code):=hC
 have hcode:=hC.1
 have HNC:Hid (cs.length≤maxLen):=hA.1
 have HCODE:Hid (m.code.length≤maxLen):=hcode
 have HAL:Hid (Bl w (w.alloc (rmO m P C K p c k cs.length ms.length A B x y))):=(Bl.refl _).alloc _
 have HM:=hidp (RmC.new w m P C K p c k cs.length ms.length A B x y)
 clear hA hB hC
 unfold maxLen at hcode
 unfold pcodeB
 by_cases hl:1≤(m.code.length:Int)∧(m.code.length:Int)≤2400
 ·have d1:decide (1≤(m.code.length:Int)∧(m.code.length:Int)≤2400)=true:=decide_eq_true hl
  rw [d1,Bool.true_and]
  have HG:Hid ((∀q,q<m.code.length→pinB cs ms m.code.length m.regs m.ret.kind (nth in0 m.code q)=true)→m.code.all (pinB cs ms m.code.length m.regs m.ret.kind)=true):=all_good
  have HB:Hid (∀q,q<m.code.length→pinB cs ms m.code.length m.regs m.ret.kind (nth in0 m.code q)=false→m.code.all (pinB cs ms m.code.length m.regs m.ret.kind)=false):=fun q=>all_bad
  obtain ⟨R,hR⟩:∃R,m.code.all (pinB cs ms m.code.length m.regs m.ret.kind)=R:=⟨_,rfl⟩
  rw [hR] at HG HB ⊢
  clear hR
  go_enter Tryz.func131,Tryz.ntmps131
  go_wp2_with (go_at_call 63;refine (span_any _ _ _ _).mono ?_;rintro e w0 ⟨he,hw0⟩;rw [d1] at he;subst he;rw [hw0];clear hw0 w0)
  go_loopw [15] (fun i wr=>∃q:Nat,q≤m.code.length∧i=.int .i64 q∧Hid (∀j,j<q→pinB cs ms m.code.length m.regs m.ret.kind (nth in0 m.code j)=true)∧Hid (Bl w wr)∧Hid (RmC wr w.heap.size m P C K p c k cs.length ms.length A B x y)) (fun i _=>m.code.length-(intOf i).toNat)
  case atStart=>exact ⟨0,Nat.zero_le _,rfl,fun j hj=>absurd hj (Nat.not_lt_zero _),HAL.out,HM.out⟩
  case round =>
   clear HM HAL
   obtain ⟨q,hq,rfl,hgq,hg,HM⟩:=hrel
   by_cases hql:q<m.code.length
   ·rcases HC.out.2 with h0|⟨b,off,rfl,hcell⟩
    ·omega
    obtain ⟨c0,c1,c2,c3,c4,hok,Q',q',c5,hq5⟩:=hcell q hql
    replace c0:=hg.out.cell c0
    replace c1:=hg.out.cell c1
    replace c2:=hg.out.cell c2
    replace c3:=hg.out.cell c3
    replace c4:=hg.out.cell c4
    replace c5:=hg.out.cell c5
    have HN:Hid (pinB cs ms m.code.length m.regs m.ret.kind (nth in0 m.code q)=false→R=false):=HB.out q hql
    generalize hX:nth in0 m.code q=X at *
    have HX:Hid (nth in0 m.code q=X):=hX
    have HOK:=hidp hok
    have HQ5:Hid (IntsAt w Q' X.args):=hq5
    clear hcell HB hX hq5 hok
    have HAW:Hid (Bl wr (wr.alloc (riO X Q' q'))):=(Bl.refl wr).alloc _
    have HMW:=hidp (rmc_far HM.out (riO X Q' q'))
    have HIW:=hidp (RiC.new wr X Q' q')
    obtain ⟨m0,m1,m2,m3,m4,m5,m6,m7,m8,m9⟩:=HMW.out
    have hdef:pinB cs ms m.code.length m.regs m.ret.kind X=(decide (1≤X.op∧X.op≤24)&&(pregB cs ms m.regs m.ret.kind X&&(pnumB cs.length m.code.length X&&prestB X))):=rfl
    obtain ⟨T0,hT0⟩:∃T0,decide (1≤X.op∧X.op≤24)=T0:=⟨_,rfl⟩
    obtain ⟨T1,hT1⟩:∃T1,pregB cs ms m.regs m.ret.kind X=T1:=⟨_,rfl⟩
    obtain ⟨T2,hT2⟩:∃T2,pnumB cs.length m.code.length X=T2:=⟨_,rfl⟩
    obtain ⟨T3,hT3⟩:∃T3,prestB X=T3:=⟨_,rfl⟩
    have HDEF:Hid (pinB cs ms m.code.length m.regs m.ret.kind X=(T0&&(T1&&(T2&&T3)))):=by rw [←hT0,←hT1,←hT2,←hT3];exact hdef
    clear hdef HG
    cases T0
    ·have HF:=HN.out (by rw [HDEF.out];rfl)
     clear HN
     go_wp2_with (first
      | (go_at_call 63;refine (span_any _ _ _ _).mono ?_;rintro e w0 ⟨he,hw0⟩;rw [hT0] at he;subst he;rw [hw0];clear hw0 w0))
     go_ret
     exact ⟨ret_bool HF.symm,hg.out.trans HAW.out⟩
    cases T1
    ·have HF:=HN.out (by rw [HDEF.out];rfl)
     clear HN
     go_wp2_with (first
      | (go_at_call 63;refine (span_any _ _ _ _).mono ?_;rintro e w0 ⟨he,hw0⟩;rw [hT0] at he;subst he;rw [hw0];clear hw0 w0)
      | (go_at_call 195;refine (preg_any X cs ms _ _ _ _ m _ _ _ _ _ _ _ _ _ h1 h2 HOK.out (HA.out.bl (hg.out.trans HAW.out)) (HBB.out.bl (hg.out.trans HAW.out)) (HQ5.out.bl (hg.out.trans HAW.out))).mono ?_;rintro e w1 ⟨he,g1⟩;rw [hT1] at he;subst he))
     go_ret
     exact ⟨ret_bool HF.symm,(hg.out.trans HAW.out).trans g1⟩
    cases T2
    ·have HF:=HN.out (by rw [HDEF.out];rfl)
     clear HN
     go_wp2_with (first
      | (go_at_call 63;refine (span_any _ _ _ _).mono ?_;rintro e w0 ⟨he,hw0⟩;rw [hT0] at he;subst he;rw [hw0];clear hw0 w0)
      | (go_at_call 195;refine (preg_any X cs ms _ _ _ _ m _ _ _ _ _ _ _ _ _ h1 h2 HOK.out (HA.out.bl (hg.out.trans HAW.out)) (HBB.out.bl (hg.out.trans HAW.out)) (HQ5.out.bl (hg.out.trans HAW.out))).mono ?_;rintro e w1 ⟨he,g1⟩;rw [hT1] at he;subst he;obtain ⟨a0,a1,a2,a3,a4,a5,a6,a7,a8,a9⟩:=HMW.out.bl g1;obtain ⟨i0,i1,i2,i3,i4,i5⟩:=HIW.out.bl g1)
      | (go_at_call 196;refine (pnum_any X _ _ _ _ _ _ m _ _ _ _ _ _ _ _ _ HNC.out HCODE.out).mono ?_;rintro e w2 ⟨he,g2⟩;rw [hT2] at he;subst he))
     go_ret
     exact ⟨ret_bool HF.symm,((hg.out.trans HAW.out).trans g1).trans g2⟩
    cases T3
    ·have HF:=HN.out (by rw [HDEF.out];rfl)
     clear HN
     go_wp2_with (first
      | (go_at_call 63;refine (span_any _ _ _ _).mono ?_;rintro e w0 ⟨he,hw0⟩;rw [hT0] at he;subst he;rw [hw0];clear hw0 w0)
      | (go_at_call 195;refine (preg_any X cs ms _ _ _ _ m _ _ _ _ _ _ _ _ _ h1 h2 HOK.out (HA.out.bl (hg.out.trans HAW.out)) (HBB.out.bl (hg.out.trans HAW.out)) (HQ5.out.bl (hg.out.trans HAW.out))).mono ?_;rintro e w1 ⟨he,g1⟩;rw [hT1] at he;subst he;obtain ⟨a0,a1,a2,a3,a4,a5,a6,a7,a8,a9⟩:=HMW.out.bl g1;obtain ⟨i0,i1,i2,i3,i4,i5⟩:=HIW.out.bl g1)
      | (go_at_call 196;refine (pnum_any X _ _ _ _ _ _ m _ _ _ _ _ _ _ _ _ HNC.out HCODE.out).mono ?_;rintro e w2 ⟨he,g2⟩;rw [hT2] at he;subst he;obtain ⟨j0,j1,j2,j3,j4,j5⟩:=HIW.out.bl (g1.trans g2))
      | (go_at_call 197;refine (prest_any X _ _ _ HQ5.out.1).mono ?_;rintro e w3 ⟨he,g3⟩;rw [hT3] at he;subst he))
     go_ret
     exact ⟨ret_bool HF.symm,(((hg.out.trans HAW.out).trans g1).trans g2).trans g3⟩
    ·have HT:Hid (pinB cs ms m.code.length m.regs m.ret.kind X=true):=by rw [HDEF.out];rfl
     clear HN
     go_wp2_with (first
      | (go_at_call 63;refine (span_any _ _ _ _).mono ?_;rintro e w0 ⟨he,hw0⟩;rw [hT0] at he;subst he;rw [hw0];clear hw0 w0)
      | (go_at_call 195;refine (preg_any X cs ms _ _ _ _ m _ _ _ _ _ _ _ _ _ h1 h2 HOK.out (HA.out.bl (hg.out.trans HAW.out)) (HBB.out.bl (hg.out.trans HAW.out)) (HQ5.out.bl (hg.out.trans HAW.out))).mono ?_;rintro e w1 ⟨he,g1⟩;rw [hT1] at he;subst he;obtain ⟨a0,a1,a2,a3,a4,a5,a6,a7,a8,a9⟩:=HMW.out.bl g1;obtain ⟨i0,i1,i2,i3,i4,i5⟩:=HIW.out.bl g1)
      | (go_at_call 196;refine (pnum_any X _ _ _ _ _ _ m _ _ _ _ _ _ _ _ _ HNC.out HCODE.out).mono ?_;rintro e w2 ⟨he,g2⟩;rw [hT2] at he;subst he;obtain ⟨j0,j1,j2,j3,j4,j5⟩:=HIW.out.bl (g1.trans g2))
      | (go_at_call 197;refine (prest_any X _ _ _ HQ5.out.1).mono ?_;rintro e w3 ⟨he,g3⟩;rw [hT3] at he;subst he))
     go_roundw
     case rel=>exact ⟨q+1,by omega,by go_num,fun j hj=>if h:j<q then hgq.out j h else by have:j=q:=(by omega);subst this;rw [HX.out];exact HT.out,(((hg.out.trans HAW.out).trans g1).trans g2).trans g3,HMW.out.bl ((g1.trans g2).trans g3)⟩
     case measure=>simp [intOf];omega
   ·have hkk:q=m.code.length:=by omega
    subst hkk
    have HF:=HG.out hgq.out
    clear HG
    go_wp2
    go_ret
    exact ⟨ret_bool HF.symm,hg.out⟩
 ·have d1:decide (1≤(m.code.length:Int)∧(m.code.length:Int)≤2400)=false:=decide_eq_false hl
  rw [d1,Bool.false_and]
  go_enter Tryz.func131,Tryz.ntmps131
  go_wp2_with (go_at_call 63;refine (span_any _ _ _ _).mono ?_;rintro e w0 ⟨he,hw0⟩;rw [d1] at he;subst he;rw [hw0];clear hw0 w0)
  go_ret
  exact ⟨rfl,HAL.out⟩
theorem pme_any (cs:List Cl) (ms:List Me) (A B:Option Addr) (x y:Nat) (m:Me) (P C K:Option Addr) (p c k:Nat) (w:World) (hA:ClsAt w A cs) (hB:MesAt w B ms) (hm:MeAt w m P C K) :
  Calls Tryz.prog 64 #[rmV m P C K p c k cs.length ms.length A B x y] w fun e w'=>e=.returned (.bool (pmeB cs ms m))∧Bl w w':=by
 have HA:Hid (ClsAt w A cs):=hA
 have HBB:Hid (MesAt w B ms):=hB
 have HME:Hid (MeAt w m P C K):=hm
 have HAL:Hid (Bl w (w.alloc (rmO m P C K p c k cs.length ms.length A B x y))):=(Bl.refl _).alloc _
 have HM:=hidp (RmC.new w m P C K p c k cs.length ms.length A B x y)
 have hnc:=hA.1
 unfold maxLen at hnc
 clear hA hB hm
 unfold pmeB
 cases hh:mhB cs.length m
 ·rw [Bool.false_and]
  go_enter Tryz.func64,Tryz.ntmps64
  go_wp2_with (go_at_call 110;refine (mayHead_any m _ _ _ _ _ _ _ _ (HME.out.bl HAL.out)).mono ?_;rintro e w1 ⟨he,g1⟩;rw [hh] at he;subst he)
  go_ret
  exact ⟨rfl,HAL.out.trans g1⟩
 ·rw [Bool.true_and]
  have h4:m.params.length≤4:=by
   have:=hh;unfold mhB at this;rw [Bool.and_eq_true,decide_eq_true_eq] at this;exact this.1
  have HKT:Hid (∀k,k<m.params.length→(nth ty0 m.params k).kind≠0):=fun k hk=>by have:=mh_prm hh k hk;omega
  cases hr:proomB m
  ·rw [Bool.false_and]
   go_enter Tryz.func64,Tryz.ntmps64
   go_wp2_with (first
    | (go_at_call 110;refine (mayHead_any m _ _ _ _ _ _ _ _ (HME.out.bl HAL.out)).mono ?_;rintro e w1 ⟨he,g1⟩;rw [hh] at he;subst he;obtain ⟨a0,a1,a2,a3,a4,a5,a6,a7,a8,a9⟩:=HM.out.bl g1)
    | (go_at_call 130;refine (proom_any m _ _ _ _ _ _ _ (HME.out.1.bl (HAL.out.trans g1)) h4 HKT.out).mono ?_;rintro e w2 ⟨he,g2⟩;rw [hr] at he;subst he))
   go_ret
   exact ⟨rfl,(HAL.out.trans g1).trans g2⟩
  ·rw [Bool.true_and]
   have hrr:1≤m.regs∧m.regs≤90:=by
    have:=hr;unfold proomB at this;rw [Bool.and_eq_true,Bool.and_eq_true,decide_eq_true_eq,decide_eq_true_eq,decide_eq_true_eq] at this;omega
   obtain ⟨h1,h2⟩:=hrr
   obtain ⟨R,hR⟩:∃R,pcodeB cs ms m=R:=⟨_,rfl⟩
   rw [hR]
   go_enter Tryz.func64,Tryz.ntmps64
   go_wp2_with (first
    | (go_at_call 110;refine (mayHead_any m _ _ _ _ _ _ _ _ (HME.out.bl HAL.out)).mono ?_;rintro e w1 ⟨he,g1⟩;rw [hh] at he;subst he;obtain ⟨a0,a1,a2,a3,a4,a5,a6,a7,a8,a9⟩:=HM.out.bl g1)
    | (go_at_call 130;refine (proom_any m _ _ _ _ _ _ _ (HME.out.1.bl (HAL.out.trans g1)) h4 HKT.out).mono ?_;rintro e w2 ⟨he,g2⟩;rw [hr] at he;subst he;obtain ⟨b0,b1,b2,b3,b4,b5,b6,b7,b8,b9⟩:=HM.out.bl (g1.trans g2))
    | (go_at_call 131;refine (pcode_any cs ms _ _ _ _ m _ _ _ _ _ _ _ h1 h2 (HA.out.bl ((HAL.out.trans g1).trans g2)) (HBB.out.bl ((HAL.out.trans g1).trans g2)) (HME.out.2.1.bl ((HAL.out.trans g1).trans g2))).mono ?_;rintro e w3 ⟨he,g3⟩;rw [hR] at he;subst he))
   go_ret
   exact ⟨rfl,((HAL.out.trans g1).trans g2).trans g3⟩
theorem pmay_cls {f:Fi} (h:mayB f.classes=false):pmayB f=false:=by unfold pmayB;rw [h];rfl
theorem pmay_many {f:Fi} (h:¬(1≤(f.methods.length:Int)∧(f.methods.length:Int)≤8)):pmayB f=false:=by unfold pmayB;rw [decide_eq_false h,Bool.false_and,Bool.and_false]
theorem pmay_me {f:Fi} {q:Nat} (hq:q<f.methods.length) (h:pmeB f.classes f.methods (nth me0 f.methods q)=false):pmayB f=false:=by
 unfold pmayB;rw [all_bad hq h,Bool.and_false,Bool.and_false]
theorem pmay_good {f:Fi} (h0:mayB f.classes=true) (h:1≤(f.methods.length:Int)∧(f.methods.length:Int)≤8)
  (hi:∀q,q<f.methods.length→pmeB f.classes f.methods (nth me0 f.methods q)=true):pmayB f=true:=by
 unfold pmayB;rw [h0,decide_eq_true h,all_good hi];rfl
theorem pmay_any (f:Fi) (A B:Option Addr) (a b:Nat) (w:World) (hA:ClsAt w A f.classes) (hB:MesAt w B f.methods) :
  Calls Tryz.prog 30 #[fiV f.classes.length f.methods.length A B a b] w fun e w'=>e=.returned (.bool (pmayB f))∧Bl w w':=by
 have HA:Hid (ClsAt w A f.classes):=hA
 have HB:Hid (MesAt w B f.methods):=hB
 have hcm:=hA.1
 have hmm:=hB.1
 unfold maxLen at hcm hmm
 clear hA hB
 have HF:Hid (FiBox (w.alloc (fiO f.classes.length f.methods.length A B a b)) w.heap.size 0 f.classes.length f.methods.length A B a b):=FiBox.new ..
 have HW:Hid (Bl w (w.alloc (fiO f.classes.length f.methods.length A B a b))):=(Bl.refl w).alloc _
 cases hm:mayB f.classes
 ·have hb:=pmay_cls hm
  rw [hb]
  go_enter Tryz.func30,Tryz.ntmps30
  go_wp2_with (go_at_call 62;refine (may_any _ _ _ _ (HA.out.bl HW.out)).mono ?_;rintro e w1 ⟨he,g1⟩;rw [hm] at he;subst he)
  go_ret
  exact ⟨rfl,HW.out.trans g1⟩
 by_cases hn:1≤(f.methods.length:Int)∧(f.methods.length:Int)≤8
 ·have dn:decide (1≤(f.methods.length:Int)∧(f.methods.length:Int)≤8)=true:=decide_eq_true hn
  have HG:Hid ((∀q,q<f.methods.length→pmeB f.classes f.methods (nth me0 f.methods q)=true)→pmayB f=true):=pmay_good hm hn
  go_enter Tryz.func30,Tryz.ntmps30
  go_wp2_with (first
   | (go_at_call 62;refine (may_any _ _ _ _ (HA.out.bl HW.out)).mono ?_;rintro e w1 ⟨he,g1⟩;rw [hm] at he;subst he;have q1:=(HF.out.bl g1).2;simp only [Nat.zero_add] at q1)
   | (go_at_call 63;refine (span_any _ _ _ _).mono ?_;rintro e w2 ⟨he,hw2⟩;rw [dn] at he;subst he;rw [hw2];clear hw2 w2))
  go_loopw [19] (fun i wr=>∃k:Nat,k≤f.methods.length∧i=.int .i64 k∧Hid (∀j,j<k→pmeB f.classes f.methods (nth me0 f.methods j)=true)∧Hid (Bl w wr)∧Hid (FiBox wr w.heap.size 0 f.classes.length f.methods.length A B a b)) (fun i _=>f.methods.length-(intOf i).toNat)
  case atStart=>exact ⟨0,Nat.zero_le _,rfl,fun j hj=>absurd hj (Nat.not_lt_zero _),HW.out.trans g1,HF.out.bl g1⟩
  case round =>
   clear HF HW q1 g1 hm
   obtain ⟨k,hk,rfl,hgk,hg,HF⟩:=hrel
   by_cases hkl:k<f.methods.length
   ·have hmes:=HB.out.bl hg.out
    have HMES:=hidp hmes
    rcases hmes.2 with h0|⟨b',off',rfl,hcell⟩
    ·omega
    obtain ⟨P,C,K,p,c,kk,c0,c1,c2,c3,c4,c5,c6,c7,hme⟩:=hcell k hkl
    have HBAD:Hid (pmeB f.classes f.methods (nth me0 f.methods k)=false→pmayB f=false):=pmay_me hkl
    generalize hM:nth me0 f.methods k=m at *
    have HM:Hid (nth me0 f.methods k=m):=hM
    have HME:Hid (MeAt wr m P C K):=hme
    have qf0:∀o,(wr.alloc o).cell? ⟨w.heap.size,0,none⟩=some (.slice A f.classes.length a):=fun o=>((Bl.refl wr).alloc o).cell HF.out.1
    have qf1:∀o,(wr.alloc o).cell? ⟨w.heap.size,1,none⟩=some (.slice (some ⟨b',off',none⟩) f.methods.length b):=fun o=>by
     have:=HF.out.2;simp only [Nat.zero_add] at this;exact ((Bl.refl wr).alloc o).cell this
    have HAL:Hid (Bl wr (wr.alloc (meO m P C K p c kk))):=(Bl.refl wr).alloc _
    have HFA:Hid (FiBox (wr.alloc (meO m P C K p c kk)) w.heap.size 0 f.classes.length f.methods.length A _ a b):=HF.out.bl HAL.out
    clear hmes hcell hM hme
    cases hh:pmeB f.classes f.methods m
    ·have HN:Hid (pmayB f=false):=HBAD.out hh
     clear HBAD
     go_wp2_with (go_at_call 64;refine (pme_any f.classes f.methods _ _ _ _ m _ _ _ _ _ _ _ (HA.out.bl (hg.out.trans HAL.out)) (HMES.out.bl HAL.out) (HME.out.bl HAL.out)).mono ?_;rintro e w1 ⟨he,g1⟩;rw [hh] at he;subst he)
     go_ret
     exact ⟨ret_bool HN.out.symm,(hg.out.trans HAL.out).trans g1⟩
    ·have HT:Hid (pmeB f.classes f.methods m=true):=hh
     clear HBAD
     go_wp2_with (go_at_call 64;refine (pme_any f.classes f.methods _ _ _ _ m _ _ _ _ _ _ _ (HA.out.bl (hg.out.trans HAL.out)) (HMES.out.bl HAL.out) (HME.out.bl HAL.out)).mono ?_;rintro e w1 ⟨he,g1⟩;rw [hh] at he;subst he)
     go_roundw
     case rel=>exact ⟨k+1,by omega,by go_num,fun j hj=>if h:j<k then hgk.out j h else by have:j=k:=(by omega);subst this;rw [HM.out];exact HT.out,(hg.out.trans HAL.out).trans g1,HFA.out.bl g1⟩
     case measure=>simp [intOf];omega
   ·obtain rfl:k=f.methods.length:=by omega
    have HN:Hid (pmayB f=true):=HG.out hgk.out
    go_wp2
    go_ret
    exact ⟨ret_bool HN.out.symm,hg.out⟩
 ·have hb:=pmay_many (f:=f) hn
  rw [hb]
  have dn:decide (1≤(f.methods.length:Int)∧(f.methods.length:Int)≤8)=false:=decide_eq_false hn
  go_enter Tryz.func30,Tryz.ntmps30
  go_wp2_with (first
   | (go_at_call 62;refine (may_any _ _ _ _ (HA.out.bl HW.out)).mono ?_;rintro e w1 ⟨he,g1⟩;rw [hm] at he;subst he;have q1:=(HF.out.bl g1).2;simp only [Nat.zero_add] at q1)
   | (go_at_call 63;refine (span_any _ _ _ _).mono ?_;rintro e w2 ⟨he,hw2⟩;rw [dn] at he;subst he;rw [hw2];clear hw2 w2))
  go_ret
  exact ⟨rfl,HW.out.trans g1⟩
theorem pmay_doc (f:Fi) (A B:Option Addr) (a b:Nat) (w:World) (hA:ClsAt w A f.classes) (hB:MesAt w B f.methods) :
  Calls Tryz.prog 30 #[fiV f.classes.length f.methods.length A B a b] w fun e w'=>e=.returned (.bool (rfmayB f))∧Bl w w':=by
 rw [pmay_is];exact pmay_any f A B a b w hA hB
section
open Go.ChangeShapes Go.WideShapes Go.ChangeAt Go.RowKit Go.Deep
theorem cellsTy:Tryz.prog.cellsOf 46=2:=by kernel_rfl
theorem cellsCl:Tryz.prog.cellsOf 131=2:=by kernel_rfl
theorem cellsTys:Tryz.prog.cellsOf 44=1:=by kernel_rfl
theorem cellsInt:Tryz.prog.cellsOf 3=1:=by kernel_rfl
theorem take_one {cs:List Value} {o:Nat} {v:Value} (h:(cs.drop o).take 1=[v]):cs[o]?=some v:=by
 have h1:((cs.drop o).take 1)[0]?=some v:=by rw [h];rfl
 simpa [List.getElem?_take,List.getElem?_drop] using h1
section
variable {H:Type} {enc:TypeId×Value→H} {w:World} {base:Nat} {spare:Nat→Bool} {held:Bool}
theorem fld_int {t:TypeId} {P:Program} {fuel o:Nat} {cs:List Value} {y:Option (DataW H×List MemPlace)} (ht:P.underlying t=some (.int .i64)) (hc:P.cellsOf t=1) (hy:y≠none)
  (h:DataW.trod enc P w base spare held fuel t ((cs.drop o).take (P.cellsOf t))=y):∃n,cs[o]?=some (.int .i64 n)∧I64 n:=by
 obtain ⟨x,rfl⟩:=Option.ne_none_iff_exists'.1 hy
 obtain ⟨n,hn,-,hw⟩:=DataW.trod_int ht h
 rw [hc] at hn
 exact ⟨n,take_one hn,bounds_i64 hw⟩
theorem open_row {E:Type} (d:E) {R:E→List Value→Prop} {P:Program} {t e:TypeId} {s fuel:Nat} {cs:List Value} {x:DataW H×List MemPlace}
  (ht:P.underlying t=some (.slice e)) (hs:P.cellsOf e=s) (h0:0<s)
  (he:∀(fuel:Nat) (cs:List Value) (x:DataW H×List MemPlace),DataW.trod enc P w base spare held fuel e cs=some x→∃z:E,R z cs)
  (h:DataW.trod enc P w base spare held fuel t cs=some x) :
  ∃(A:Option Addr) (l:List E) (c:Nat),cs=[.slice A l.length c]∧l.length≤maxLen∧(l.length=0∨∃b off,A=some ⟨b,off,none⟩ ∧
   ∀i,i<l.length→∃vs,R (nth d l i) vs∧∀j,j<s→w.cell? ⟨b,off+i*s+j,none⟩=vs[j]?):=by
 rcases open_slice ht h with ⟨rfl,-⟩|⟨a,len,cap,m,n,D,Pl,rfl,hb,hl,hm,hmm,-,hx⟩
 ·exact ⟨none,[],0,rfl,Nat.zero_le _,Or.inl rfl⟩
 have hlm:len≤m:=by rw [hmm];split<;>omega
 rw [hs] at hx
 obtain ⟨f,hf⟩:=@choose_lt E ⟨d⟩ len ( fun i z=>∃vs,R z vs∧vs.length=s∧∀j,j<s→w.cell? ((a.add (i*s)).add j)=vs[j]?) (fun i hi=>by
  obtain ⟨cs',h1,h2⟩:=hx i (by omega)
  obtain ⟨z,hz⟩:=he _ _ _ h2
  obtain ⟨-,hlen,hcell⟩:=World.cells?_some h1
  exact ⟨z,cs',hz,hlen,hcell⟩)
 refine ⟨some a,(List.range len).map f,cap,by simp,by simp;omega,?_⟩
 simp only [List.length_map,List.length_range]
 by_cases hz:len=0
 ·exact Or.inl hz
 right
 obtain ⟨b,off,spot⟩:=a
 have hspot:spot=none:=by
  obtain ⟨vs,-,hlen,hcell⟩:=hf 0 (by omega)
  have g:=hcell 0 h0
  rw [List.getElem?_eq_getElem (by omega)] at g
  simpa [Addr.add] using World.cell?_spot g
 subst hspot
 refine ⟨b,off,rfl,fun i hi=>?_⟩
 obtain ⟨vs,hR,-,hcell⟩:=hf i hi
 refine ⟨vs,?_,fun j hj=>?_⟩
 ·have:nth d ((List.range len).map f) i=f i:=by rw [nth_get (by simpa using hi)];simp
  rw [this];exact hR
 ·have:=hcell j hj
  rw [add_add,add_plain,←Nat.add_assoc] at this
  exact this
theorem open_ty {fuel:Nat} {cs:List Value} {x:DataW H×List MemPlace} (h:DataW.trod enc Tryz.prog w base spare held fuel 46 cs=some x) :
  ∃t:Ty,(cs[0]?=some (.int .i64 t.kind)∧cs[1]?=some (.int .i64 t.cls))∧I64 t.kind∧I64 t.cls:=by
 obtain ⟨xs,n,rfl,rfl,hl,hn,hf⟩:=DataW.trod_struct Tryz.underlying46 h
 have hn':xs.length=2:=hn
 obtain ⟨k,h0,w0⟩:=fld_int Tryz.underlying3 cellsInt (by simp [hn']) (hf 0 _ rfl)
 obtain ⟨c,h1,w1⟩:=fld_int Tryz.underlying3 cellsInt (by simp [hn']) (hf 1 _ rfl)
 exact ⟨⟨k,c⟩,⟨h0,h1⟩,w0,w1⟩
theorem open_tys {fuel:Nat} {cs:List Value} {x:DataW H×List MemPlace} (h:DataW.trod enc Tryz.prog w base spare held fuel 44 cs=some x) :
  ∃(A:Option Addr) (l:List Ty) (c:Nat),cs=[.slice A l.length c]∧TysAt w A l:=by
 obtain ⟨A,l,c,rfl,hm,hr⟩:=open_row ty0 Tryz.underlying44 cellsTy (by omega) (fun _ _ _=>open_ty) h
 rcases hr with h0|⟨b,off,rfl,hi⟩
 ·exact ⟨A,l,c,rfl,hm,Or.inl h0⟩
 refine ⟨_,l,c,rfl,hm,Or.inr ⟨b,off,rfl,fun i hlt=>?_⟩⟩
 obtain ⟨vs,⟨⟨h0,h1⟩,w0,w1⟩,hc⟩:=hi i hlt
 exact ⟨(hc 0 (by omega)).trans h0,(hc 1 (by omega)).trans h1,w0,w1⟩
theorem fld_tys {fuel o:Nat} {cs:List Value} {y:Option (DataW H×List MemPlace)} (hy:y≠none)
  (h:DataW.trod enc Tryz.prog w base spare held fuel 44 ((cs.drop o).take (Tryz.prog.cellsOf 44))=y):∃(A:Option Addr) (l:List Ty) (c:Nat),cs[o]?=some (.slice A l.length c)∧TysAt w A l:=by
 obtain ⟨x,rfl⟩:=Option.ne_none_iff_exists'.1 hy
 obtain ⟨A,l,c,hn,hT⟩:=open_tys h
 rw [cellsTys] at hn
 exact ⟨A,l,c,take_one hn,hT⟩
theorem open_cl {fuel:Nat} {cs:List Value} {x:DataW H×List MemPlace} (h:DataW.trod enc Tryz.prog w base spare held fuel 131 cs=some x) :
  ∃t:Cl,cs[0]?=some (.int .i64 t.super)∧I64 t.super∧∃A c,cs[1]?=some (.slice A t.fields.length c)∧TysAt w A t.fields:=by
 obtain ⟨xs,n,rfl,rfl,hl,hn,hf⟩:=DataW.trod_struct Tryz.underlying131 h
 have hn':xs.length=2:=hn
 obtain ⟨k,h0,w0⟩:=fld_int Tryz.underlying3 cellsInt (by simp [hn']) (hf 0 _ rfl)
 obtain ⟨A,l,c,h1,w1⟩:=fld_tys (by simp [hn']) (hf 1 _ rfl)
 exact ⟨⟨k,l⟩,h0,w0,A,c,h1,w1⟩
theorem open_cls {fuel:Nat} {cs:List Value} {x:DataW H×List MemPlace} (h:DataW.trod enc Tryz.prog w base spare held fuel 22 cs=some x) :
  ∃(A:Option Addr) (l:List Cl) (c:Nat),cs=[.slice A l.length c]∧ClsAt w A l:=by
 obtain ⟨A,l,c,rfl,hm,hr⟩:=open_row cl0 Tryz.underlying22 cellsCl (by omega) (fun _ _ _=>open_cl) h
 rcases hr with h0|⟨b,off,rfl,hi⟩
 ·exact ⟨A,l,c,rfl,hm,Or.inl h0⟩
 refine ⟨_,l,c,rfl,hm,Or.inr ⟨b,off,rfl,fun i hlt=>?_⟩⟩
 obtain ⟨vs,⟨h0,w0,A',c',h1,w1⟩,hc⟩:=hi i hlt
 exact ⟨(hc 0 (by omega)).trans h0,w0,A',c',(hc 1 (by omega)).trans h1,w1⟩
end
end
section
open Go.ChangeShapes Go.WideShapes Go.ChangeAt Go.RowKit Go.Deep
theorem cellsLong:Tryz.prog.cellsOf 2=1:=by kernel_rfl
theorem cellsInts:Tryz.prog.cellsOf 56=1:=by kernel_rfl
theorem cellsIn:Tryz.prog.cellsOf 58=6:=by kernel_rfl
theorem cellsIns:Tryz.prog.cellsOf 47=1:=by kernel_rfl
theorem cellsHd:Tryz.prog.cellsOf 98=4:=by kernel_rfl
theorem cellsHds:Tryz.prog.cellsOf 48=1:=by kernel_rfl
theorem cellsMe:Tryz.prog.cellsOf 50=8:=by kernel_rfl
theorem cellsMes:Tryz.prog.cellsOf 23=1:=by kernel_rfl
theorem cellsCls:Tryz.prog.cellsOf 22=1:=by kernel_rfl
theorem cellsFi:Tryz.prog.cellsOf 25=2:=by kernel_rfl
section
variable {H:Type} {enc:TypeId×Value→H} {w:World} {base:Nat} {spare:Nat→Bool} {held:Bool}
theorem open_ints' {fuel:Nat} {cs:List Value} {x:DataW H×List MemPlace} (h:DataW.trod enc Tryz.prog w base spare held fuel 56 cs=some x) :
  ∃(A:Option Addr) (l:List Int) (c:Nat),cs=[.slice A l.length c]∧IntsAt w A l:=by
 obtain ⟨A,l,c,rfl,hm,hr⟩:=open_row (0:Int) (R:=fun (n:Int) cs=>cs[0]?=some (.int .i64 n)∧I64 n) Tryz.underlying56 cellsInt (by omega)
  (fun _ _ _ hh=>by obtain ⟨n,rfl,-,hw⟩:=DataW.trod_int Tryz.underlying3 hh;exact ⟨n,rfl,bounds_i64 hw⟩) h
 rcases hr with h0|⟨b,off,rfl,hi⟩
 ·exact ⟨A,l,c,rfl,hm,Or.inl h0⟩
 refine ⟨_,l,c,rfl,hm,Or.inr ⟨b,off,rfl,fun i hlt=>?_⟩⟩
 obtain ⟨vs,⟨h0,w0⟩,hc⟩:=hi i hlt
 have:=(hc 0 (by omega)).trans h0
 rw [Nat.mul_one,Nat.add_zero] at this
 exact ⟨this,w0⟩
theorem open_in {fuel:Nat} {cs:List Value} {x:DataW H×List MemPlace} (h:DataW.trod enc Tryz.prog w base spare held fuel 58 cs=some x) :
  ∃t:In,cs[0]?=some (.int .i64 t.op)∧cs[1]?=some (.int .i64 t.a)∧cs[2]?=some (.int .i64 t.b)∧cs[3]?=some (.int .i64 t.c)∧cs[4]?=some (.int .i64 t.n)∧t.ok
   ∧ ∃A c,cs[5]?=some (.slice A t.args.length c)∧IntsAt w A t.args:=by
 obtain ⟨xs,n,rfl,rfl,hl,hn,hf⟩:=DataW.trod_struct Tryz.underlying58 h
 have hn':xs.length=6:=hn
 obtain ⟨k0,h0,w0⟩:=fld_int Tryz.underlying3 cellsInt (by simp [hn']) (hf 0 _ rfl)
 obtain ⟨k1,h1,w1⟩:=fld_int Tryz.underlying3 cellsInt (by simp [hn']) (hf 1 _ rfl)
 obtain ⟨k2,h2,w2⟩:=fld_int Tryz.underlying3 cellsInt (by simp [hn']) (hf 2 _ rfl)
 obtain ⟨k3,h3,w3⟩:=fld_int Tryz.underlying3 cellsInt (by simp [hn']) (hf 3 _ rfl)
 obtain ⟨k4,h4,w4⟩:=fld_int Tryz.underlying2 cellsLong (by simp [hn']) (hf 4 _ rfl)
 obtain ⟨y,hy⟩:=Option.ne_none_iff_exists'.1 (show xs[5]?≠none by simp [hn'])
 have h5:=hf 5 _ rfl
 rw [hy] at h5
 obtain ⟨A,l,c,hn,hT⟩:=open_ints' h5
 exact ⟨⟨k0,k1,k2,k3,k4,l⟩,h0,h1,h2,h3,h4,⟨w0,w1,w2,w3,w4⟩,A,c,take_one (cellsInts▸hn),hT⟩
theorem open_ins {fuel:Nat} {cs:List Value} {x:DataW H×List MemPlace} (h:DataW.trod enc Tryz.prog w base spare held fuel 47 cs=some x) :
  ∃(A:Option Addr) (l:List In) (c:Nat),cs=[.slice A l.length c]∧InsAt w A l:=by
 obtain ⟨A,l,c,rfl,hm,hr⟩:=open_row in0 Tryz.underlying47 cellsIn (by omega) (fun _ _ _=>open_in) h
 rcases hr with h0|⟨b,off,rfl,hi⟩
 ·exact ⟨A,l,c,rfl,hm,Or.inl h0⟩
 refine ⟨_,l,c,rfl,hm,Or.inr ⟨b,off,rfl,fun i hlt=>?_⟩⟩
 obtain ⟨vs,⟨h0,h1,h2,h3,h4,w0,A',c',h5,w1⟩,hc⟩:=hi i hlt
 exact ⟨(hc 0 (by omega)).trans h0,(hc 1 (by omega)).trans h1,(hc 2 (by omega)).trans h2,(hc 3 (by omega)).trans h3,(hc 4 (by omega)).trans h4,w0,A',c',(hc 5 (by omega)).trans h5,w1⟩
theorem open_hd {fuel:Nat} {cs:List Value} {x:DataW H×List MemPlace} (h:DataW.trod enc Tryz.prog w base spare held fuel 98 cs=some x) :
  ∃t:Hd,cs[0]?=some (.int .i64 t.fr)∧cs[1]?=some (.int .i64 t.til)∧cs[2]?=some (.int .i64 t.pc)∧cs[3]?=some (.int .i64 t.cls)∧t.ok:=by
 obtain ⟨xs,n,rfl,rfl,hl,hn,hf⟩:=DataW.trod_struct Tryz.underlying98 h
 have hn':xs.length=4:=hn
 obtain ⟨k0,h0,w0⟩:=fld_int Tryz.underlying3 cellsInt (by simp [hn']) (hf 0 _ rfl)
 obtain ⟨k1,h1,w1⟩:=fld_int Tryz.underlying3 cellsInt (by simp [hn']) (hf 1 _ rfl)
 obtain ⟨k2,h2,w2⟩:=fld_int Tryz.underlying3 cellsInt (by simp [hn']) (hf 2 _ rfl)
 obtain ⟨k3,h3,w3⟩:=fld_int Tryz.underlying3 cellsInt (by simp [hn']) (hf 3 _ rfl)
 exact ⟨⟨k0,k1,k2,k3⟩,h0,h1,h2,h3,w0,w1,w2,w3⟩
theorem open_hds {fuel:Nat} {cs:List Value} {x:DataW H×List MemPlace} (h:DataW.trod enc Tryz.prog w base spare held fuel 48 cs=some x) :
  ∃(A:Option Addr) (l:List Hd) (c:Nat),cs=[.slice A l.length c]∧HdsAt w A l:=by
 obtain ⟨A,l,c,rfl,hm,hr⟩:=open_row hd0 Tryz.underlying48 cellsHd (by omega) (fun _ _ _=>open_hd) h
 rcases hr with h0|⟨b,off,rfl,hi⟩
 ·exact ⟨A,l,c,rfl,hm,Or.inl h0⟩
 refine ⟨_,l,c,rfl,hm,Or.inr ⟨b,off,rfl,fun i hlt=>?_⟩⟩
 obtain ⟨vs,⟨h0,h1,h2,h3,w0⟩,hc⟩:=hi i hlt
 exact ⟨(hc 0 (by omega)).trans h0,(hc 1 (by omega)).trans h1,(hc 2 (by omega)).trans h2,(hc 3 (by omega)).trans h3,w0⟩
theorem open_me {fuel:Nat} {cs:List Value} {x:DataW H×List MemPlace} (h:DataW.trod enc Tryz.prog w base spare held fuel 50 cs=some x) :
  ∃t:Me,∃P C K p c k,cs[0]?=some (.slice P t.params.length p)∧cs[1]?=some (.int .i64 t.ret.kind)∧cs[2]?=some (.int .i64 t.ret.cls)∧cs[3]?=some (.int .i64 t.stack)∧cs[4]?=some (.int .i64 t.locs)∧cs[5]?=some (.int .i64 t.regs)
   ∧ cs[6]?=some (.slice C t.code.length c)∧cs[7]?=some (.slice K t.hands.length k)∧MeAt w t P C K:=by
 obtain ⟨xs,n,rfl,rfl,hl,hn,hf⟩:=DataW.trod_struct Tryz.underlying50 h
 have hn':xs.length=7:=hn
 obtain ⟨P,lp,p,h0,w0⟩:=fld_tys (by simp [hn']) (hf 0 _ rfl)
 obtain ⟨k2,h2,w2⟩:=fld_int Tryz.underlying3 cellsInt (by simp [hn']) (hf 2 _ rfl)
 obtain ⟨k3,h3,w3⟩:=fld_int Tryz.underlying3 cellsInt (by simp [hn']) (hf 3 _ rfl)
 obtain ⟨k4,h4,w4⟩:=fld_int Tryz.underlying3 cellsInt (by simp [hn']) (hf 4 _ rfl)
 obtain ⟨y,hy⟩:=Option.ne_none_iff_exists'.1 (show xs[5]?≠none by simp [hn'])
 have h5:=hf 5 _ rfl
 rw [hy] at h5
 obtain ⟨C,lc,c,hn5,hT5⟩:=open_ins h5
 obtain ⟨y,hy⟩:=Option.ne_none_iff_exists'.1 (show xs[6]?≠none by simp [hn'])
 have h6:=hf 6 _ rfl
 rw [hy] at h6
 obtain ⟨K,lk,k,hn6,hT6⟩:=open_hds h6
 obtain ⟨y,hy⟩:=Option.ne_none_iff_exists'.1 (show xs[1]?≠none by simp [hn'])
 have h1:=hf 1 _ rfl
 rw [hy] at h1
 obtain ⟨r,⟨hr0,hr1⟩,v0,v1⟩:=open_ty h1
 have hr0':((cs.drop 1).take (Tryz.prog.cellsOf 46))[0]?=some (.int .i64 r.kind):=hr0
 have hr1':((cs.drop 1).take (Tryz.prog.cellsOf 46))[1]?=some (.int .i64 r.cls):=hr1
 rw [cellsTy] at hr0' hr1'
 refine ⟨⟨lp,r,k2,k3,k4,lc,lk⟩,P,C,K,p,c,k,h0,?_,?_,h2,h3,h4,take_one (cellsIns▸hn5),take_one (cellsHds▸hn6),w0,hT5,hT6,v0,v1,w2,w3,w4⟩
 ·simpa [List.getElem?_take,List.getElem?_drop] using hr0'
 ·simpa [List.getElem?_take,List.getElem?_drop] using hr1'
theorem open_mes {fuel:Nat} {cs:List Value} {x:DataW H×List MemPlace} (h:DataW.trod enc Tryz.prog w base spare held fuel 23 cs=some x) :
  ∃(A:Option Addr) (l:List Me) (c:Nat),cs=[.slice A l.length c]∧MesAt w A l:=by
 obtain ⟨A,l,c,rfl,hm,hr⟩:=open_row me0 Tryz.underlying23 cellsMe (by omega) (fun _ _ _=>open_me) h
 rcases hr with h0|⟨b,off,rfl,hi⟩
 ·exact ⟨A,l,c,rfl,hm,Or.inl h0⟩
 refine ⟨_,l,c,rfl,hm,Or.inr ⟨b,off,rfl,fun i hlt=>?_⟩⟩
 obtain ⟨vs,⟨P,C,K,p,c,k,h0,h1,h2,h3,h4,h5,h6,h7,w1⟩,hc⟩:=hi i hlt
 exact ⟨P,C,K,p,c,k,(hc 0 (by omega)).trans h0,(hc 1 (by omega)).trans h1,(hc 2 (by omega)).trans h2,(hc 3 (by omega)).trans h3,(hc 4 (by omega)).trans h4,(hc 5 (by omega)).trans h5,(hc 6 (by omega)).trans h6,(hc 7 (by omega)).trans h7,w1⟩
theorem open_file {fuel:Nat} {cs:List Value} {x:DataW H×List MemPlace} (h:DataW.trod enc Tryz.prog w base spare held fuel 25 cs=some x) :
  ∃(f:Fi) (A B:Option Addr) (a b:Nat),cs=[.slice A f.classes.length a,.slice B f.methods.length b]∧ClsAt w A f.classes∧MesAt w B f.methods:=by
 obtain ⟨xs,n,rfl,rfl,hl,hn,hf⟩:=DataW.trod_struct Tryz.underlying25 h
 have hn':xs.length=2:=hn
 rw [cellsFi] at hl
 obtain ⟨y,hy⟩:=Option.ne_none_iff_exists'.1 (show xs[0]?≠none by simp [hn'])
 have h0:=hf 0 _ rfl
 rw [hy] at h0
 obtain ⟨A,l,a,hA,hT⟩:=open_cls h0
 obtain ⟨y,hy⟩:=Option.ne_none_iff_exists'.1 (show xs[1]?≠none by simp [hn'])
 have h1:=hf 1 _ rfl
 rw [hy] at h1
 obtain ⟨B,m,b,hB,hM⟩:=open_mes h1
 have e0:cs[0]?=some (.slice A l.length a):=take_one (cellsCls▸hA)
 have e1:cs[1]?=some (.slice B m.length b):=take_one (cellsMes▸hB)
 match cs,hl with
 | [u,v],_ =>
  simp at e0 e1
  subst e0 e1
  exact ⟨⟨l,m⟩,A,B,a,b,rfl,hT,hM⟩
end
end
section
open Go.ChangeShapes Go.WideShapes Go.ChangeAt Go.RowKit Go.Deep
variable {H:Type} {enc:TypeId×Value→H} {w:World} {base:Nat} {spare:Nat→Bool} {held:Bool}
theorem open_longs {fuel:Nat} {cs:List Value} {x:DataW H×List MemPlace} (h:DataW.trod enc Tryz.prog w base spare held fuel 26 cs=some x) :
  ∃(A:Option Addr) (l:List Int) (c:Nat),cs=[.slice A l.length c]∧IntsAt w A l:=by
 obtain ⟨A,l,c,rfl,hm,hr⟩:=open_row (0:Int) (R:=fun (n:Int) cs=>cs[0]?=some (.int .i64 n)∧I64 n) Tryz.underlying26 cellsLong (by omega)
  (fun _ _ _ hh=>by obtain ⟨n,rfl,-,hw⟩:=DataW.trod_int Tryz.underlying2 hh;exact ⟨n,rfl,bounds_i64 hw⟩) h
 rcases hr with h0|⟨b,off,rfl,hi⟩
 ·exact ⟨A,l,c,rfl,hm,Or.inl h0⟩
 refine ⟨_,l,c,rfl,hm,Or.inr ⟨b,off,rfl,fun i hlt=>?_⟩⟩
 obtain ⟨vs,⟨h0,w0⟩,hc⟩:=hi i hlt
 have:=(hc 0 (by omega)).trans h0
 rw [Nat.mul_one,Nat.add_zero] at this
 exact ⟨this,w0⟩
end
end Go.Proofs.YtgiiapenmjollabGreat
