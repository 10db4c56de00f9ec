import Derived.Test.YtgiiapenmjollabGreatRsaz
namespace Go.Proofs.YtgiiapenmjollabGreat
set_option linter.all false
set_option maxHeartbeats 40000000
set_option maxRecDepth 100000
open Go.RowKit
theorem max_one (n:Nat):(if (1:Int)<(n:Int) then (n:Int) else 1)=max 1 (n:Int):=by split<;>omega
theorem proom_any (m:Me) (P C K:Option Addr) (p c k:Nat) (w:World) (hP:TysAt w P m.params) (h4:m.params.length≤4) (hk:∀k,k<m.params.length→(nth ty0 m.params k).kind≠0) :
  Calls Tryz.prog 130 #[meV m P C K p c k] w fun e w'=>e=.returned (.bool (proomB m))∧Bl w w':=by
 have hal:Bl w (w.alloc (meO m P C K p c k)):=(Bl.refl _).alloc _
 have XP:Hid (∀x:Fut (w.alloc (meO m P C K p c k)),TysAt x.to P m.params):=fun x=>hP.bl (hal.trans x.is)
 have HK:Hid (∀k,k<m.params.length→(nth ty0 m.params k).kind≠0):=hk
 obtain ⟨x0,x1,x2,x3,x4,x5,x6,x7⟩:=MeCells.new w m P C K p c k
 have y0:=fut_cell x0
 have y3:=fut_cell x3
 have y4:=fut_cell x4
 have y5:=fut_cell x5
 clear x0 x1 x2 x3 x4 x5 x6 x7 hP hk
 have hsl:=slotsN_le m.params
 unfold proomB
 by_cases hr:m.stack=0
 ·have hr':(m.stack==0)=true:=by simpa using hr
  rw [decide_eq_true hr,Bool.true_and]
  clear hr
  by_cases hs:m.locs=0
  ·have ds:(m.locs==0)=true:=by simpa using hs
   rw [decide_eq_true hs,Bool.true_and]
   clear hs
   obtain ⟨N,hN⟩:∃N,slotsN m.params=N:=⟨_,rfl⟩
   rw [hN] at hsl ⊢
   obtain ⟨R,hR⟩:∃R,decide (max 1 (N:Int)≤m.regs∧m.regs≤90)=R:=⟨_,rfl⟩
   rw [hR]
   rw [←max_one N] at hR
   go_enter Tryz.func130,Tryz.ntmps130
   go_wp2
   refine wp_region_fut (by kernel_rfl) (by kernel_rfl) fun hne=>?_
   repeat (go_big_quiet_step (first
    | (go_at_call 189;exact Calls.fut_eq _ (slots_any _ _ _ _ (XP.out _) (by omega) HK.out) (congrArg (fun n:Nat=>Value.int .i64 (n:Int)) hN))
    | (go_at_call 63;exact Calls.fut_same_eq _ (span_any _ _ _ _) (congrArg Value.bool hR))))
   refine wpQuiet_nil ?_
   rintro _ ⟨⟨w2,hw2⟩,rfl⟩
   go_wp2
   all_goals
    go_ret
    exact ⟨rfl,hal.trans hw2⟩
  ·have ds:(m.locs==0)=false:=by simpa using hs
   rw [decide_eq_false hs,Bool.false_and]
   go_enter Tryz.func130,Tryz.ntmps130
   go_wp2
   refine wp_region_fut (by kernel_rfl) (by kernel_rfl) fun hne=>?_
   repeat (go_big_quiet_step (fail))
   refine wpQuiet_nil ?_
   rintro _ ⟨⟨w2,hw2⟩,rfl⟩
   go_wp2
   go_ret
   exact ⟨rfl,hal.trans hw2⟩
 ·have hr':(m.stack==0)=false:=by simpa using hr
  rw [decide_eq_false hr,Bool.false_and]
  go_enter Tryz.func130,Tryz.ntmps130
  go_wp2
  refine wp_region_fut (by kernel_rfl) (by kernel_rfl) fun hne=>?_
  repeat (go_big_quiet_step (fail))
  refine wpQuiet_nil ?_
  rintro _ ⟨⟨w2,hw2⟩,rfl⟩
  go_wp2
  go_ret
  exact ⟨rfl,hal.trans hw2⟩
theorem rmc_far {wr:World} {b:Nat} {m:Me} {P C K:Option Addr} {p c k nc nm:Nat} {A B:Option Addr} {x y:Nat} (H:RmC wr b m P C K p c k nc nm A B x y) (o:Obj):RmC (wr.alloc o) b m P C K p c k nc nm A B x y:=H.bl ((Bl.refl wr).alloc o)
theorem pcode_any (cs:List Cl) (ms:List Me) (A B:Option Addr) (x y:Nat) (m:Me) (P C K:Option Addr) (p c k:Nat) (w:World) (h1:1≤m.regs) (h2:m.regs≤90) (hA:ClsAt w A cs) (hB:MesAt w B ms) (hC:InsAt w C m.code) :
  Calls Tryz.prog 131 #[rmV m P C K p c k cs.length ms.length A B x y] w fun e w'=>e=.returned (.bool (pcodeB cs ms m))∧Bl w w':=by
 have HA:Hid (ClsAt w A cs):=hA
 have HBB:Hid (MesAt w B ms):=hB
 have HC:Hid (InsAt w C m.code):=hC
 have hcode:=hC.1
 have HNC:Hid (cs.length≤maxLen):=hA.1
 have HCODE:Hid (m.code.length≤maxLen):=hcode
 have HAL:Hid (Bl w (w.alloc (rmO m P C K p c k cs.length ms.length A B x y))):=(Bl.refl _).alloc _
 have HM:=hidp (RmC.new w m P C K p c k cs.length ms.length A B x y)
 clear hA hB hC
 unfold maxLen at hcode
 unfold pcodeB
 by_cases hl:1≤(m.code.length:Int)∧(m.code.length:Int)≤2400
 ·have d1:decide (1≤(m.code.length:Int)∧(m.code.length:Int)≤2400)=true:=decide_eq_true hl
  rw [d1,Bool.true_and]
  have HG:Hid ((∀q,q<m.code.length→pinB cs ms m.code.length m.regs m.ret.kind (nth in0 m.code q)=true)→m.code.all (pinB cs ms m.code.length m.regs m.ret.kind)=true):=all_good
  have HB:Hid (∀q,q<m.code.length→pinB cs ms m.code.length m.regs m.ret.kind (nth in0 m.code q)=false→m.code.all (pinB cs ms m.code.length m.regs m.ret.kind)=false):=fun q=>all_bad
  obtain ⟨R,hR⟩:∃R,m.code.all (pinB cs ms m.code.length m.regs m.ret.kind)=R:=⟨_,rfl⟩
  rw [hR] at HG HB ⊢
  clear hR
  go_enter Tryz.func131,Tryz.ntmps131
  go_wp2_with (go_at_call 63;refine (span_any _ _ _ _).mono ?_;rintro e w0 ⟨he,hw0⟩;rw [d1] at he;subst he;rw [hw0];clear hw0 w0)
  go_loopw [15] (fun i wr=>∃q:Nat,q≤m.code.length∧i=.int .i64 q∧Hid (∀j,j<q→pinB cs ms m.code.length m.regs m.ret.kind (nth in0 m.code j)=true)∧Hid (Bl w wr)∧Hid (RmC wr w.heap.size m P C K p c k cs.length ms.length A B x y)) (fun i _=>m.code.length-(intOf i).toNat)
  case atStart=>exact ⟨0,Nat.zero_le _,rfl,fun j hj=>absurd hj (Nat.not_lt_zero _),HAL.out,HM.out⟩
  case round =>
   clear HM HAL
   obtain ⟨q,hq,rfl,hgq,hg,HM⟩:=hrel
   by_cases hql:q<m.code.length
   ·rcases HC.out.2 with h0|⟨b,off,rfl,hcell⟩
    ·omega
    obtain ⟨c0,c1,c2,c3,c4,hok,Q',q',c5,hq5⟩:=hcell q hql
    replace c0:=hg.out.cell c0
    replace c1:=hg.out.cell c1
    replace c2:=hg.out.cell c2
    replace c3:=hg.out.cell c3
    replace c4:=hg.out.cell c4
    replace c5:=hg.out.cell c5
    have HN:Hid (pinB cs ms m.code.length m.regs m.ret.kind (nth in0 m.code q)=false→R=false):=HB.out q hql
    generalize hX:nth in0 m.code q=X at *
    have HX:Hid (nth in0 m.code q=X):=hX
    have HOK:=hidp hok
    have HQ5:Hid (IntsAt w Q' X.args):=hq5
    clear hcell HB hX hq5 hok
    have HAW:Hid (Bl wr (wr.alloc (riO X Q' q'))):=(Bl.refl wr).alloc _
    have HMW:=hidp (rmc_far HM.out (riO X Q' q'))
    have HIW:=hidp (RiC.new wr X Q' q')
    obtain ⟨m0,m1,m2,m3,m4,m5,m6,m7,m8,m9⟩:=HMW.out
    have hdef:pinB cs ms m.code.length m.regs m.ret.kind X=(decide (1≤X.op∧X.op≤24)&&(pregB cs ms m.regs m.ret.kind X&&(pnumB cs.length m.code.length X&&prestB X))):=rfl
    obtain ⟨T0,hT0⟩:∃T0,decide (1≤X.op∧X.op≤24)=T0:=⟨_,rfl⟩
    obtain ⟨T1,hT1⟩:∃T1,pregB cs ms m.regs m.ret.kind X=T1:=⟨_,rfl⟩
    obtain ⟨T2,hT2⟩:∃T2,pnumB cs.length m.code.length X=T2:=⟨_,rfl⟩
    obtain ⟨T3,hT3⟩:∃T3,prestB X=T3:=⟨_,rfl⟩
    have HDEF:Hid (pinB cs ms m.code.length m.regs m.ret.kind X=(T0&&(T1&&(T2&&T3)))):=by rw [←hT0,←hT1,←hT2,←hT3];exact hdef
    clear hdef HG
    cases T0
    ·have HF:=HN.out (by rw [HDEF.out];rfl)
     clear HN
     go_wp2_with (first
      | (go_at_call 63;refine (span_any _ _ _ _).mono ?_;rintro e w0 ⟨he,hw0⟩;rw [hT0] at he;subst he;rw [hw0];clear hw0 w0))
     go_ret
     exact ⟨ret_bool HF.symm,hg.out.trans HAW.out⟩
    cases T1
    ·have HF:=HN.out (by rw [HDEF.out];rfl)
     clear HN
     go_wp2_with (first
      | (go_at_call 63;refine (span_any _ _ _ _).mono ?_;rintro e w0 ⟨he,hw0⟩;rw [hT0] at he;subst he;rw [hw0];clear hw0 w0)
      | (go_at_call 195;refine (preg_any X cs ms _ _ _ _ m _ _ _ _ _ _ _ _ _ h1 h2 HOK.out (HA.out.bl (hg.out.trans HAW.out)) (HBB.out.bl (hg.out.trans HAW.out)) (HQ5.out.bl (hg.out.trans HAW.out))).mono ?_;rintro e w1 ⟨he,g1⟩;rw [hT1] at he;subst he))
     go_ret
     exact ⟨ret_bool HF.symm,(hg.out.trans HAW.out).trans g1⟩
    cases T2
    ·have HF:=HN.out (by rw [HDEF.out];rfl)
     clear HN
     go_wp2_with (first
      | (go_at_call 63;refine (span_any _ _ _ _).mono ?_;rintro e w0 ⟨he,hw0⟩;rw [hT0] at he;subst he;rw [hw0];clear hw0 w0)
      | (go_at_call 195;refine (preg_any X cs ms _ _ _ _ m _ _ _ _ _ _ _ _ _ h1 h2 HOK.out (HA.out.bl (hg.out.trans HAW.out)) (HBB.out.bl (hg.out.trans HAW.out)) (HQ5.out.bl (hg.out.trans HAW.out))).mono ?_;rintro e w1 ⟨he,g1⟩;rw [hT1] at he;subst he;obtain ⟨a0,a1,a2,a3,a4,a5,a6,a7,a8,a9⟩:=HMW.out.bl g1;obtain ⟨i0,i1,i2,i3,i4,i5⟩:=HIW.out.bl g1)
      | (go_at_call 196;refine (pnum_any X _ _ _ _ _ _ m _ _ _ _ _ _ _ _ _ HNC.out HCODE.out).mono ?_;rintro e w2 ⟨he,g2⟩;rw [hT2] at he;subst he))
     go_ret
     exact ⟨ret_bool HF.symm,((hg.out.trans HAW.out).trans g1).trans g2⟩
    cases T3
    ·have HF:=HN.out (by rw [HDEF.out];rfl)
     clear HN
     go_wp2_with (first
      | (go_at_call 63;refine (span_any _ _ _ _).mono ?_;rintro e w0 ⟨he,hw0⟩;rw [hT0] at he;subst he;rw [hw0];clear hw0 w0)
      | (go_at_call 195;refine (preg_any X cs ms _ _ _ _ m _ _ _ _ _ _ _ _ _ h1 h2 HOK.out (HA.out.bl (hg.out.trans HAW.out)) (HBB.out.bl (hg.out.trans HAW.out)) (HQ5.out.bl (hg.out.trans HAW.out))).mono ?_;rintro e w1 ⟨he,g1⟩;rw [hT1] at he;subst he;obtain ⟨a0,a1,a2,a3,a4,a5,a6,a7,a8,a9⟩:=HMW.out.bl g1;obtain ⟨i0,i1,i2,i3,i4,i5⟩:=HIW.out.bl g1)
      | (go_at_call 196;refine (pnum_any X _ _ _ _ _ _ m _ _ _ _ _ _ _ _ _ HNC.out HCODE.out).mono ?_;rintro e w2 ⟨he,g2⟩;rw [hT2] at he;subst he;obtain ⟨j0,j1,j2,j3,j4,j5⟩:=HIW.out.bl (g1.trans g2))
      | (go_at_call 197;refine (prest_any X _ _ _ HQ5.out.1).mono ?_;rintro e w3 ⟨he,g3⟩;rw [hT3] at he;subst he))
     go_ret
     exact ⟨ret_bool HF.symm,(((hg.out.trans HAW.out).trans g1).trans g2).trans g3⟩
    ·have HT:Hid (pinB cs ms m.code.length m.regs m.ret.kind X=true):=by rw [HDEF.out];rfl
     clear HN
     go_wp2_with (first
      | (go_at_call 63;refine (span_any _ _ _ _).mono ?_;rintro e w0 ⟨he,hw0⟩;rw [hT0] at he;subst he;rw [hw0];clear hw0 w0)
      | (go_at_call 195;refine (preg_any X cs ms _ _ _ _ m _ _ _ _ _ _ _ _ _ h1 h2 HOK.out (HA.out.bl (hg.out.trans HAW.out)) (HBB.out.bl (hg.out.trans HAW.out)) (HQ5.out.bl (hg.out.trans HAW.out))).mono ?_;rintro e w1 ⟨he,g1⟩;rw [hT1] at he;subst he;obtain ⟨a0,a1,a2,a3,a4,a5,a6,a7,a8,a9⟩:=HMW.out.bl g1;obtain ⟨i0,i1,i2,i3,i4,i5⟩:=HIW.out.bl g1)
      | (go_at_call 196;refine (pnum_any X _ _ _ _ _ _ m _ _ _ _ _ _ _ _ _ HNC.out HCODE.out).mono ?_;rintro e w2 ⟨he,g2⟩;rw [hT2] at he;subst he;obtain ⟨j0,j1,j2,j3,j4,j5⟩:=HIW.out.bl (g1.trans g2))
      | (go_at_call 197;refine (prest_any X _ _ _ HQ5.out.1).mono ?_;rintro e w3 ⟨he,g3⟩;rw [hT3] at he;subst he))
     go_roundw
     case rel=>exact ⟨q+1,by omega,by go_num,fun j hj=>if h:j<q then hgq.out j h else by have:j=q:=(by omega);subst this;rw [HX.out];exact HT.out,(((hg.out.trans HAW.out).trans g1).trans g2).trans g3,HMW.out.bl ((g1.trans g2).trans g3)⟩
     case measure=>simp [intOf];omega
   ·have hkk:q=m.code.length:=by omega
    subst hkk
    have HF:=HG.out hgq.out
    clear HG
    go_wp2
    go_ret
    exact ⟨ret_bool HF.symm,hg.out⟩
 ·have d1:decide (1≤(m.code.length:Int)∧(m.code.length:Int)≤2400)=false:=decide_eq_false hl
  rw [d1,Bool.false_and]
  go_enter Tryz.func131,Tryz.ntmps131
  go_wp2_with (go_at_call 63;refine (span_any _ _ _ _).mono ?_;rintro e w0 ⟨he,hw0⟩;rw [d1] at he;subst he;rw [hw0];clear hw0 w0)
  go_ret
  exact ⟨rfl,HAL.out⟩
theorem pme_any (cs:List Cl) (ms:List Me) (A B:Option Addr) (x y:Nat) (m:Me) (P C K:Option Addr) (p c k:Nat) (w:World) (hA:ClsAt w A cs) (hB:MesAt w B ms) (hm:MeAt w m P C K) :
  Calls Tryz.prog 64 #[rmV m P C K p c k cs.length ms.length A B x y] w fun e w'=>e=.returned (.bool (pmeB cs ms m))∧Bl w w':=by
 have HA:Hid (ClsAt w A cs):=hA
 have HBB:Hid (MesAt w B ms):=hB
 have HME:Hid (MeAt w m P C K):=hm
 have HAL:Hid (Bl w (w.alloc (rmO m P C K p c k cs.length ms.length A B x y))):=(Bl.refl _).alloc _
 have HM:=hidp (RmC.new w m P C K p c k cs.length ms.length A B x y)
 have hnc:=hA.1
 unfold maxLen at hnc
 clear hA hB hm
 unfold pmeB
 cases hh:mhB cs.length m
 ·rw [Bool.false_and]
  go_enter Tryz.func64,Tryz.ntmps64
  go_wp2_with (go_at_call 110;refine (mayHead_any m _ _ _ _ _ _ _ _ (HME.out.bl HAL.out)).mono ?_;rintro e w1 ⟨he,g1⟩;rw [hh] at he;subst he)
  go_ret
  exact ⟨rfl,HAL.out.trans g1⟩
 ·rw [Bool.true_and]
  have h4:m.params.length≤4:=by
   have:=hh;unfold mhB at this;rw [Bool.and_eq_true,decide_eq_true_eq] at this;exact this.1
  have HKT:Hid (∀k,k<m.params.length→(nth ty0 m.params k).kind≠0):=fun k hk=>by have:=mh_prm hh k hk;omega
  cases hr:proomB m
  ·rw [Bool.false_and]
   go_enter Tryz.func64,Tryz.ntmps64
   go_wp2_with (first
    | (go_at_call 110;refine (mayHead_any m _ _ _ _ _ _ _ _ (HME.out.bl HAL.out)).mono ?_;rintro e w1 ⟨he,g1⟩;rw [hh] at he;subst he;obtain ⟨a0,a1,a2,a3,a4,a5,a6,a7,a8,a9⟩:=HM.out.bl g1)
    | (go_at_call 130;refine (proom_any m _ _ _ _ _ _ _ (HME.out.1.bl (HAL.out.trans g1)) h4 HKT.out).mono ?_;rintro e w2 ⟨he,g2⟩;rw [hr] at he;subst he))
   go_ret
   exact ⟨rfl,(HAL.out.trans g1).trans g2⟩
  ·rw [Bool.true_and]
   have hrr:1≤m.regs∧m.regs≤90:=by
    have:=hr;unfold proomB at this;rw [Bool.and_eq_true,Bool.and_eq_true,decide_eq_true_eq,decide_eq_true_eq,decide_eq_true_eq] at this;omega
   obtain ⟨h1,h2⟩:=hrr
   obtain ⟨R,hR⟩:∃R,pcodeB cs ms m=R:=⟨_,rfl⟩
   rw [hR]
   go_enter Tryz.func64,Tryz.ntmps64
   go_wp2_with (first
    | (go_at_call 110;refine (mayHead_any m _ _ _ _ _ _ _ _ (HME.out.bl HAL.out)).mono ?_;rintro e w1 ⟨he,g1⟩;rw [hh] at he;subst he;obtain ⟨a0,a1,a2,a3,a4,a5,a6,a7,a8,a9⟩:=HM.out.bl g1)
    | (go_at_call 130;refine (proom_any m _ _ _ _ _ _ _ (HME.out.1.bl (HAL.out.trans g1)) h4 HKT.out).mono ?_;rintro e w2 ⟨he,g2⟩;rw [hr] at he;subst he;obtain ⟨b0,b1,b2,b3,b4,b5,b6,b7,b8,b9⟩:=HM.out.bl (g1.trans g2))
    | (go_at_call 131;refine (pcode_any cs ms _ _ _ _ m _ _ _ _ _ _ _ h1 h2 (HA.out.bl ((HAL.out.trans g1).trans g2)) (HBB.out.bl ((HAL.out.trans g1).trans g2)) (HME.out.2.1.bl ((HAL.out.trans g1).trans g2))).mono ?_;rintro e w3 ⟨he,g3⟩;rw [hR] at he;subst he))
   go_ret
   exact ⟨rfl,((HAL.out.trans g1).trans g2).trans g3⟩
theorem pmay_cls {f:Fi} (h:mayB f.classes=false):pmayB f=false:=by unfold pmayB;rw [h];rfl
theorem pmay_many {f:Fi} (h:¬(1≤(f.methods.length:Int)∧(f.methods.length:Int)≤8)):pmayB f=false:=by unfold pmayB;rw [decide_eq_false h,Bool.false_and,Bool.and_false]
theorem pmay_me {f:Fi} {q:Nat} (hq:q<f.methods.length) (h:pmeB f.classes f.methods (nth me0 f.methods q)=false):pmayB f=false:=by
 unfold pmayB;rw [all_bad hq h,Bool.and_false,Bool.and_false]
theorem pmay_good {f:Fi} (h0:mayB f.classes=true) (h:1≤(f.methods.length:Int)∧(f.methods.length:Int)≤8)
  (hi:∀q,q<f.methods.length→pmeB f.classes f.methods (nth me0 f.methods q)=true):pmayB f=true:=by
 unfold pmayB;rw [h0,decide_eq_true h,all_good hi];rfl
theorem pmay_any (f:Fi) (A B:Option Addr) (a b:Nat) (w:World) (hA:ClsAt w A f.classes) (hB:MesAt w B f.methods) :
  Calls Tryz.prog 30 #[fiV f.classes.length f.methods.length A B a b] w fun e w'=>e=.returned (.bool (pmayB f))∧Bl w w':=by
 have HA:Hid (ClsAt w A f.classes):=hA
 have HB:Hid (MesAt w B f.methods):=hB
 have hcm:=hA.1
 have hmm:=hB.1
 unfold maxLen at hcm hmm
 clear hA hB
 have HF:Hid (FiBox (w.alloc (fiO f.classes.length f.methods.length A B a b)) w.heap.size 0 f.classes.length f.methods.length A B a b):=FiBox.new ..
 have HW:Hid (Bl w (w.alloc (fiO f.classes.length f.methods.length A B a b))):=(Bl.refl w).alloc _
 cases hm:mayB f.classes
 ·have hb:=pmay_cls hm
  rw [hb]
  go_enter Tryz.func30,Tryz.ntmps30
  go_wp2_with (go_at_call 62;refine (may_any _ _ _ _ (HA.out.bl HW.out)).mono ?_;rintro e w1 ⟨he,g1⟩;rw [hm] at he;subst he)
  go_ret
  exact ⟨rfl,HW.out.trans g1⟩
 by_cases hn:1≤(f.methods.length:Int)∧(f.methods.length:Int)≤8
 ·have dn:decide (1≤(f.methods.length:Int)∧(f.methods.length:Int)≤8)=true:=decide_eq_true hn
  have HG:Hid ((∀q,q<f.methods.length→pmeB f.classes f.methods (nth me0 f.methods q)=true)→pmayB f=true):=pmay_good hm hn
  go_enter Tryz.func30,Tryz.ntmps30
  go_wp2_with (first
   | (go_at_call 62;refine (may_any _ _ _ _ (HA.out.bl HW.out)).mono ?_;rintro e w1 ⟨he,g1⟩;rw [hm] at he;subst he;have q1:=(HF.out.bl g1).2;simp only [Nat.zero_add] at q1)
   | (go_at_call 63;refine (span_any _ _ _ _).mono ?_;rintro e w2 ⟨he,hw2⟩;rw [dn] at he;subst he;rw [hw2];clear hw2 w2))
  go_loopw [19] (fun i wr=>∃k:Nat,k≤f.methods.length∧i=.int .i64 k∧Hid (∀j,j<k→pmeB f.classes f.methods (nth me0 f.methods j)=true)∧Hid (Bl w wr)∧Hid (FiBox wr w.heap.size 0 f.classes.length f.methods.length A B a b)) (fun i _=>f.methods.length-(intOf i).toNat)
  case atStart=>exact ⟨0,Nat.zero_le _,rfl,fun j hj=>absurd hj (Nat.not_lt_zero _),HW.out.trans g1,HF.out.bl g1⟩
  case round =>
   clear HF HW q1 g1 hm
   obtain ⟨k,hk,rfl,hgk,hg,HF⟩:=hrel
   by_cases hkl:k<f.methods.length
   ·have hmes:=HB.out.bl hg.out
    have HMES:=hidp hmes
    rcases hmes.2 with h0|⟨b',off',rfl,hcell⟩
    ·omega
    obtain ⟨P,C,K,p,c,kk,c0,c1,c2,c3,c4,c5,c6,c7,hme⟩:=hcell k hkl
    have HBAD:Hid (pmeB f.classes f.methods (nth me0 f.methods k)=false→pmayB f=false):=pmay_me hkl
    generalize hM:nth me0 f.methods k=m at *
    have HM:Hid (nth me0 f.methods k=m):=hM
    have HME:Hid (MeAt wr m P C K):=hme
    have qf0:∀o,(wr.alloc o).cell? ⟨w.heap.size,0,none⟩=some (.slice A f.classes.length a):=fun o=>((Bl.refl wr).alloc o).cell HF.out.1
    have qf1:∀o,(wr.alloc o).cell? ⟨w.heap.size,1,none⟩=some (.slice (some ⟨b',off',none⟩) f.methods.length b):=fun o=>by
     have:=HF.out.2;simp only [Nat.zero_add] at this;exact ((Bl.refl wr).alloc o).cell this
    have HAL:Hid (Bl wr (wr.alloc (meO m P C K p c kk))):=(Bl.refl wr).alloc _
    have HFA:Hid (FiBox (wr.alloc (meO m P C K p c kk)) w.heap.size 0 f.classes.length f.methods.length A _ a b):=HF.out.bl HAL.out
    clear hmes hcell hM hme
    cases hh:pmeB f.classes f.methods m
    ·have HN:Hid (pmayB f=false):=HBAD.out hh
     clear HBAD
     go_wp2_with (go_at_call 64;refine (pme_any f.classes f.methods _ _ _ _ m _ _ _ _ _ _ _ (HA.out.bl (hg.out.trans HAL.out)) (HMES.out.bl HAL.out) (HME.out.bl HAL.out)).mono ?_;rintro e w1 ⟨he,g1⟩;rw [hh] at he;subst he)
     go_ret
     exact ⟨ret_bool HN.out.symm,(hg.out.trans HAL.out).trans g1⟩
    ·have HT:Hid (pmeB f.classes f.methods m=true):=hh
     clear HBAD
     go_wp2_with (go_at_call 64;refine (pme_any f.classes f.methods _ _ _ _ m _ _ _ _ _ _ _ (HA.out.bl (hg.out.trans HAL.out)) (HMES.out.bl HAL.out) (HME.out.bl HAL.out)).mono ?_;rintro e w1 ⟨he,g1⟩;rw [hh] at he;subst he)
     go_roundw
     case rel=>exact ⟨k+1,by omega,by go_num,fun j hj=>if h:j<k then hgk.out j h else by have:j=k:=(by omega);subst this;rw [HM.out];exact HT.out,(hg.out.trans HAL.out).trans g1,HFA.out.bl g1⟩
     case measure=>simp [intOf];omega
   ·obtain rfl:k=f.methods.length:=by omega
    have HN:Hid (pmayB f=true):=HG.out hgk.out
    go_wp2
    go_ret
    exact ⟨ret_bool HN.out.symm,hg.out⟩
 ·have hb:=pmay_many (f:=f) hn
  rw [hb]
  have dn:decide (1≤(f.methods.length:Int)∧(f.methods.length:Int)≤8)=false:=decide_eq_false hn
  go_enter Tryz.func30,Tryz.ntmps30
  go_wp2_with (first
   | (go_at_call 62;refine (may_any _ _ _ _ (HA.out.bl HW.out)).mono ?_;rintro e w1 ⟨he,g1⟩;rw [hm] at he;subst he;have q1:=(HF.out.bl g1).2;simp only [Nat.zero_add] at q1)
   | (go_at_call 63;refine (span_any _ _ _ _).mono ?_;rintro e w2 ⟨he,hw2⟩;rw [dn] at he;subst he;rw [hw2];clear hw2 w2))
  go_ret
  exact ⟨rfl,HW.out.trans g1⟩
theorem pmay_doc (f:Fi) (A B:Option Addr) (a b:Nat) (w:World) (hA:ClsAt w A f.classes) (hB:MesAt w B f.methods) :
  Calls Tryz.prog 30 #[fiV f.classes.length f.methods.length A B a b] w fun e w'=>e=.returned (.bool (rfmayB f))∧Bl w w':=by
 rw [pmay_is];exact pmay_any f A B a b w hA hB
theorem rreg_any (m:Me) (P C K:Option Addr) (p c k:Nat) (n kind:Int) (w:World) (h1:1≤m.regs) (h2:m.regs≤90) :
  Calls Tryz.prog 79 #[meV m P C K p c k,.int .i64 n,.int .i64 kind] w fun e w'=>e=.returned (.bool (regB m.regs n kind))∧Bl w w':=by
 by_cases hk:kind=2
 ·subst hk
  go_enter Tryz.func79,Tryz.ntmps79
  go_wp2_with (go_at_call 36;refine (within_any _ _ _ _).mono ?_;rintro e w' ⟨rfl,rfl⟩)
  go_ret
  exact ⟨ret_bool (by unfold regB;rw [if_pos rfl,Bool.eq_iff_iff];simp),(Bl.refl _).alloc _⟩
 ·have hk':(kind==2)=false:=by simpa using hk
  go_enter Tryz.func79,Tryz.ntmps79
  go_wp2_with (go_at_call 36;refine (within_any _ _ _ _).mono ?_;rintro e w' ⟨rfl,rfl⟩)
  go_ret
  exact ⟨ret_bool (by unfold regB;rw [if_neg hk,Bool.eq_iff_iff];simp),(Bl.refl _).alloc _⟩
theorem rnamed_none (op:Int) (w:World) (h:op<1∨24<op) :
  Calls Tryz.prog 78 #[.int .i64 op] w fun e w'=>e=.returned (.tuple #[.slice none 0 0,.bool false])∧w'=w:=by
 have z1:(op==1)=false:=by simp;omega
 have z2:(op==2)=false:=by simp;omega
 have z3:(op==3)=false:=by simp;omega
 have z4:(op==4)=false:=by simp;omega
 have z5:(op==5)=false:=by simp;omega
 have z6:(op==6)=false:=by simp;omega
 have z7:(op==7)=false:=by simp;omega
 have z8:(op==8)=false:=by simp;omega
 have z9:(op==9)=false:=by simp;omega
 have z10:(op==10)=false:=by simp;omega
 have z11:(op==11)=false:=by simp;omega
 have z12:(op==12)=false:=by simp;omega
 have z13:(op==13)=false:=by simp;omega
 have z14:(op==14)=false:=by simp;omega
 have z15:(op==15)=false:=by simp;omega
 have z16:(op==16)=false:=by simp;omega
 have z17:(op==17)=false:=by simp;omega
 have z18:(op==18)=false:=by simp;omega
 have z19:(op==19)=false:=by simp;omega
 have z20:(op==20)=false:=by simp;omega
 have z21:(op==21)=false:=by simp;omega
 have z22:(op==22)=false:=by simp;omega
 have z23:(op==23)=false:=by simp;omega
 have z24:(op==24)=false:=by simp;omega
 go_enter Tryz.func78,Tryz.ntmps78
 go_wp2
 go_ret2
 exact ⟨rfl,rfl⟩
def Three (w w':World) (e:Ending) (x y z:Int):Prop:=e=.returned (.tuple #[.slice (some ⟨w.heap.size,0,none⟩) 3 3,.bool true])∧w'=w.alloc (.cells #[.int .i64 x,.int .i64 y,.int .i64 z] 3)
theorem rnamed_1 (w:World):Calls Tryz.prog 78 #[.int .i64 1] w fun e w'=>Three w w' e (1) (0) (0):=by
 go_enter Tryz.func78,Tryz.ntmps78
 go_wp2
 go_ret2
 exact ⟨rfl,rfl⟩
theorem rnamed_2 (w:World):Calls Tryz.prog 78 #[.int .i64 2] w fun e w'=>Three w w' e (2) (0) (0):=by
 go_enter Tryz.func78,Tryz.ntmps78
 go_wp2
 go_ret2
 exact ⟨rfl,rfl⟩
theorem rnamed_3 (w:World):Calls Tryz.prog 78 #[.int .i64 3] w fun e w'=>Three w w' e (3) (0) (0):=by
 go_enter Tryz.func78,Tryz.ntmps78
 go_wp2
 go_ret2
 exact ⟨rfl,rfl⟩
theorem rnamed_4 (w:World):Calls Tryz.prog 78 #[.int .i64 4] w fun e w'=>Three w w' e (-1) (-1) (-1):=by
 go_enter Tryz.func78,Tryz.ntmps78
 go_wp2
 go_ret2
 exact ⟨rfl,rfl⟩
theorem rnamed_5 (w:World):Calls Tryz.prog 78 #[.int .i64 5] w fun e w'=>Three w w' e (1) (1) (1):=by
 go_enter Tryz.func78,Tryz.ntmps78
 go_wp2
 go_ret2
 exact ⟨rfl,rfl⟩
theorem rnamed_6 (w:World):Calls Tryz.prog 78 #[.int .i64 6] w fun e w'=>Three w w' e (2) (2) (2):=by
 go_enter Tryz.func78,Tryz.ntmps78
 go_wp2
 go_ret2
 exact ⟨rfl,rfl⟩
theorem rnamed_7 (w:World):Calls Tryz.prog 78 #[.int .i64 7] w fun e w'=>Three w w' e (2) (1) (0):=by
 go_enter Tryz.func78,Tryz.ntmps78
 go_wp2
 go_ret2
 exact ⟨rfl,rfl⟩
theorem rnamed_8 (w:World):Calls Tryz.prog 78 #[.int .i64 8] w fun e w'=>Three w w' e (1) (2) (0):=by
 go_enter Tryz.func78,Tryz.ntmps78
 go_wp2
 go_ret2
 exact ⟨rfl,rfl⟩
theorem rnamed_9 (w:World):Calls Tryz.prog 78 #[.int .i64 9] w fun e w'=>Three w w' e (1) (2) (2):=by
 go_enter Tryz.func78,Tryz.ntmps78
 go_wp2
 go_ret2
 exact ⟨rfl,rfl⟩
theorem rnamed_10 (w:World):Calls Tryz.prog 78 #[.int .i64 10] w fun e w'=>Three w w' e (-1) (0) (0):=by
 go_enter Tryz.func78,Tryz.ntmps78
 go_wp2
 go_ret2
 exact ⟨rfl,rfl⟩
theorem rnamed_11 (w:World):Calls Tryz.prog 78 #[.int .i64 11] w fun e w'=>Three w w' e (-1) (-1) (1):=by
 go_enter Tryz.func78,Tryz.ntmps78
 go_wp2
 go_ret2
 exact ⟨rfl,rfl⟩
theorem rnamed_12 (w:World):Calls Tryz.prog 78 #[.int .i64 12] w fun e w'=>Three w w' e (-1) (0) (3):=by
 go_enter Tryz.func78,Tryz.ntmps78
 go_wp2
 go_ret2
 exact ⟨rfl,rfl⟩
theorem rnamed_13 (w:World):Calls Tryz.prog 78 #[.int .i64 13] w fun e w'=>Three w w' e (3) (-1) (0):=by
 go_enter Tryz.func78,Tryz.ntmps78
 go_wp2
 go_ret2
 exact ⟨rfl,rfl⟩
theorem rnamed_14 (w:World):Calls Tryz.prog 78 #[.int .i64 14] w fun e w'=>Three w w' e (-1) (3) (-1):=by
 go_enter Tryz.func78,Tryz.ntmps78
 go_wp2
 go_ret2
 exact ⟨rfl,rfl⟩
theorem rnamed_15 (w:World):Calls Tryz.prog 78 #[.int .i64 15] w fun e w'=>Three w w' e (-1) (3) (-1):=by
 go_enter Tryz.func78,Tryz.ntmps78
 go_wp2
 go_ret2
 exact ⟨rfl,rfl⟩
theorem rnamed_16 (w:World):Calls Tryz.prog 78 #[.int .i64 16] w fun e w'=>Three w w' e (3) (-1) (0):=by
 go_enter Tryz.func78,Tryz.ntmps78
 go_wp2
 go_ret2
 exact ⟨rfl,rfl⟩
theorem rnamed_17 (w:World):Calls Tryz.prog 78 #[.int .i64 17] w fun e w'=>Three w w' e (1) (3) (-1):=by
 go_enter Tryz.func78,Tryz.ntmps78
 go_wp2
 go_ret2
 exact ⟨rfl,rfl⟩
theorem rnamed_18 (w:World):Calls Tryz.prog 78 #[.int .i64 18] w fun e w'=>Three w w' e (-1) (0) (0):=by
 go_enter Tryz.func78,Tryz.ntmps78
 go_wp2
 go_ret2
 exact ⟨rfl,rfl⟩
theorem rnamed_19 (w:World):Calls Tryz.prog 78 #[.int .i64 19] w fun e w'=>Three w w' e (-1) (-1) (0):=by
 go_enter Tryz.func78,Tryz.ntmps78
 go_wp2
 go_ret2
 exact ⟨rfl,rfl⟩
theorem rnamed_20 (w:World):Calls Tryz.prog 78 #[.int .i64 20] w fun e w'=>Three w w' e (-1) (0) (0):=by
 go_enter Tryz.func78,Tryz.ntmps78
 go_wp2
 go_ret2
 exact ⟨rfl,rfl⟩
theorem rnamed_21 (w:World):Calls Tryz.prog 78 #[.int .i64 21] w fun e w'=>Three w w' e (3) (0) (0):=by
 go_enter Tryz.func78,Tryz.ntmps78
 go_wp2
 go_ret2
 exact ⟨rfl,rfl⟩
theorem rnamed_22 (w:World):Calls Tryz.prog 78 #[.int .i64 22] w fun e w'=>Three w w' e (3) (0) (0):=by
 go_enter Tryz.func78,Tryz.ntmps78
 go_wp2
 go_ret2
 exact ⟨rfl,rfl⟩
theorem rnamed_23 (w:World):Calls Tryz.prog 78 #[.int .i64 23] w fun e w'=>Three w w' e (-1) (-1) (0):=by
 go_enter Tryz.func78,Tryz.ntmps78
 go_wp2
 go_ret2
 exact ⟨rfl,rfl⟩
theorem rnamed_24 (w:World):Calls Tryz.prog 78 #[.int .i64 24] w fun e w'=>Three w w' e (2) (0) (0):=by
 go_enter Tryz.func78,Tryz.ntmps78
 go_wp2
 go_ret2
 exact ⟨rfl,rfl⟩
theorem rnamed_any (op:Int) (w:World) (x y z:Int) (h:kindsOf op=some (x,y,z)):Calls Tryz.prog 78 #[.int .i64 op] w fun e w'=>Three w w' e x y z:=by
 by_cases h1:op=1
 ·subst h1
  have hk:kindsOf 1=some (1,0,0):=by decide
  rw [hk] at h
  injection h with h
  injection h with ha h
  injection h with hb hc
  subst ha hb hc
  exact rnamed_1 w
 by_cases h2:op=2
 ·subst h2
  have hk:kindsOf 2=some (2,0,0):=by decide
  rw [hk] at h
  injection h with h
  injection h with ha h
  injection h with hb hc
  subst ha hb hc
  exact rnamed_2 w
 by_cases h3:op=3
 ·subst h3
  have hk:kindsOf 3=some (3,0,0):=by decide
  rw [hk] at h
  injection h with h
  injection h with ha h
  injection h with hb hc
  subst ha hb hc
  exact rnamed_3 w
 by_cases h4:op=4
 ·subst h4
  have hk:kindsOf 4=some (-1,-1,-1):=by decide
  rw [hk] at h
  injection h with h
  injection h with ha h
  injection h with hb hc
  subst ha hb hc
  exact rnamed_4 w
 by_cases h5:op=5
 ·subst h5
  have hk:kindsOf 5=some (1,1,1):=by decide
  rw [hk] at h
  injection h with h
  injection h with ha h
  injection h with hb hc
  subst ha hb hc
  exact rnamed_5 w
 by_cases h6:op=6
 ·subst h6
  have hk:kindsOf 6=some (2,2,2):=by decide
  rw [hk] at h
  injection h with h
  injection h with ha h
  injection h with hb hc
  subst ha hb hc
  exact rnamed_6 w
 by_cases h7:op=7
 ·subst h7
  have hk:kindsOf 7=some (2,1,0):=by decide
  rw [hk] at h
  injection h with h
  injection h with ha h
  injection h with hb hc
  subst ha hb hc
  exact rnamed_7 w
 by_cases h8:op=8
 ·subst h8
  have hk:kindsOf 8=some (1,2,0):=by decide
  rw [hk] at h
  injection h with h
  injection h with ha h
  injection h with hb hc
  subst ha hb hc
  exact rnamed_8 w
 by_cases h9:op=9
 ·subst h9
  have hk:kindsOf 9=some (1,2,2):=by decide
  rw [hk] at h
  injection h with h
  injection h with ha h
  injection h with hb hc
  subst ha hb hc
  exact rnamed_9 w
 by_cases h10:op=10
 ·subst h10
  have hk:kindsOf 10=some (-1,0,0):=by decide
  rw [hk] at h
  injection h with h
  injection h with ha h
  injection h with hb hc
  subst ha hb hc
  exact rnamed_10 w
 by_cases h11:op=11
 ·subst h11
  have hk:kindsOf 11=some (-1,-1,1):=by decide
  rw [hk] at h
  injection h with h
  injection h with ha h
  injection h with hb hc
  subst ha hb hc
  exact rnamed_11 w
 by_cases h12:op=12
 ·subst h12
  have hk:kindsOf 12=some (-1,0,3):=by decide
  rw [hk] at h
  injection h with h
  injection h with ha h
  injection h with hb hc
  subst ha hb hc
  exact rnamed_12 w
 by_cases h13:op=13
 ·subst h13
  have hk:kindsOf 13=some (3,-1,0):=by decide
  rw [hk] at h
  injection h with h
  injection h with ha h
  injection h with hb hc
  subst ha hb hc
  exact rnamed_13 w
 by_cases h14:op=14
 ·subst h14
  have hk:kindsOf 14=some (-1,3,-1):=by decide
  rw [hk] at h
  injection h with h
  injection h with ha h
  injection h with hb hc
  subst ha hb hc
  exact rnamed_14 w
 by_cases h15:op=15
 ·subst h15
  have hk:kindsOf 15=some (-1,3,-1):=by decide
  rw [hk] at h
  injection h with h
  injection h with ha h
  injection h with hb hc
  subst ha hb hc
  exact rnamed_15 w
 by_cases h16:op=16
 ·subst h16
  have hk:kindsOf 16=some (3,-1,0):=by decide
  rw [hk] at h
  injection h with h
  injection h with ha h
  injection h with hb hc
  subst ha hb hc
  exact rnamed_16 w
 by_cases h17:op=17
 ·subst h17
  have hk:kindsOf 17=some (1,3,-1):=by decide
  rw [hk] at h
  injection h with h
  injection h with ha h
  injection h with hb hc
  subst ha hb hc
  exact rnamed_17 w
 by_cases h18:op=18
 ·subst h18
  have hk:kindsOf 18=some (-1,0,0):=by decide
  rw [hk] at h
  injection h with h
  injection h with ha h
  injection h with hb hc
  subst ha hb hc
  exact rnamed_18 w
 by_cases h19:op=19
 ·subst h19
  have hk:kindsOf 19=some (-1,-1,0):=by decide
  rw [hk] at h
  injection h with h
  injection h with ha h
  injection h with hb hc
  subst ha hb hc
  exact rnamed_19 w
 by_cases h20:op=20
 ·subst h20
  have hk:kindsOf 20=some (-1,0,0):=by decide
  rw [hk] at h
  injection h with h
  injection h with ha h
  injection h with hb hc
  subst ha hb hc
  exact rnamed_20 w
 by_cases h21:op=21
 ·subst h21
  have hk:kindsOf 21=some (3,0,0):=by decide
  rw [hk] at h
  injection h with h
  injection h with ha h
  injection h with hb hc
  subst ha hb hc
  exact rnamed_21 w
 by_cases h22:op=22
 ·subst h22
  have hk:kindsOf 22=some (3,0,0):=by decide
  rw [hk] at h
  injection h with h
  injection h with ha h
  injection h with hb hc
  subst ha hb hc
  exact rnamed_22 w
 by_cases h23:op=23
 ·subst h23
  have hk:kindsOf 23=some (-1,-1,0):=by decide
  rw [hk] at h
  injection h with h
  injection h with ha h
  injection h with hb hc
  subst ha hb hc
  exact rnamed_23 w
 by_cases h24:op=24
 ·subst h24
  have hk:kindsOf 24=some (2,0,0):=by decide
  rw [hk] at h
  injection h with h
  injection h with ha h
  injection h with hb hc
  subst ha hb hc
  exact rnamed_24 w
 have hk:kindsOf op=none:=by
  unfold kindsOf
  rw [if_neg h1,if_neg h2,if_neg h3,if_neg h4,if_neg h5,if_neg h6,if_neg h7,if_neg h8,if_neg h9,if_neg h10,if_neg h11,if_neg h12,if_neg h13,if_neg h14,if_neg h15,if_neg h16,if_neg h17,if_neg h18,if_neg h19,if_neg h20,if_neg h21,if_neg h22,if_neg h23,if_neg h24]
 rw [hk] at h
 cases h
theorem kinds_none {op:Int} (h:kindsOf op=none):op<1∨24<op:=by
 refine Decidable.byContradiction fun hc=>?_
 have:op=1∨op=2∨op=3∨op=4∨op=5∨op=6∨op=7∨op=8∨op=9∨op=10∨op=11∨op=12∨op=13∨op=14∨op=15∨op=16∨op=17∨op=18∨op=19∨op=20∨op=21∨op=22∨op=23∨op=24:=by omega
 rcases this with rfl|rfl|rfl|rfl|rfl|rfl|rfl|rfl|rfl|rfl|rfl|rfl|rfl|rfl|rfl|rfl|rfl|rfl|rfl|rfl|rfl|rfl|rfl|rfl<;>exact absurd h (by decide)
def Cells3 (w:World) (b:Nat) (x y z:Int):Prop:=w.cell? ⟨b,0,none⟩=some (.int .i64 x)∧w.cell? ⟨b,1,none⟩=some (.int .i64 y)∧w.cell? ⟨b,2,none⟩=some (.int .i64 z)
def three (x y z:Int) (k:Nat):Int:=if k=0 then x else if k=1 then y else z
theorem Cells3.at {w:World} {b:Nat} {x y z:Int} (h:Cells3 w b x y z) (k:Nat) (hk:k<3):w.cell? ⟨b,k,none⟩=some (.int .i64 (three x y z k)):=by
 have:k=0∨k=1∨k=2:=by omega
 rcases this with rfl|rfl|rfl
 ·exact h.1
 ·exact h.2.1
 ·exact h.2.2
theorem Cells3.bl {w w':World} (h:Bl w w') {b:Nat} {x y z:Int} (hb:Cells3 w b x y z):Cells3 w' b x y z:=⟨h.cell hb.1,h.cell hb.2.1,h.cell hb.2.2⟩
theorem InBox.bl {w w':World} (h:Bl w w') {b off:Nat} {i:In} {Q:Option Addr} {q:Nat} (hb:InBox w b off i Q q):InBox w' b off i Q q :=
 ⟨h.cell hb.1,h.cell hb.2.1,h.cell hb.2.2.1,h.cell hb.2.2.2.1,h.cell hb.2.2.2.2.1,h.cell hb.2.2.2.2.2⟩
theorem InBox.lit {w:World} {b:Nat} {i:In} {Q:Option Addr} {q:Nat} (h:InBox w b 0 i Q q) :
  w.cell? ⟨b,0,none⟩=some (.int .i64 i.op)∧w.cell? ⟨b,1,none⟩=some (.int .i64 i.a)∧w.cell? ⟨b,2,none⟩=some (.int .i64 i.b)∧w.cell? ⟨b,3,none⟩=some (.int .i64 i.c)∧w.cell? ⟨b,4,none⟩=some (.int .i64 i.n)∧w.cell? ⟨b,5,none⟩=some (.slice Q i.args.length q):=h
theorem MeBox.lit {w:World} {b:Nat} {m:Me} {P C K:Option Addr} {p c k:Nat} (h:MeBox w b 0 m P C K p c k) :
  w.cell? ⟨b,0,none⟩=some (.slice P m.params.length p)∧w.cell? ⟨b,1,none⟩=some (.int .i64 m.ret.kind)∧w.cell? ⟨b,2,none⟩=some (.int .i64 m.ret.cls)
  ∧ w.cell? ⟨b,3,none⟩=some (.int .i64 m.stack)∧w.cell? ⟨b,4,none⟩=some (.int .i64 m.locs)∧w.cell? ⟨b,5,none⟩=some (.int .i64 m.regs)
  ∧ w.cell? ⟨b,6,none⟩=some (.slice C m.code.length c)∧w.cell? ⟨b,7,none⟩=some (.slice K m.hands.length k):=h
theorem FiBox.lit {w:World} {b nc nm:Nat} {A B:Option Addr} {x y:Nat} (h:FiBox w b 0 nc nm A B x y):w.cell? ⟨b,0,none⟩=some (.slice A nc x)∧w.cell? ⟨b,1,none⟩=some (.slice B nm y):=h
structure RBox (w:World) (s nc nm:Nat) (A B:Option Addr) (a b:Nat) (m:Me) (P C K:Option Addr) (p c k:Nat) (i:In) (Q:Option Addr) (q:Nat) (x y z:Int):Prop where
 rf:FiBox w s 0 nc nm A B a b
 rm:MeBox w (s+1) 0 m P C K p c k
 ri:InBox w (s+1+1) 0 i Q q
 rk:Cells3 w (s+1+1+1) x y z
 rd:Cells3 w (s+1+1+1+1) i.a i.b i.c
theorem RBox.bl {w w':World} (h:Bl w w') {s nc nm:Nat} {A B:Option Addr} {a b:Nat} {m:Me} {P C K:Option Addr} {p c k:Nat} {i:In} {Q:Option Addr} {q:Nat} {x y z:Int} (hb:RBox w s nc nm A B a b m P C K p c k i Q q x y z):RBox w' s nc nm A B a b m P C K p c k i Q q x y z :=
 ⟨hb.rf.bl h,hb.rm.bl h,hb.ri.bl h,hb.rk.bl h,hb.rd.bl h⟩
abbrev boxed5 (w:World) (nc nm:Nat) (A B:Option Addr) (a b:Nat) (m:Me) (P C K:Option Addr) (p c k:Nat) (i:In) (Q:Option Addr) (q:Nat) (x y z:Int):World :=
 (((((w.alloc (.cells #[.slice A nc a,.slice B nm b] 25)).alloc (.cells #[.slice P m.params.length p,.int .i64 m.ret.kind,.int .i64 m.ret.cls,.int .i64 m.stack,.int .i64 m.locs,.int .i64 m.regs,.slice C m.code.length c,.slice K m.hands.length k] 50)).alloc
  (.cells #[.int .i64 i.op,.int .i64 i.a,.int .i64 i.b,.int .i64 i.c,.int .i64 i.n,.slice Q i.args.length q] 58)).alloc (.cells #[.int .i64 x,.int .i64 y,.int .i64 z] 3)).alloc (.cells #[.int .i64 i.a,.int .i64 i.b,.int .i64 i.c] 3))
theorem boxed5_is (w:World) (nc nm:Nat) (A B:Option Addr) (a b:Nat) (m:Me) (P C K:Option Addr) (p c k:Nat) (i:In) (Q:Option Addr) (q:Nat) (x y z:Int) :
  RBox (boxed5 w nc nm A B a b m P C K p c k i Q q x y z) w.heap.size nc nm A B a b m P C K p c k i Q q x y z:=by
 obtain ⟨w1,h1⟩:∃w1,w.alloc (.cells #[.slice A nc a,.slice B nm b] 25)=w1:=⟨_,rfl⟩
 obtain ⟨w2,h2⟩:∃w2,w1.alloc (.cells #[.slice P m.params.length p,.int .i64 m.ret.kind,.int .i64 m.ret.cls,.int .i64 m.stack,.int .i64 m.locs,.int .i64 m.regs,.slice C m.code.length c,.slice K m.hands.length k] 50)=w2:=⟨_,rfl⟩
 obtain ⟨w3,h3⟩:∃w3,w2.alloc (.cells #[.int .i64 i.op,.int .i64 i.a,.int .i64 i.b,.int .i64 i.c,.int .i64 i.n,.slice Q i.args.length q] 58)=w3:=⟨_,rfl⟩
 obtain ⟨w4,h4⟩:∃w4,w3.alloc (.cells #[.int .i64 x,.int .i64 y,.int .i64 z] 3)=w4:=⟨_,rfl⟩
 obtain ⟨w5,h5⟩:∃w5,w4.alloc (.cells #[.int .i64 i.a,.int .i64 i.b,.int .i64 i.c] 3)=w5:=⟨_,rfl⟩
 have s1:w1.heap.size=w.heap.size+1:=by rw [←h1,World.size_alloc]
 have s2:w2.heap.size=w.heap.size+1+1:=by rw [←h2,World.size_alloc,s1]
 have s3:w3.heap.size=w.heap.size+1+1+1:=by rw [←h3,World.size_alloc,s2]
 have s4:w4.heap.size=w.heap.size+1+1+1+1:=by rw [←h4,World.size_alloc,s3]
 have e:boxed5 w nc nm A B a b m P C K p c k i Q q x y z=w5:=by rw [←h5,←h4,←h3,←h2,←h1]
 rw [e]
 have b45:Bl w4 w5:=by rw [←h5];exact (Bl.refl _).alloc _
 have b35:Bl w3 w5:=Bl.trans (by rw [←h4];exact (Bl.refl _).alloc _) b45
 have b25:Bl w2 w5:=Bl.trans (by rw [←h3];exact (Bl.refl _).alloc _) b35
 have b15:Bl w1 w5:=Bl.trans (by rw [←h2];exact (Bl.refl _).alloc _) b25
 refine ⟨FiBox.bl b15 ?_,MeBox.bl b25 ?_,InBox.bl b35 ?_,Cells3.bl b45 ?_,?_⟩
 ·rw [←h1];exact ⟨cell_of_new rfl,cell_of_new rfl⟩
 ·rw [←h2,←s1];exact ⟨cell_of_new rfl,cell_of_new rfl,cell_of_new rfl,cell_of_new rfl,cell_of_new rfl,cell_of_new rfl,cell_of_new rfl,cell_of_new rfl⟩
 ·rw [←h3,←s2];exact ⟨cell_of_new rfl,cell_of_new rfl,cell_of_new rfl,cell_of_new rfl,cell_of_new rfl,cell_of_new rfl⟩
 ·rw [←h4,←s3];exact ⟨cell_of_new rfl,cell_of_new rfl,cell_of_new rfl⟩
 ·rw [←h5,←s4];exact ⟨cell_of_new rfl,cell_of_new rfl,cell_of_new rfl⟩
theorem rin_field {cs:List Cl} {ms:List Me} {nc:Nat} {regs ret:Int} {i:In} {x y z:Int} (h:kindsOf i.op=some (x,y,z)) {k:Nat} (hk:k<3) (hb:rfldB regs (three i.a i.b i.c k) (three x y z k)=false):rinB cs ms nc regs ret i=false:=by
 unfold rinB;rw [h]
 have:k=0∨k=1∨k=2:=by omega
 rcases this with rfl|rfl|rfl<;>simp [three] at hb<;>simp [hb]
theorem rin_rest {cs:List Cl} {ms:List Me} {nc:Nat} {regs ret:Int} {i:In} {x y z:Int} (h:kindsOf i.op=some (x,y,z)) (hb:∀k,k<3→rfldB regs (three i.a i.b i.c k) (three x y z k)=true):rinB cs ms nc regs ret i=rrestB cs ms nc regs ret i:=by
 unfold rinB;rw [h]
 have h0:=hb 0 (by omega)
 have h1:=hb 1 (by omega)
 have h2:=hb 2 (by omega)
 simp [three] at h0 h1 h2
 simp [h0,h1,h2]
end Go.Proofs.YtgiiapenmjollabGreat
