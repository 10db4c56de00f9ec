import Derived.Test.YtgiiapenmjollaaGreatSsaw
import Derived.Test.YtgiiapenmjollaaGreatSsax
import Derived.Test.YtgiiapenmjollaaGreatChecked
import Derived.KernelRfl
import Derived.ProofKit
import Derived.OpenShut
import Derived.ReadAgain
namespace Go.Proofs.YtgiiapenmjollaaGreat
set_option linter.all false
set_option maxHeartbeats 40000000
set_option maxRecDepth 100000
open Go.RowKit
theorem sme_head {cs:List Cl} {nm:Nat} {m:Me} (h:headB cs.length m 400=false):smeB cs nm m=false:=by unfold smeB;rw [h];rfl
theorem sme_nums {cs:List Cl} {nm:Nat} {m:Me} (h:¬(m.regs=0∧0≤m.stack∧m.stack≤30∧(slotsN m.params:Int)≤m.locs∧m.locs≤60)):smeB cs nm m=false:=by
 unfold smeB;rw [decide_eq_false h,Bool.and_false];rfl
theorem sme_ins {cs:List Cl} {nm:Nat} {m:Me} {q:Nat} (hq:q<m.code.length) (h:sinB cs nm m.code.length m.locs (nth in0 m.code q)=false):smeB cs nm m=false:=by
 unfold smeB;rw [all_bad hq h,Bool.and_false]
theorem sme_good {cs:List Cl} {nm:Nat} {m:Me} (h0:headB cs.length m 400=true) (h:m.regs=0∧0≤m.stack∧m.stack≤30∧(slotsN m.params:Int)≤m.locs∧m.locs≤60)
  (hi:∀q,q<m.code.length→sinB cs nm m.code.length m.locs (nth in0 m.code q)=true):smeB cs nm m=true:=by
 unfold smeB;rw [h0,decide_eq_true h,all_good hi];rfl
theorem smay_cls {f:Fi} (h:mayB f.classes=false):smayB f=false:=by unfold smayB;rw [h];rfl
theorem smay_many {f:Fi} (h:¬(1≤f.methods.length∧f.methods.length≤8)):smayB f=false:=by unfold smayB;rw [decide_eq_false h,Bool.and_false];rfl
theorem smay_me {f:Fi} {q:Nat} (hq:q<f.methods.length) (h:smeB f.classes f.methods.length (nth me0 f.methods q)=false):smayB f=false:=by
 unfold smayB;rw [all_bad hq h,Bool.and_false]
theorem smay_good {f:Fi} (h0:mayB f.classes=true) (h:1≤f.methods.length∧f.methods.length≤8)
  (hi:∀q,q<f.methods.length→smeB f.classes f.methods.length (nth me0 f.methods q)=true):smayB f=true:=by
 unfold smayB;rw [h0,decide_eq_true h,all_good hi];rfl
theorem head_few4 {nc:Nat} {m:Me} {most:Int} (h:headB nc m most=true):m.params.length≤4∧m.hands.length≤8∧1≤m.code.length∧(m.code.length:Int)≤most :=
 Decidable.byContradiction fun hc=>by rw [head_few hc] at h;exact absurd h (by decide)
theorem rsmay_any (f:Fi) (A B:Option Addr) (a b:Nat) (w:World) (hA:ClsAt w A f.classes) (hB:MesAt w B f.methods) :
  Calls Tryz.prog 8 #[fiV f.classes.length f.methods.length A B a b] w fun e w'=>e=.returned (.bool (smayB f))∧Bl w w':=by
 have HA:Hid (ClsAt w A f.classes):=hA
 have HB:Hid (MesAt w B f.methods):=hB
 have hcm:=hA.1
 have hmm:=hB.1
 unfold maxLen at hcm hmm
 clear hA hB
 have HF:Hid (FiBox (w.alloc (.cells #[.slice A f.classes.length a,.slice B f.methods.length b] 25)) w.heap.size 0 f.classes.length f.methods.length A B a b):=⟨cell_of_new rfl,cell_of_new rfl⟩
 have HW:Hid (Bl w (w.alloc (.cells #[.slice A f.classes.length a,.slice B f.methods.length b] 25))):=(Bl.refl w).alloc _
 cases hm:mayB f.classes
 ·have hb:=smay_cls hm
  rw [hb]
  go_enter Tryz.func8,Tryz.ntmps8
  go_wp2_with (go_at_call 19;refine (rmay_any _ _ _ _ (HA.out.bl HW.out)).mono ?_;rintro e w1 ⟨he,g1⟩;rw [hm] at he;subst he)
  go_ret
  exact ⟨rfl,HW.out.trans g1⟩
 by_cases hn:1≤(f.methods.length:Int)∧(f.methods.length:Int)≤8
 ·have dn:decide (1≤(f.methods.length:Int)∧(f.methods.length:Int)≤8)=true:=decide_eq_true hn
  have HG:Hid ((∀q,q<f.methods.length→smeB f.classes f.methods.length (nth me0 f.methods q)=true)→smayB f=true):=smay_good hm (by omega)
  have hnc:=(may_tree hm).2.2
  go_enter Tryz.func8,Tryz.ntmps8
  go_wp2_with (first
   | (go_at_call 19;refine (rmay_any _ _ _ _ (HA.out.bl HW.out)).mono ?_;rintro e w1 ⟨he,g1⟩;rw [hm] at he;subst he;have q1:=(HF.out.bl g1).2;simp only [Nat.zero_add] at q1)
   | (go_at_call 20;refine (within_any _ _ _ _).mono ?_;rintro e w2 ⟨he,rfl⟩;rw [dn] at he;subst he))
  go_loopw [3] (fun i wr=>∃k:Nat,k≤f.methods.length∧i=.int .i64 k∧Hid (∀j,j<k→smeB f.classes f.methods.length (nth me0 f.methods j)=true)∧Hid (Bl w wr)∧Hid (FiBox wr w.heap.size 0 f.classes.length f.methods.length A B a b)) (fun i _=>f.methods.length-(intOf i).toNat)
  case atStart=>exact ⟨0,Nat.zero_le _,rfl,fun j hj=>absurd hj (Nat.not_lt_zero _),HW.out.trans g1,HF.out.bl g1⟩
  case round =>
   clear HF HW q1 g1 hm
   obtain ⟨k,hk,rfl,hgk,hg,HF⟩:=hrel
   rename World=>w0
   have hf1:=HF.out.2
   simp only [Nat.zero_add] at hf1
   by_cases hkl:k<f.methods.length
   ·have hmes:=HB.out.bl hg.out
    rcases hmes.2 with h0|⟨b',off',rfl,hcell⟩
    ·omega
    obtain ⟨P,C,K,p,c,kk,c0,c1,c2,c3,c4,c5,c6,c7,hme⟩:=hcell k hkl
    have HBAD:Hid (smeB f.classes f.methods.length (nth me0 f.methods k)=false→smayB f=false):=smay_me hkl
    generalize hM:nth me0 f.methods k=m at *
    have HM:Hid (nth me0 f.methods k=m):=hM
    have hcl:=hme.2.1.1
    have hpl:=hme.1.1
    clear hmes hcell hM
    have bm:MeBox (w0.alloc (.cells #[.slice P m.params.length p,.int .i64 m.ret.kind,.int .i64 m.ret.cls,.int .i64 m.stack,.int .i64 m.locs,.int .i64 m.regs,.slice C m.code.length c,.slice K m.hands.length kk] 49)) w0.heap.size 0 m P C K p c kk:=⟨cell_of_new rfl,cell_of_new rfl,cell_of_new rfl,cell_of_new rfl,cell_of_new rfl,cell_of_new rfl,cell_of_new rfl,cell_of_new rfl⟩
    have hal:Bl w0 (w0.alloc (.cells #[.slice P m.params.length p,.int .i64 m.ret.kind,.int .i64 m.ret.cls,.int .i64 m.stack,.int .i64 m.locs,.int .i64 m.regs,.slice C m.code.length c,.slice K m.hands.length kk] 49)):=(Bl.refl w0).alloc _
    have bf:=HF.out.bl hal
    have XP:Hid (∀x:Fut (w0.alloc (.cells #[.slice P m.params.length p,.int .i64 m.ret.kind,.int .i64 m.ret.cls,.int .i64 m.stack,.int .i64 m.locs,.int .i64 m.regs,.slice C m.code.length c,.slice K m.hands.length kk] 49)),TysAt x.to P m.params):=fun x=>hme.1.bl (hal.trans x.is)
    have XK:Hid (∀x:Fut (w0.alloc (.cells #[.slice P m.params.length p,.int .i64 m.ret.kind,.int .i64 m.ret.cls,.int .i64 m.stack,.int .i64 m.locs,.int .i64 m.regs,.slice C m.code.length c,.slice K m.hands.length kk] 49)),HdsAt x.to K m.hands):=fun x=>hme.2.2.1.bl (hal.trans x.is)
    have HC:Hid (InsAt w0 C m.code):=hme.2.1
    have HAL:Hid (Bl w0 (w0.alloc (.cells #[.slice P m.params.length p,.int .i64 m.ret.kind,.int .i64 m.ret.cls,.int .i64 m.stack,.int .i64 m.locs,.int .i64 m.regs,.slice C m.code.length c,.slice K m.hands.length kk] 49))):=hal
    have HBM:Hid (MeBox (w0.alloc (.cells #[.slice P m.params.length p,.int .i64 m.ret.kind,.int .i64 m.ret.cls,.int .i64 m.stack,.int .i64 m.locs,.int .i64 m.regs,.slice C m.code.length c,.slice K m.hands.length kk] 49)) w0.heap.size 0 m P C K p c kk):=bm
    have HBF:Hid (FiBox (w0.alloc (.cells #[.slice P m.params.length p,.int .i64 m.ret.kind,.int .i64 m.ret.cls,.int .i64 m.stack,.int .i64 m.locs,.int .i64 m.regs,.slice C m.code.length c,.slice K m.hands.length kk] 49)) w.heap.size 0 f.classes.length f.methods.length (A) (some ⟨b',off',none⟩) a b):=bf
    have x0:=fut_cell bf.1
    have x1:=fut_cell bf.2
    have y0:=fut_cell bm.1
    have y1:=fut_cell bm.2.1
    have y2:=fut_cell bm.2.2.1
    have y3:=fut_cell bm.2.2.2.1
    have y4:=fut_cell bm.2.2.2.2.1
    have y5:=fut_cell bm.2.2.2.2.2.1
    have y6:=fut_cell bm.2.2.2.2.2.2.1
    have y7:=fut_cell bm.2.2.2.2.2.2.2
    clear bm bf hal hme HF
    cases hh:headB f.classes.length m 400
    ·have HN:Hid (smayB f=false):=HBAD.out (sme_head hh)
     have ds:=hh
     have dl:=hh
     go_wp2
     refine wp_region_fut (by kernel_rfl) (by kernel_rfl) fun hne=>?_
     repeat (go_big_quiet_step (first
      | (go_at_call 21;exact Calls.fut_eq _ (rhead_any _ _ _ _ _ _ m _ _ _ _ _ _ _ _ (XP.out _) (XK.out _) hnc hcl) (congrArg Value.bool hh))
      | (go_at_call 22;exact Calls.fut_same _ (rslots_any _ _ _ _ (XP.out _) (by omega)))
      | (go_at_call 20;exact Calls.fut_same_eq _ (within_any _ _ _ _) (congrArg Value.bool (by first|exact ds|exact dl)))))
     refine wpQuiet_nil ?_
     rintro _ ⟨⟨w2,hw2⟩,rfl⟩
     go_wp2
     go_ret
     exact ⟨ret_bool HN.out.symm,(hg.out.trans HAL.out).trans hw2⟩
    ·have hfew:=head_few4 hh
     by_cases hr:m.regs=0
     ·have hr':(m.regs !=0)=false:=by simpa using hr
      have HR:Hid (m.regs=0):=hr
      clear hr
      by_cases hs:0≤m.stack∧m.stack≤30
      ·have ds:decide (0≤m.stack∧m.stack≤30)=true:=decide_eq_true hs
       by_cases hl:(slotsN m.params:Int)≤m.locs∧m.locs≤60
       ·have dl:decide ((slotsN m.params:Int)≤m.locs∧m.locs≤60)=true:=decide_eq_true hl
        have HGM:Hid ((∀q,q<m.code.length→sinB f.classes f.methods.length m.code.length m.locs (nth in0 m.code q)=true)→smeB f.classes f.methods.length m=true):=sme_good hh ⟨HR.out,by omega⟩
        go_wp2
        refine wp_region_fut (by kernel_rfl) (by kernel_rfl) fun hne=>?_
        repeat (go_big_quiet_step (first
         | (go_at_call 21;exact Calls.fut_eq _ (rhead_any _ _ _ _ _ _ m _ _ _ _ _ _ _ _ (XP.out _) (XK.out _) hnc hcl) (congrArg Value.bool hh))
         | (go_at_call 22;exact Calls.fut_same _ (rslots_any _ _ _ _ (XP.out _) (by omega)))
         | (go_at_call 20;exact Calls.fut_same_eq _ (within_any _ _ _ _) (congrArg Value.bool (by first|exact ds|exact dl)))))
        refine wpQuiet_nil ?_
        rintro _ ⟨⟨w2,hw2⟩,rfl⟩
        go_wp2
        clear x0 x1 y0 y1 y2 y3 y4 y5 y6 y7 hne
        go_loopw [5] (fun i wr2=>∃q:Nat,q≤m.code.length∧i=.int .i64 q∧Hid (∀j,j<q→sinB f.classes f.methods.length m.code.length m.locs (nth in0 m.code j)=true)∧Hid (Bl w0 wr2)∧Hid (FiBox wr2 w.heap.size 0 f.classes.length f.methods.length A (some ⟨b',off',none⟩) a b)∧Hid (MeBox wr2 w0.heap.size 0 m P C K p c kk)) (fun i _=>m.code.length-(intOf i).toNat)
        case atStart=>exact ⟨0,Nat.zero_le _,rfl,fun j hj=>absurd hj (Nat.not_lt_zero _),HAL.out.trans hw2,HBF.out.bl hw2,HBM.out.bl hw2⟩
        case round =>
         clear HBF HBM HAL hw2 XP XK
         obtain ⟨q,hq,rfl,hgq,hg2,HBF,HBM⟩:=hrel
         have hm6:=HBM.out.2.2.2.2.2.2.1
         simp only [Nat.zero_add] at hm6
         by_cases hql:q<m.code.length
         ·have hic:=HC.out.bl hg2.out
          rcases hic.2 with h0|⟨b2,off2,rfl,hcell⟩
          ·omega
          obtain ⟨c0,c1,c2,c3,c4,-,A',ca,c5,-⟩:=hcell q hql
          have HNI:Hid (sinB f.classes f.methods.length m.code.length m.locs (nth in0 m.code q)=false→smayB f=false):=fun h=>HBAD.out (sme_ins hql h)
          generalize hX:nth in0 m.code q=X at *
          have HX:Hid (nth in0 m.code q=X):=hX
          clear hic hcell hX
          have x0:=fut_cell HBF.out.1
          have x1:=fut_cell HBF.out.2
          have y0:=fut_cell HBM.out.1
          have y1:=fut_cell HBM.out.2.1
          have y2:=fut_cell HBM.out.2.2.1
          have y3:=fut_cell HBM.out.2.2.2.1
          have y4:=fut_cell HBM.out.2.2.2.2.1
          have y5:=fut_cell HBM.out.2.2.2.2.2.1
          have y6:=fut_cell HBM.out.2.2.2.2.2.2.1
          have y7:=fut_cell HBM.out.2.2.2.2.2.2.2
          have z0:=fut_cell c0
          have z1:=fut_cell c1
          have z2:=fut_cell c2
          have z3:=fut_cell c3
          have z4:=fut_cell c4
          have z5:=fut_cell c5
          clear c0 c1 c2 c3 c4 c5
          have XA:Hid (∀x:Fut wr,ClsAt x.to A f.classes):=fun x=>HA.out.bl ((hg.out.trans hg2.out).trans x.is)
          have hlo:0≤m.locs:=by omega
          cases hi:sinB f.classes f.methods.length m.code.length m.locs X
          ·have HN:Hid (smayB f=false):=HNI.out hi
           go_wp2
           refine wp_region_fut (by kernel_rfl) (by kernel_rfl) fun hne=>?_
           repeat (go_big_quiet_step ((go_at_call 23;exact Calls.fut_eq _ (rins_any X f.classes _ _ _ _ _ m _ _ _ _ _ _ _ _ _ hnc (by omega) hcl hlo hl.2 (XA.out _)) (congrArg Value.bool hi))))
           refine wpQuiet_nil ?_
           rintro _ ⟨⟨w3,hw3⟩,rfl⟩
           go_wp2
           go_ret
           exact ⟨ret_bool HN.out.symm,(hg.out.trans hg2.out).trans hw3⟩
          ·have HI:Hid (sinB f.classes f.methods.length m.code.length m.locs X=true):=hi
           go_wp2
           refine wp_region_fut (by kernel_rfl) (by kernel_rfl) fun hne=>?_
           repeat (go_big_quiet_step ((go_at_call 23;exact Calls.fut_eq _ (rins_any X f.classes _ _ _ _ _ m _ _ _ _ _ _ _ _ _ hnc (by omega) hcl hlo hl.2 (XA.out _)) (congrArg Value.bool hi))))
           refine wpQuiet_nil ?_
           rintro _ ⟨⟨w3,hw3⟩,rfl⟩
           go_wp2
           go_roundw
           case rel=>exact ⟨q+1,by omega,by go_num,fun j hj=>if h:j<q then hgq.out j h else by have:j=q:=(by omega);subst this;rw [HX.out];exact HI.out,hg2.out.trans hw3,HBF.out.bl hw3,HBM.out.bl hw3⟩
           case measure=>simp [intOf];omega
         ·obtain rfl:q=m.code.length:=by omega
          have HT:Hid (smeB f.classes f.methods.length m=true):=HGM.out hgq.out
          go_wp2
          go_roundw
          case rel=>exact ⟨k+1,by omega,by go_num,fun j hj=>if h:j<k then hgk.out j h else by have:j=k:=(by omega);subst this;rw [HM.out];exact HT.out,hg.out.trans hg2.out,HBF⟩
          case measure=>simp [intOf];omega
       ·have dl:decide ((slotsN m.params:Int)≤m.locs∧m.locs≤60)=false:=decide_eq_false hl
        have HN:Hid (smayB f=false):=HBAD.out (sme_nums (by omega))
        go_wp2
        refine wp_region_fut (by kernel_rfl) (by kernel_rfl) fun hne=>?_
        repeat (go_big_quiet_step (first
         | (go_at_call 21;exact Calls.fut_eq _ (rhead_any _ _ _ _ _ _ m _ _ _ _ _ _ _ _ (XP.out _) (XK.out _) hnc hcl) (congrArg Value.bool hh))
         | (go_at_call 22;exact Calls.fut_same _ (rslots_any _ _ _ _ (XP.out _) (by omega)))
         | (go_at_call 20;exact Calls.fut_same_eq _ (within_any _ _ _ _) (congrArg Value.bool (by first|exact ds|exact dl)))))
        refine wpQuiet_nil ?_
        rintro _ ⟨⟨w2,hw2⟩,rfl⟩
        go_wp2
        go_ret
        exact ⟨ret_bool HN.out.symm,(hg.out.trans HAL.out).trans hw2⟩
      ·have ds:decide (0≤m.stack∧m.stack≤30)=false:=decide_eq_false hs
       have dl:=hh
       have HN:Hid (smayB f=false):=HBAD.out (sme_nums (by omega))
       go_wp2
       refine wp_region_fut (by kernel_rfl) (by kernel_rfl) fun hne=>?_
       repeat (go_big_quiet_step (first
        | (go_at_call 21;exact Calls.fut_eq _ (rhead_any _ _ _ _ _ _ m _ _ _ _ _ _ _ _ (XP.out _) (XK.out _) hnc hcl) (congrArg Value.bool hh))
        | (go_at_call 22;exact Calls.fut_same _ (rslots_any _ _ _ _ (XP.out _) (by omega)))
        | (go_at_call 20;exact Calls.fut_same_eq _ (within_any _ _ _ _) (congrArg Value.bool (by first|exact ds|exact dl)))))
       refine wpQuiet_nil ?_
       rintro _ ⟨⟨w2,hw2⟩,rfl⟩
       go_wp2
       go_ret
       exact ⟨ret_bool HN.out.symm,(hg.out.trans HAL.out).trans hw2⟩
     ·have hr':(m.regs !=0)=true:=by simpa using hr
      have ds:=hh
      have dl:=hh
      have HN:Hid (smayB f=false):=HBAD.out (sme_nums (by omega))
      go_wp2
      refine wp_region_fut (by kernel_rfl) (by kernel_rfl) fun hne=>?_
      repeat (go_big_quiet_step (first
       | (go_at_call 21;exact Calls.fut_eq _ (rhead_any _ _ _ _ _ _ m _ _ _ _ _ _ _ _ (XP.out _) (XK.out _) hnc hcl) (congrArg Value.bool hh))
       | (go_at_call 22;exact Calls.fut_same _ (rslots_any _ _ _ _ (XP.out _) (by omega)))
       | (go_at_call 20;exact Calls.fut_same_eq _ (within_any _ _ _ _) (congrArg Value.bool (by first|exact ds|exact dl)))))
      refine wpQuiet_nil ?_
      rintro _ ⟨⟨w2,hw2⟩,rfl⟩
      go_wp2
      go_ret
      exact ⟨ret_bool HN.out.symm,(hg.out.trans HAL.out).trans hw2⟩
   ·obtain rfl:k=f.methods.length:=by omega
    have HN:Hid (smayB f=true):=HG.out hgk.out
    go_wp2
    go_ret
    exact ⟨ret_bool HN.out.symm,hg.out⟩
 ·have hb:=smay_many (f:=f) (by omega)
  rw [hb]
  have dn:decide (1≤(f.methods.length:Int)∧(f.methods.length:Int)≤8)=false:=decide_eq_false hn
  go_enter Tryz.func8,Tryz.ntmps8
  go_wp2_with (first
   | (go_at_call 19;refine (rmay_any _ _ _ _ (HA.out.bl HW.out)).mono ?_;rintro e w1 ⟨he,g1⟩;rw [hm] at he;subst he;have q1:=(HF.out.bl g1).2;simp only [Nat.zero_add] at q1)
   | (go_at_call 20;refine (within_any _ _ _ _).mono ?_;rintro e w2 ⟨he,rfl⟩;rw [dn] at he;subst he))
  go_ret
  exact ⟨rfl,HW.out.trans g1⟩
theorem FiBox.new (w:World) (nc nm:Nat) (A B:Option Addr) (x y:Nat):FiBox (w.alloc (fiO nc nm A B x y)) w.heap.size 0 nc nm A B x y:=⟨cell_of_new rfl,cell_of_new rfl⟩
structure SCells3 (w:World) (b:Nat) (nc nm:Nat) (A B:Option Addr) (x y:Nat) (m:Me) (P C K:Option Addr) (p c k:Nat) (i:In) (Q:Option Addr) (q:Nat):Prop where
 f0:w.cell? ⟨b,0,none⟩=some (.slice A nc x)
 f1:w.cell? ⟨b,1,none⟩=some (.slice B nm y)
 m:MeCells w (b+1) m P C K p c k
 i0:w.cell? ⟨b+1+1,0,none⟩=some (.int .i64 i.op)
 i1:w.cell? ⟨b+1+1,1,none⟩=some (.int .i64 i.a)
 i2:w.cell? ⟨b+1+1,2,none⟩=some (.int .i64 i.b)
 i3:w.cell? ⟨b+1+1,3,none⟩=some (.int .i64 i.c)
 i4:w.cell? ⟨b+1+1,4,none⟩=some (.int .i64 i.n)
 i5:w.cell? ⟨b+1+1,5,none⟩=some (.slice Q i.args.length q)
theorem SCells3.bl {w w':World} (h:Bl w w') {b nc nm:Nat} {A B:Option Addr} {x y:Nat} {m:Me} {P C K:Option Addr} {p c k:Nat} {i:In} {Q:Option Addr} {q:Nat}
  (hb:SCells3 w b nc nm A B x y m P C K p c k i Q q):SCells3 w' b nc nm A B x y m P C K p c k i Q q :=
 ⟨h.cell hb.f0,h.cell hb.f1,hb.m.bl h,h.cell hb.i0,h.cell hb.i1,h.cell hb.i2,h.cell hb.i3,h.cell hb.i4,h.cell hb.i5⟩
abbrev W3 (w:World) (nc nm:Nat) (A B:Option Addr) (x y:Nat) (m:Me) (P C K:Option Addr) (p c k:Nat) (i:In) (Q:Option Addr) (q:Nat):World :=
 ((w.alloc (fiO nc nm A B x y)).alloc (meO m P C K p c k)).alloc (inO i Q q)
theorem SCells3.new (w:World) (nc nm:Nat) (A B:Option Addr) (x y:Nat) (m:Me) (P C K:Option Addr) (p c k:Nat) (i:In) (Q:Option Addr) (q:Nat) :
  SCells3 (W3 w nc nm A B x y m P C K p c k i Q q) w.heap.size nc nm A B x y m P C K p c k i Q q:=by
 have h1:(w.alloc (fiO nc nm A B x y)).heap.size=w.heap.size+1:=World.size_alloc ..
 have h2:((w.alloc (fiO nc nm A B x y)).alloc (meO m P C K p c k)).heap.size=w.heap.size+1+1:=by rw [World.size_alloc,World.size_alloc]
 have b2:Bl (w.alloc (fiO nc nm A B x y)) (W3 w nc nm A B x y m P C K p c k i Q q):=((Bl.refl _).alloc _).alloc _
 have b3:Bl ((w.alloc (fiO nc nm A B x y)).alloc (meO m P C K p c k)) (W3 w nc nm A B x y m P C K p c k i Q q):=(Bl.refl _).alloc _
 have hm:=(MeCells.new (w.alloc (fiO nc nm A B x y)) m P C K p c k).bl b3
 rw [h1] at hm
 refine ⟨b2.cell (cell_of_new rfl),b2.cell (cell_of_new rfl),hm,?_,?_,?_,?_,?_,?_⟩<;>rw [←h2]<;>exact cell_of_new rfl
theorem mayIns_any (i:In) (cs:List Cl) (nm:Nat) (A B:Option Addr) (x y:Nat) (m:Me) (P C K:Option Addr) (p c k:Nat) (Q:Option Addr) (q:Nat) (w:World) (hlo:0≤m.locs) (hhi:m.locs≤60) (hl:ClsAt w A cs) (hnm:nm≤maxLen) (hcode:m.code.length≤maxLen) (hargs:i.args.length≤maxLen) :
  Calls Tryz.prog 83 #[fiV cs.length nm A B x y,meV m P C K p c k,inV i Q q] w fun e w'=>e=.returned (.bool (sinB cs nm m.code.length m.locs i))∧Bl w w':=by
 have HL:Hid (ClsAt w A cs):=hl
 have hnc:=hl.1
 have HAL:Hid (Bl w (W3 w cs.length nm A B x y m P C K p c k i Q q)):=(((Bl.refl _).alloc _).alloc _).alloc _
 have HBX:Hid (SCells3 (W3 w cs.length nm A B x y m P C K p c k i Q q) w.heap.size cs.length nm A B x y m P C K p c k i Q q):=SCells3.new ..
 clear hl
 unfold maxLen at hargs
 rw [sin_fields]
 by_cases h1:1≤i.op∧i.op≤25
 ·have d1:decide (1≤i.op∧i.op≤25)=true:=decide_eq_true h1
  rw [d1,Bool.true_and]
  cases ha:aB cs.length nm m.code.length m.locs i
  ·rw [Bool.false_and]
   go_enter Tryz.func83,Tryz.ntmps83
   go_wp2_with (first
    | (go_at_call 35;refine (span_any _ _ _ _).mono ?_;rintro e w0 ⟨he,hw0⟩;rw [d1] at he;subst he;rw [hw0];clear hw0 w0)
    | (go_at_call 139;refine (mayA_any i _ _ _ _ _ _ m _ _ _ _ _ _ _ _ _ hlo hhi hnc hnm hcode).mono ?_;rintro e w1 ⟨he,g1⟩;rw [ha] at he;subst he))
   go_ret
   exact ⟨rfl,HAL.out.trans g1⟩
  ·rw [Bool.true_and]
   cases hb:bB cs i
   ·rw [Bool.false_and]
    go_enter Tryz.func83,Tryz.ntmps83
    go_wp2_with (first
     | (go_at_call 35;refine (span_any _ _ _ _).mono ?_;rintro e w0 ⟨he,hw0⟩;rw [d1] at he;subst he;rw [hw0];clear hw0 w0)
     | (go_at_call 139;refine (mayA_any i _ _ _ _ _ _ m _ _ _ _ _ _ _ _ _ hlo hhi hnc hnm hcode).mono ?_;rintro e w1 ⟨he,g1⟩;rw [ha] at he;subst he;obtain ⟨e0,e1,-,a0,a1,a2,a3,a4,a5⟩:=HBX.out.bl g1)
     | (go_at_call 140;refine (mayB_any i _ _ _ _ _ _ _ _ _ (HL.out.bl (HAL.out.trans g1))).mono ?_;rintro e w2 ⟨he,g2⟩;rw [hb] at he;subst he))
    go_ret
    exact ⟨rfl,(HAL.out.trans g1).trans g2⟩
   ·rw [Bool.true_and]
    by_cases hc:i.c=0
    ·have dc:(i.c==0)=true:=by simpa using hc
     have HC:Hid (i.c=0):=hc
     rw [decide_eq_true hc,Bool.true_and]
     clear hc
     cases hn:nB i
     ·rw [Bool.false_and]
      go_enter Tryz.func83,Tryz.ntmps83
      go_wp2_with (first
       | (go_at_call 35;refine (span_any _ _ _ _).mono ?_;rintro e w0 ⟨he,hw0⟩;rw [d1] at he;subst he;rw [hw0];clear hw0 w0)
       | (go_at_call 139;refine (mayA_any i _ _ _ _ _ _ m _ _ _ _ _ _ _ _ _ hlo hhi hnc hnm hcode).mono ?_;rintro e w1 ⟨he,g1⟩;rw [ha] at he;subst he;obtain ⟨e0,e1,-,a0,a1,a2,a3,a4,a5⟩:=HBX.out.bl g1)
       | (go_at_call 140;refine (mayB_any i _ _ _ _ _ _ _ _ _ (HL.out.bl (HAL.out.trans g1))).mono ?_;rintro e w2 ⟨he,g2⟩;rw [hb] at he;subst he;obtain ⟨-,-,-,b0,b1,b2,b3,b4,b5⟩:=HBX.out.bl (g1.trans g2))
       | (go_at_call 141;refine (mayN_any i _ _ _).mono ?_;rintro e w3 ⟨he,g3⟩;rw [hn] at he;subst he))
      go_ret
      exact ⟨rfl,((HAL.out.trans g1).trans g2).trans g3⟩
     ·rw [Bool.true_and]
      have hfin:decide (i.args.length=0)=((i.args.length:Int)==0):=by rw [Bool.eq_iff_iff];simp
      rw [hfin]
      clear hfin
      go_enter Tryz.func83,Tryz.ntmps83
      go_wp2_with (first
       | (go_at_call 35;refine (span_any _ _ _ _).mono ?_;rintro e w0 ⟨he,hw0⟩;rw [d1] at he;subst he;rw [hw0];clear hw0 w0)
       | (go_at_call 139;refine (mayA_any i _ _ _ _ _ _ m _ _ _ _ _ _ _ _ _ hlo hhi hnc hnm hcode).mono ?_;rintro e w1 ⟨he,g1⟩;rw [ha] at he;subst he;obtain ⟨e0,e1,-,a0,a1,a2,a3,a4,a5⟩:=HBX.out.bl g1)
       | (go_at_call 140;refine (mayB_any i _ _ _ _ _ _ _ _ _ (HL.out.bl (HAL.out.trans g1))).mono ?_;rintro e w2 ⟨he,g2⟩;rw [hb] at he;subst he;obtain ⟨-,-,-,b0,b1,b2,b3,b4,b5⟩:=HBX.out.bl (g1.trans g2))
       | (go_at_call 141;refine (mayN_any i _ _ _).mono ?_;rintro e w3 ⟨he,g3⟩;rw [hn] at he;subst he;obtain ⟨-,-,-,-,-,-,-,-,c5⟩:=HBX.out.bl ((g1.trans g2).trans g3)))
      all_goals
       go_ret
       exact ⟨ret_bool (by simp [*]),((HAL.out.trans g1).trans g2).trans g3⟩
    ·have dc:(i.c==0)=false:=by simpa using hc
     rw [decide_eq_false hc,Bool.false_and]
     clear hc
     go_enter Tryz.func83,Tryz.ntmps83
     go_wp2_with (first
      | (go_at_call 35;refine (span_any _ _ _ _).mono ?_;rintro e w0 ⟨he,hw0⟩;rw [d1] at he;subst he;rw [hw0];clear hw0 w0)
      | (go_at_call 139;refine (mayA_any i _ _ _ _ _ _ m _ _ _ _ _ _ _ _ _ hlo hhi hnc hnm hcode).mono ?_;rintro e w1 ⟨he,g1⟩;rw [ha] at he;subst he;obtain ⟨e0,e1,-,a0,a1,a2,a3,a4,a5⟩:=HBX.out.bl g1)
      | (go_at_call 140;refine (mayB_any i _ _ _ _ _ _ _ _ _ (HL.out.bl (HAL.out.trans g1))).mono ?_;rintro e w2 ⟨he,g2⟩;rw [hb] at he;subst he;obtain ⟨-,-,-,b0,b1,b2,b3,b4,b5⟩:=HBX.out.bl (g1.trans g2)))
     go_ret
     exact ⟨rfl,(HAL.out.trans g1).trans g2⟩
 ·have d1:decide (1≤i.op∧i.op≤25)=false:=decide_eq_false h1
  rw [d1,Bool.false_and]
  go_enter Tryz.func83,Tryz.ntmps83
  go_wp2_with (go_at_call 35;refine (span_any _ _ _ _).mono ?_;rintro e w0 ⟨he,hw0⟩;rw [d1] at he;subst he;rw [hw0];clear hw0 w0)
  go_ret
  exact ⟨rfl,HAL.out⟩
theorem kinds_there {nc:Nat} {l:List Ty} (h:l.all (tyB nc)=true):∀k,k<l.length→(nth ty0 l k).kind≠0:=by
 intro k hk
 have:=(List.all_eq_true.1 h) _ (nth_mem (d:=ty0) hk)
 unfold tyB at this
 rw [decide_eq_true_eq] at this
 omega
theorem mayRoom_any (m:Me) (P C K:Option Addr) (p c k:Nat) (w:World) (hP:TysAt w P m.params) (h4:m.params.length≤4) (hk:∀k,k<m.params.length→(nth ty0 m.params k).kind≠0) :
  Calls Tryz.prog 37 #[meV m P C K p c k] w fun e w'=>e=.returned (.bool (roomB m))∧Bl w w':=by
 have hal:Bl w (w.alloc (meO m P C K p c k)):=(Bl.refl _).alloc _
 have XP:Hid (∀x:Fut (w.alloc (meO m P C K p c k)),TysAt x.to P m.params):=fun x=>hP.bl (hal.trans x.is)
 have HK:Hid (∀k,k<m.params.length→(nth ty0 m.params k).kind≠0):=hk
 obtain ⟨x0,x1,x2,x3,x4,x5,x6,x7⟩:=MeCells.new w m P C K p c k
 have y0:=fut_cell x0
 have y3:=fut_cell x3
 have y4:=fut_cell x4
 have y5:=fut_cell x5
 clear x0 x1 x2 x3 x4 x5 x6 x7 hP hk
 unfold roomB
 by_cases hr:m.regs=0
 ·have hr':(m.regs==0)=true:=by simpa using hr
  rw [decide_eq_true hr,Bool.true_and]
  clear hr
  by_cases hs:0≤m.stack∧m.stack≤30
  ·have ds:decide (0≤m.stack∧m.stack≤30)=true:=decide_eq_true hs
   rw [ds,Bool.true_and]
   obtain ⟨R,hR⟩:∃R,decide ((slotsN m.params:Int)≤m.locs∧m.locs≤60)=R:=⟨_,rfl⟩
   rw [hR]
   go_enter Tryz.func37,Tryz.ntmps37
   go_wp2
   refine wp_region_fut (by kernel_rfl) (by kernel_rfl) fun hne=>?_
   repeat (go_big_quiet_step (first
    | (go_at_call 82;exact Calls.fut _ (slots_any _ _ _ _ (XP.out _) (by omega) HK.out))
    | (go_at_call 35;exact Calls.fut_same_eq _ (span_any _ _ _ _) (congrArg Value.bool (by first|exact ds|exact hR)))))
   refine wpQuiet_nil ?_
   rintro _ ⟨⟨w2,hw2⟩,rfl⟩
   go_wp2
   go_ret
   exact ⟨rfl,hal.trans hw2⟩
  ·have ds:decide (0≤m.stack∧m.stack≤30)=false:=decide_eq_false hs
   rw [ds,Bool.false_and]
   go_enter Tryz.func37,Tryz.ntmps37
   go_wp2
   refine wp_region_fut (by kernel_rfl) (by kernel_rfl) fun hne=>?_
   repeat (go_big_quiet_step (first
    | (go_at_call 82;exact Calls.fut _ (slots_any _ _ _ _ (XP.out _) (by omega) HK.out))
    | (go_at_call 35;exact Calls.fut_same_eq _ (span_any _ _ _ _) (congrArg Value.bool ds))))
   refine wpQuiet_nil ?_
   rintro _ ⟨⟨w2,hw2⟩,rfl⟩
   go_wp2
   go_ret
   exact ⟨rfl,hal.trans hw2⟩
 ·have hr':(m.regs==0)=false:=by simpa using hr
  rw [decide_eq_false hr,Bool.false_and]
  go_enter Tryz.func37,Tryz.ntmps37
  go_wp2
  refine wp_region_fut (by kernel_rfl) (by kernel_rfl) fun hne=>?_
  repeat (go_big_quiet_step (first
   | (go_at_call 82;exact Calls.fut _ (slots_any _ _ _ _ (XP.out _) (by omega) HK.out))
   | (go_at_call 35;exact Calls.fut_same _ (span_any _ _ _ _))))
  refine wpQuiet_nil ?_
  rintro _ ⟨⟨w2,hw2⟩,rfl⟩
  go_wp2
  go_ret
  exact ⟨rfl,hal.trans hw2⟩
structure SCells2 (w:World) (b:Nat) (nc nm:Nat) (A B:Option Addr) (x y:Nat) (m:Me) (P C K:Option Addr) (p c k:Nat):Prop where
 f0:w.cell? ⟨b,0,none⟩=some (.slice A nc x)
 f1:w.cell? ⟨b,1,none⟩=some (.slice B nm y)
 m:MeCells w (b+1) m P C K p c k
theorem SCells2.bl {w w':World} (h:Bl w w') {b nc nm:Nat} {A B:Option Addr} {x y:Nat} {m:Me} {P C K:Option Addr} {p c k:Nat}
  (hb:SCells2 w b nc nm A B x y m P C K p c k):SCells2 w' b nc nm A B x y m P C K p c k:=⟨h.cell hb.f0,h.cell hb.f1,hb.m.bl h⟩
theorem SCells2.new (w:World) (nc nm:Nat) (A B:Option Addr) (x y:Nat) (m:Me) (P C K:Option Addr) (p c k:Nat) :
  SCells2 ((w.alloc (fiO nc nm A B x y)).alloc (meO m P C K p c k)) w.heap.size nc nm A B x y m P C K p c k:=by
 have b2:Bl (w.alloc (fiO nc nm A B x y)) ((w.alloc (fiO nc nm A B x y)).alloc (meO m P C K p c k)):=(Bl.refl _).alloc _
 have hm:=MeCells.new (w.alloc (fiO nc nm A B x y)) m P C K p c k
 rw [World.size_alloc] at hm
 exact ⟨b2.cell (cell_of_new rfl),b2.cell (cell_of_new rfl),hm⟩
theorem mayCode_any (cs:List Cl) (nm:Nat) (A B:Option Addr) (x y:Nat) (m:Me) (P C K:Option Addr) (p c k:Nat) (w:World) (hlo:0≤m.locs) (hhi:m.locs≤60) (hl:ClsAt w A cs) (hnm:nm≤maxLen) (hC:InsAt w C m.code) :
  Calls Tryz.prog 38 #[fiV cs.length nm A B x y,meV m P C K p c k] w fun e w'=>e=.returned (.bool (codeB cs nm m))∧Bl w w':=by
 have HL:Hid (ClsAt w A cs):=hl
 have HC:Hid (InsAt w C m.code):=hC
 have hcode:=hC.1
 have HCODE:Hid (m.code.length≤maxLen):=hcode
 have HNM:Hid (nm≤maxLen):=hnm
 have HAL:Hid (Bl w ((w.alloc (fiO cs.length nm A B x y)).alloc (meO m P C K p c k))):=((Bl.refl _).alloc _).alloc _
 have HBX:Hid (SCells2 ((w.alloc (fiO cs.length nm A B x y)).alloc (meO m P C K p c k)) w.heap.size cs.length nm A B x y m P C K p c k):=SCells2.new ..
 clear hl hC hnm
 unfold maxLen at hcode
 unfold codeB
 by_cases h1:1≤(m.code.length:Int)∧(m.code.length:Int)≤400
 ·have d1:decide (1≤(m.code.length:Int)∧(m.code.length:Int)≤400)=true:=decide_eq_true h1
  rw [d1,Bool.true_and]
  have HG:Hid ((∀q,q<m.code.length→sinB cs nm m.code.length m.locs (nth in0 m.code q)=true)→m.code.all (sinB cs nm m.code.length m.locs)=true):=all_good
  have HB:Hid (∀q,q<m.code.length→sinB cs nm m.code.length m.locs (nth in0 m.code q)=false→m.code.all (sinB cs nm m.code.length m.locs)=false):=fun q=>all_bad
  obtain ⟨R,hR⟩:∃R,m.code.all (sinB cs nm m.code.length m.locs)=R:=⟨_,rfl⟩
  rw [hR] at HG HB ⊢
  clear hR
  go_enter Tryz.func38,Tryz.ntmps38
  go_wp2_with (go_at_call 35;refine (span_any _ _ _ _).mono ?_;rintro e w0 ⟨he,hw0⟩;rw [d1] at he;subst he;rw [hw0];clear hw0 w0)
  go_loopw [15] (fun i wr=>∃q:Nat,q≤m.code.length∧i=.int .i64 q∧Hid (∀j,j<q→sinB cs nm m.code.length m.locs (nth in0 m.code j)=true)∧Hid (Bl w wr)∧Hid (SCells2 wr w.heap.size cs.length nm A B x y m P C K p c k)) (fun i _=>m.code.length-(intOf i).toNat)
  case atStart=>exact ⟨0,Nat.zero_le _,rfl,fun j hj=>absurd hj (Nat.not_lt_zero _),HAL.out,HBX.out⟩
  case round =>
   clear HBX HAL
   obtain ⟨q,hq,rfl,hgq,hg,HBX⟩:=hrel
   by_cases hql:q<m.code.length
   ·rcases HC.out.2 with h0|⟨b,off,rfl,hcell⟩
    ·omega
    obtain ⟨c0,c1,c2,c3,c4,-,Q',q',c5,hq5⟩:=hcell q hql
    replace c0:=hg.out.cell c0
    replace c1:=hg.out.cell c1
    replace c2:=hg.out.cell c2
    replace c3:=hg.out.cell c3
    replace c4:=hg.out.cell c4
    replace c5:=hg.out.cell c5
    have HA:Hid ((nth in0 m.code q).args.length≤maxLen):=hq5.1
    have HN:Hid (sinB cs nm m.code.length m.locs (nth in0 m.code q)=false→R=false):=HB.out q hql
    generalize hX:nth in0 m.code q=X at *
    have HX:Hid (nth in0 m.code q=X):=hX
    clear hcell HB hX hq5
    have qb:∀o,SCells2 (wr.alloc o) w.heap.size cs.length nm A _ x y m P _ K p c k:=fun o=>HBX.out.bl ((Bl.refl wr).alloc o)
    have qf0:=fun o=>(qb o).f0
    have qf1:=fun o=>(qb o).f1
    have qm0:=fun o=>(qb o).m.1
    have qm1:=fun o=>(qb o).m.2.1
    have qm2:=fun o=>(qb o).m.2.2.1
    have qm3:=fun o=>(qb o).m.2.2.2.1
    have qm4:=fun o=>(qb o).m.2.2.2.2.1
    have qm5:=fun o=>(qb o).m.2.2.2.2.2.1
    have qm6:=fun o=>(qb o).m.2.2.2.2.2.2.1
    have qm7:=fun o=>(qb o).m.2.2.2.2.2.2.2
    have HQB:Hid (∀o,SCells2 (wr.alloc o) w.heap.size cs.length nm A _ x y m P _ K p c k):=qb
    clear qb
    cases hT:sinB cs nm m.code.length m.locs X
    ·have HF:=HN.out hT
     clear HN HG
     go_wp2_with (go_at_call 83;refine (mayIns_any X cs _ _ _ _ _ m _ _ _ _ _ _ _ _ _ hlo hhi (HL.out.bl (hg.out.alloc _)) HNM.out HCODE.out HA.out).mono ?_;rintro e w1 ⟨he,hg1⟩;rw [hT] at he;subst he)
     go_ret
     exact ⟨ret_bool HF.symm,(hg.out.alloc _).trans hg1⟩
    ·have HT1:Hid (sinB cs nm m.code.length m.locs X=true):=hT
     clear HN HG
     go_wp2_with (go_at_call 83;refine (mayIns_any X cs _ _ _ _ _ m _ _ _ _ _ _ _ _ _ hlo hhi (HL.out.bl (hg.out.alloc _)) HNM.out HCODE.out HA.out).mono ?_;rintro e w1 ⟨he,hg1⟩;rw [hT] at he;subst he)
     go_roundw
     case rel=>exact ⟨q+1,by omega,by go_num,fun j hj=>if h:j<q then hgq.out j h else by have:j=q:=(by omega);subst this;rw [HX.out];exact HT1.out,(hg.out.alloc _).trans hg1,(HQB.out _).bl hg1⟩
     case measure=>simp [intOf];omega
   ·have hkk:q=m.code.length:=by omega
    subst hkk
    have HF:=HG.out hgq.out
    clear HG
    go_wp2
    go_ret
    exact ⟨ret_bool HF.symm,hg.out⟩
 ·have d1:decide (1≤(m.code.length:Int)∧(m.code.length:Int)≤400)=false:=decide_eq_false h1
  rw [d1,Bool.false_and]
  go_enter Tryz.func38,Tryz.ntmps38
  go_wp2_with (go_at_call 35;refine (span_any _ _ _ _).mono ?_;rintro e w0 ⟨he,hw0⟩;rw [d1] at he;subst he;rw [hw0];clear hw0 w0)
  go_ret
  exact ⟨rfl,HAL.out⟩
theorem smay_any (f:Fi) (A B:Option Addr) (a b:Nat) (w:World) (hA:ClsAt w A f.classes) (hB:MesAt w B f.methods) :
  Calls Tryz.prog 16 #[fiV f.classes.length f.methods.length A B a b] w fun e w'=>e=.returned (.bool (smayB f))∧Bl w w':=by
 have HA:Hid (ClsAt w A f.classes):=hA
 have HB:Hid (MesAt w B f.methods):=hB
 have HMM:Hid (f.methods.length≤maxLen):=hB.1
 have hcm:=hA.1
 have hmm:=hB.1
 unfold maxLen at hcm hmm
 clear hA hB
 have HF:Hid (FiBox (w.alloc (fiO f.classes.length f.methods.length A B a b)) w.heap.size 0 f.classes.length f.methods.length A B a b):=FiBox.new ..
 have HW:Hid (Bl w (w.alloc (fiO f.classes.length f.methods.length A B a b))):=(Bl.refl w).alloc _
 cases hm:mayB f.classes
 ·have hb:=smay_cls hm
  rw [hb]
  go_enter Tryz.func16,Tryz.ntmps16
  go_wp2_with (go_at_call 34;refine (may_any _ _ _ _ (HA.out.bl HW.out)).mono ?_;rintro e w1 ⟨he,g1⟩;rw [hm] at he;subst he)
  go_ret
  exact ⟨rfl,HW.out.trans g1⟩
 by_cases hn:1≤(f.methods.length:Int)∧(f.methods.length:Int)≤8
 ·have dn:decide (1≤(f.methods.length:Int)∧(f.methods.length:Int)≤8)=true:=decide_eq_true hn
  have HG:Hid ((∀q,q<f.methods.length→smeB f.classes f.methods.length (nth me0 f.methods q)=true)→smayB f=true):=smay_good hm (by omega)
  go_enter Tryz.func16,Tryz.ntmps16
  go_wp2_with (first
   | (go_at_call 34;refine (may_any _ _ _ _ (HA.out.bl HW.out)).mono ?_;rintro e w1 ⟨he,g1⟩;rw [hm] at he;subst he;have q1:=(HF.out.bl g1).2;simp only [Nat.zero_add] at q1)
   | (go_at_call 35;refine (span_any _ _ _ _).mono ?_;rintro e w2 ⟨he,hw2⟩;rw [dn] at he;subst he;rw [hw2];clear hw2 w2))
  go_loopw [19] (fun i wr=>∃k:Nat,k≤f.methods.length∧i=.int .i64 k∧Hid (∀j,j<k→smeB f.classes f.methods.length (nth me0 f.methods j)=true)∧Hid (Bl w wr)∧Hid (FiBox wr w.heap.size 0 f.classes.length f.methods.length A B a b)) (fun i _=>f.methods.length-(intOf i).toNat)
  case atStart=>exact ⟨0,Nat.zero_le _,rfl,fun j hj=>absurd hj (Nat.not_lt_zero _),HW.out.trans g1,HF.out.bl g1⟩
  case round =>
   clear HF HW q1 g1 hm
   obtain ⟨k,hk,rfl,hgk,hg,HF⟩:=hrel
   by_cases hkl:k<f.methods.length
   ·have hmes:=HB.out.bl hg.out
    rcases hmes.2 with h0|⟨b',off',rfl,hcell⟩
    ·omega
    obtain ⟨P,C,K,p,c,kk,c0,c1,c2,c3,c4,c5,c6,c7,hme⟩:=hcell k hkl
    have HBAD:Hid (smeB f.classes f.methods.length (nth me0 f.methods k)=false→smayB f=false):=smay_me hkl
    generalize hM:nth me0 f.methods k=m at *
    have HM:Hid (nth me0 f.methods k=m):=hM
    have HME:Hid (MeAt wr m P C K):=hme
    have HP:=sme_parts f.classes f.methods.length m
    have qf0:∀o,(wr.alloc o).cell? ⟨w.heap.size,0,none⟩=some (.slice A f.classes.length a):=fun o=>((Bl.refl wr).alloc o).cell HF.out.1
    have HAL:Hid (Bl wr (wr.alloc (meO m P C K p c kk))):=(Bl.refl wr).alloc _
    have HMC:Hid (MeCells (wr.alloc (meO m P C K p c kk)) wr.heap.size m P C K p c kk):=MeCells.new ..
    have HFA:Hid (FiBox (wr.alloc (meO m P C K p c kk)) w.heap.size 0 f.classes.length f.methods.length A _ a b):=HF.out.bl HAL.out
    clear hmes hcell hM hme
    cases hh:mhB f.classes.length m
    ·have HN:Hid (smayB f=false):=HBAD.out (by rw [HP,hh];rfl)
     clear HP HBAD
     go_wp2_with (go_at_call 36;refine (mayHead_any m _ _ _ _ _ _ _ _ (HME.out.bl HAL.out)).mono ?_;rintro e w1 ⟨he,g1⟩;rw [hh] at he;subst he)
     go_ret
     exact ⟨ret_bool HN.out.symm,(hg.out.trans HAL.out).trans g1⟩
    ·have hparts:m.params.length≤4∧m.params.all (tyB f.classes.length)=true:=by
      unfold mhB at hh;simp only [Bool.and_eq_true,decide_eq_true_eq] at hh;exact ⟨hh.1,hh.2.1⟩
     have HKT:Hid (∀k,k<m.params.length→(nth ty0 m.params k).kind≠0):=kinds_there hparts.2
     have h4:=hparts.1
     clear hparts
     cases hr:roomB m
     ·have HN:Hid (smayB f=false):=HBAD.out (by rw [HP,hh,hr];rfl)
      clear HP HBAD
      go_wp2_with (first
       | (go_at_call 36;refine (mayHead_any m _ _ _ _ _ _ _ _ (HME.out.bl HAL.out)).mono ?_;rintro e w1 ⟨he,g1⟩;rw [hh] at he;subst he;obtain ⟨e0,e1,e2,e3,e4,e5,e6,e7⟩:=HMC.out.bl g1)
       | (go_at_call 37;refine (mayRoom_any m _ _ _ _ _ _ _ (HME.out.1.bl (HAL.out.trans g1)) h4 HKT.out).mono ?_;rintro e w2 ⟨he,g2⟩;rw [hr] at he;subst he))
      go_ret
      exact ⟨ret_bool HN.out.symm,((hg.out.trans HAL.out).trans g1).trans g2⟩
     ·have hlocs:0≤m.locs∧m.locs≤60:=by
       unfold roomB at hr;simp only [Bool.and_eq_true,decide_eq_true_eq] at hr;omega
      obtain ⟨hlo,hhi⟩:=hlocs
      cases hc:codeB f.classes f.methods.length m
      ·have HN:Hid (smayB f=false):=HBAD.out (by rw [HP,hh,hr,hc];rfl)
       clear HP HBAD
       go_wp2_with (first
        | (go_at_call 36;refine (mayHead_any m _ _ _ _ _ _ _ _ (HME.out.bl HAL.out)).mono ?_;rintro e w1 ⟨he,g1⟩;rw [hh] at he;subst he;obtain ⟨e0,e1,e2,e3,e4,e5,e6,e7⟩:=HMC.out.bl g1)
        | (go_at_call 37;refine (mayRoom_any m _ _ _ _ _ _ _ (HME.out.1.bl (HAL.out.trans g1)) h4 HKT.out).mono ?_;rintro e w2 ⟨he,g2⟩;rw [hr] at he;subst he;obtain ⟨t0,t1,t2,t3,t4,t5,t6,t7⟩:=HMC.out.bl (g1.trans g2);obtain ⟨v0,v1⟩:=HFA.out.bl (g1.trans g2);simp only [Nat.zero_add] at v1)
        | (go_at_call 38;refine (mayCode_any _ _ _ _ _ _ m _ _ _ _ _ _ _ hlo hhi (HA.out.bl (((hg.out.trans HAL.out).trans g1).trans g2)) HMM.out (HME.out.2.1.bl ((HAL.out.trans g1).trans g2))).mono ?_;rintro e w3 ⟨he,g3⟩;rw [hc] at he;subst he))
       go_ret
       exact ⟨ret_bool HN.out.symm,(((hg.out.trans HAL.out).trans g1).trans g2).trans g3⟩
      ·have HT:Hid (smeB f.classes f.methods.length m=true):=by rw [HP,hh,hr,hc];rfl
       clear HP HBAD
       go_wp2_with (first
        | (go_at_call 36;refine (mayHead_any m _ _ _ _ _ _ _ _ (HME.out.bl HAL.out)).mono ?_;rintro e w1 ⟨he,g1⟩;rw [hh] at he;subst he;obtain ⟨e0,e1,e2,e3,e4,e5,e6,e7⟩:=HMC.out.bl g1)
        | (go_at_call 37;refine (mayRoom_any m _ _ _ _ _ _ _ (HME.out.1.bl (HAL.out.trans g1)) h4 HKT.out).mono ?_;rintro e w2 ⟨he,g2⟩;rw [hr] at he;subst he;obtain ⟨t0,t1,t2,t3,t4,t5,t6,t7⟩:=HMC.out.bl (g1.trans g2);obtain ⟨v0,v1⟩:=HFA.out.bl (g1.trans g2);simp only [Nat.zero_add] at v1)
        | (go_at_call 38;refine (mayCode_any _ _ _ _ _ _ m _ _ _ _ _ _ _ hlo hhi (HA.out.bl (((hg.out.trans HAL.out).trans g1).trans g2)) HMM.out (HME.out.2.1.bl ((HAL.out.trans g1).trans g2))).mono ?_;rintro e w3 ⟨he,g3⟩;rw [hc] at he;subst he))
       go_roundw
       case rel=>exact ⟨k+1,by omega,by go_num,fun j hj=>if h:j<k then hgk.out j h else by have:j=k:=(by omega);subst this;rw [HM.out];exact HT.out,(((hg.out.trans HAL.out).trans g1).trans g2).trans g3,HFA.out.bl ((g1.trans g2).trans g3)⟩
       case measure=>simp [intOf];omega
   ·obtain rfl:k=f.methods.length:=by omega
    have HN:Hid (smayB f=true):=HG.out hgk.out
    go_wp2
    go_ret
    exact ⟨ret_bool HN.out.symm,hg.out⟩
 ·have hb:=smay_many (f:=f) (by omega)
  rw [hb]
  have dn:decide (1≤(f.methods.length:Int)∧(f.methods.length:Int)≤8)=false:=decide_eq_false hn
  go_enter Tryz.func16,Tryz.ntmps16
  go_wp2_with (first
   | (go_at_call 34;refine (may_any _ _ _ _ (HA.out.bl HW.out)).mono ?_;rintro e w1 ⟨he,g1⟩;rw [hm] at he;subst he;have q1:=(HF.out.bl g1).2;simp only [Nat.zero_add] at q1)
   | (go_at_call 35;refine (span_any _ _ _ _).mono ?_;rintro e w2 ⟨he,hw2⟩;rw [dn] at he;subst he;rw [hw2];clear hw2 w2))
  go_ret
  exact ⟨rfl,HW.out.trans g1⟩
section
open Go.ChangeShapes Go.WideShapes Go.ChangeAt Go.RowKit Go.Deep
theorem cellsTy:Tryz.prog.cellsOf 45=2:=by kernel_rfl
theorem cellsCl:Tryz.prog.cellsOf 105=2:=by kernel_rfl
theorem cellsTys:Tryz.prog.cellsOf 43=1:=by kernel_rfl
theorem cellsInt:Tryz.prog.cellsOf 3=1:=by kernel_rfl
theorem take_one {cs:List Value} {o:Nat} {v:Value} (h:(cs.drop o).take 1=[v]):cs[o]?=some v:=by
 have h1:((cs.drop o).take 1)[0]?=some v:=by rw [h];rfl
 simpa [List.getElem?_take,List.getElem?_drop] using h1
section
variable {H:Type} {enc:TypeId×Value→H} {w:World} {base:Nat} {spare:Nat→Bool} {held:Bool}
theorem fld_int {t:TypeId} {P:Program} {fuel o:Nat} {cs:List Value} {y:Option (DataW H×List MemPlace)} (ht:P.underlying t=some (.int .i64)) (hc:P.cellsOf t=1) (hy:y≠none)
  (h:DataW.trod enc P w base spare held fuel t ((cs.drop o).take (P.cellsOf t))=y):∃n,cs[o]?=some (.int .i64 n)∧I64 n:=by
 obtain ⟨x,rfl⟩:=Option.ne_none_iff_exists'.1 hy
 obtain ⟨n,hn,-,hw⟩:=DataW.trod_int ht h
 rw [hc] at hn
 exact ⟨n,take_one hn,bounds_i64 hw⟩
theorem open_row {E:Type} (d:E) {R:E→List Value→Prop} {P:Program} {t e:TypeId} {s fuel:Nat} {cs:List Value} {x:DataW H×List MemPlace}
  (ht:P.underlying t=some (.slice e)) (hs:P.cellsOf e=s) (h0:0<s)
  (he:∀(fuel:Nat) (cs:List Value) (x:DataW H×List MemPlace),DataW.trod enc P w base spare held fuel e cs=some x→∃z:E,R z cs)
  (h:DataW.trod enc P w base spare held fuel t cs=some x) :
  ∃(A:Option Addr) (l:List E) (c:Nat),cs=[.slice A l.length c]∧l.length≤maxLen∧(l.length=0∨∃b off,A=some ⟨b,off,none⟩ ∧
   ∀i,i<l.length→∃vs,R (nth d l i) vs∧∀j,j<s→w.cell? ⟨b,off+i*s+j,none⟩=vs[j]?):=by
 rcases open_slice ht h with ⟨rfl,-⟩|⟨a,len,cap,m,n,D,Pl,rfl,hb,hl,hm,hmm,-,hx⟩
 ·exact ⟨none,[],0,rfl,Nat.zero_le _,Or.inl rfl⟩
 have hlm:len≤m:=by rw [hmm];split<;>omega
 rw [hs] at hx
 obtain ⟨f,hf⟩:=@choose_lt E ⟨d⟩ len ( fun i z=>∃vs,R z vs∧vs.length=s∧∀j,j<s→w.cell? ((a.add (i*s)).add j)=vs[j]?) (fun i hi=>by
  obtain ⟨cs',h1,h2⟩:=hx i (by omega)
  obtain ⟨z,hz⟩:=he _ _ _ h2
  obtain ⟨-,hlen,hcell⟩:=World.cells?_some h1
  exact ⟨z,cs',hz,hlen,hcell⟩)
 refine ⟨some a,(List.range len).map f,cap,by simp,by simp;omega,?_⟩
 simp only [List.length_map,List.length_range]
 by_cases hz:len=0
 ·exact Or.inl hz
 right
 obtain ⟨b,off,spot⟩:=a
 have hspot:spot=none:=by
  obtain ⟨vs,-,hlen,hcell⟩:=hf 0 (by omega)
  have g:=hcell 0 h0
  rw [List.getElem?_eq_getElem (by omega)] at g
  simpa [Addr.add] using World.cell?_spot g
 subst hspot
 refine ⟨b,off,rfl,fun i hi=>?_⟩
 obtain ⟨vs,hR,-,hcell⟩:=hf i hi
 refine ⟨vs,?_,fun j hj=>?_⟩
 ·have:nth d ((List.range len).map f) i=f i:=by rw [nth_get (by simpa using hi)];simp
  rw [this];exact hR
 ·have:=hcell j hj
  rw [add_add,add_plain,←Nat.add_assoc] at this
  exact this
theorem open_ty {fuel:Nat} {cs:List Value} {x:DataW H×List MemPlace} (h:DataW.trod enc Tryz.prog w base spare held fuel 45 cs=some x) :
  ∃t:Ty,(cs[0]?=some (.int .i64 t.kind)∧cs[1]?=some (.int .i64 t.cls))∧I64 t.kind∧I64 t.cls:=by
 obtain ⟨xs,n,rfl,rfl,hl,hn,hf⟩:=DataW.trod_struct Tryz.underlying45 h
 have hn':xs.length=2:=hn
 obtain ⟨k,h0,w0⟩:=fld_int Tryz.underlying3 cellsInt (by simp [hn']) (hf 0 _ rfl)
 obtain ⟨c,h1,w1⟩:=fld_int Tryz.underlying3 cellsInt (by simp [hn']) (hf 1 _ rfl)
 exact ⟨⟨k,c⟩,⟨h0,h1⟩,w0,w1⟩
theorem open_tys {fuel:Nat} {cs:List Value} {x:DataW H×List MemPlace} (h:DataW.trod enc Tryz.prog w base spare held fuel 43 cs=some x) :
  ∃(A:Option Addr) (l:List Ty) (c:Nat),cs=[.slice A l.length c]∧TysAt w A l:=by
 obtain ⟨A,l,c,rfl,hm,hr⟩:=open_row ty0 Tryz.underlying43 cellsTy (by omega) (fun _ _ _=>open_ty) h
 rcases hr with h0|⟨b,off,rfl,hi⟩
 ·exact ⟨A,l,c,rfl,hm,Or.inl h0⟩
 refine ⟨_,l,c,rfl,hm,Or.inr ⟨b,off,rfl,fun i hlt=>?_⟩⟩
 obtain ⟨vs,⟨⟨h0,h1⟩,w0,w1⟩,hc⟩:=hi i hlt
 exact ⟨(hc 0 (by omega)).trans h0,(hc 1 (by omega)).trans h1,w0,w1⟩
theorem fld_tys {fuel o:Nat} {cs:List Value} {y:Option (DataW H×List MemPlace)} (hy:y≠none)
  (h:DataW.trod enc Tryz.prog w base spare held fuel 43 ((cs.drop o).take (Tryz.prog.cellsOf 43))=y):∃(A:Option Addr) (l:List Ty) (c:Nat),cs[o]?=some (.slice A l.length c)∧TysAt w A l:=by
 obtain ⟨x,rfl⟩:=Option.ne_none_iff_exists'.1 hy
 obtain ⟨A,l,c,hn,hT⟩:=open_tys h
 rw [cellsTys] at hn
 exact ⟨A,l,c,take_one hn,hT⟩
theorem open_cl {fuel:Nat} {cs:List Value} {x:DataW H×List MemPlace} (h:DataW.trod enc Tryz.prog w base spare held fuel 105 cs=some x) :
  ∃t:Cl,cs[0]?=some (.int .i64 t.super)∧I64 t.super∧∃A c,cs[1]?=some (.slice A t.fields.length c)∧TysAt w A t.fields:=by
 obtain ⟨xs,n,rfl,rfl,hl,hn,hf⟩:=DataW.trod_struct Tryz.underlying105 h
 have hn':xs.length=2:=hn
 obtain ⟨k,h0,w0⟩:=fld_int Tryz.underlying3 cellsInt (by simp [hn']) (hf 0 _ rfl)
 obtain ⟨A,l,c,h1,w1⟩:=fld_tys (by simp [hn']) (hf 1 _ rfl)
 exact ⟨⟨k,l⟩,h0,w0,A,c,h1,w1⟩
theorem open_cls {fuel:Nat} {cs:List Value} {x:DataW H×List MemPlace} (h:DataW.trod enc Tryz.prog w base spare held fuel 22 cs=some x) :
  ∃(A:Option Addr) (l:List Cl) (c:Nat),cs=[.slice A l.length c]∧ClsAt w A l:=by
 obtain ⟨A,l,c,rfl,hm,hr⟩:=open_row cl0 Tryz.underlying22 cellsCl (by omega) (fun _ _ _=>open_cl) h
 rcases hr with h0|⟨b,off,rfl,hi⟩
 ·exact ⟨A,l,c,rfl,hm,Or.inl h0⟩
 refine ⟨_,l,c,rfl,hm,Or.inr ⟨b,off,rfl,fun i hlt=>?_⟩⟩
 obtain ⟨vs,⟨h0,w0,A',c',h1,w1⟩,hc⟩:=hi i hlt
 exact ⟨(hc 0 (by omega)).trans h0,w0,A',c',(hc 1 (by omega)).trans h1,w1⟩
end
end
end Go.Proofs.YtgiiapenmjollaaGreat
