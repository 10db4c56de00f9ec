import Derived.Test.YtgiiapenmjollaaGreatSsae
namespace Go.Proofs.YtgiiapenmjollaaGreat
set_option linter.all false
set_option maxHeartbeats 40000000
set_option maxRecDepth 100000
open Go.RowKit
def MeBox (w:World) (b off:Nat) (m:Me) (P C K:Option Addr) (p c k:Nat):Prop :=
 w.cell? ⟨b,off,none⟩=some (.slice P m.params.length p)∧w.cell? ⟨b,off+1,none⟩=some (.int .i64 m.ret.kind)∧w.cell? ⟨b,off+2,none⟩=some (.int .i64 m.ret.cls)
  ∧ w.cell? ⟨b,off+3,none⟩=some (.int .i64 m.stack)∧w.cell? ⟨b,off+4,none⟩=some (.int .i64 m.locs)∧w.cell? ⟨b,off+5,none⟩=some (.int .i64 m.regs)
  ∧ w.cell? ⟨b,off+6,none⟩=some (.slice C m.code.length c)∧w.cell? ⟨b,off+7,none⟩=some (.slice K m.hands.length k)
theorem MeBox.bl {w w':World} (h:Bl w w') {b off:Nat} {m:Me} {P C K:Option Addr} {p c k:Nat} (hb:MeBox w b off m P C K p c k):MeBox w' b off m P C K p c k :=
 ⟨h.cell hb.1,h.cell hb.2.1,h.cell hb.2.2.1,h.cell hb.2.2.2.1,h.cell hb.2.2.2.2.1,h.cell hb.2.2.2.2.2.1,h.cell hb.2.2.2.2.2.2.1,h.cell hb.2.2.2.2.2.2.2⟩
abbrev meV (m:Me) (P C K:Option Addr) (p c k:Nat):Value :=
 .agg #[.slice P m.params.length p,.int .i64 m.ret.kind,.int .i64 m.ret.cls,.int .i64 m.stack,.int .i64 m.locs,.int .i64 m.regs,.slice C m.code.length c,.slice K m.hands.length k]
abbrev fiV (nc nm:Nat) (A B:Option Addr) (a b:Nat):Value:=.agg #[.slice A nc a,.slice B nm b]
def FiBox (w:World) (b off:Nat) (nc nm:Nat) (A B:Option Addr) (x y:Nat):Prop :=
 w.cell? ⟨b,off,none⟩=some (.slice A nc x)∧w.cell? ⟨b,off+1,none⟩=some (.slice B nm y)
theorem FiBox.bl {w w':World} (h:Bl w w') {b off nc nm:Nat} {A B:Option Addr} {x y:Nat} (hb:FiBox w b off nc nm A B x y):FiBox w' b off nc nm A B x y:=⟨h.cell hb.1,h.cell hb.2⟩
theorem boxes_new (w:World) (nc nm:Nat) (A B:Option Addr) (x y:Nat) (m:Me) (P C K:Option Addr) (p c k:Nat) (t t':TypeId) :
  FiBox ((w.alloc (.cells #[.slice A nc x,.slice B nm y] t)).alloc (.cells #[.slice P m.params.length p,.int .i64 m.ret.kind,.int .i64 m.ret.cls,.int .i64 m.stack,.int .i64 m.locs,.int .i64 m.regs,.slice C m.code.length c,.slice K m.hands.length k] t')) w.heap.size 0 nc nm A B x y
  ∧ MeBox ((w.alloc (.cells #[.slice A nc x,.slice B nm y] t)).alloc (.cells #[.slice P m.params.length p,.int .i64 m.ret.kind,.int .i64 m.ret.cls,.int .i64 m.stack,.int .i64 m.locs,.int .i64 m.regs,.slice C m.code.length c,.slice K m.hands.length k] t')) (w.heap.size+1) 0 m P C K p c k:=by
 refine ⟨⟨?_,?_⟩,⟨?_,?_,?_,?_,?_,?_,?_,?_⟩⟩<;>simp
theorem head_few {nc:Nat} {m:Me} {most:Int} (h:¬(m.params.length≤4∧m.hands.length≤8∧1≤m.code.length∧(m.code.length:Int)≤most)):headB nc m most=false:=by
 unfold headB;rw [decide_eq_false h];rfl
theorem head_par {nc:Nat} {m:Me} {most:Int} {q:Nat} (hq:q<m.params.length) (h:tyB nc (nth ty0 m.params q)=false):headB nc m most=false:=by
 unfold headB;rw [all_bad hq h];simp
theorem head_hand {nc:Nat} {m:Me} {most:Int} {q:Nat} (hq:q<m.hands.length) (h:hdB nc m.code.length (nth hd0 m.hands q)=false):headB nc m most=false:=by
 unfold headB;rw [all_bad hq h];simp
theorem head_good {nc:Nat} {m:Me} {most:Int} (h:m.params.length≤4∧m.hands.length≤8∧1≤m.code.length∧(m.code.length:Int)≤most)
  (hp:∀q,q<m.params.length→tyB nc (nth ty0 m.params q)=true) (hh:∀q,q<m.hands.length→hdB nc m.code.length (nth hd0 m.hands q)=true):headB nc m most=retB nc m.ret:=by
 unfold headB;rw [decide_eq_true h,all_good hp,all_good hh];simp
theorem rhead_any (nc nm:Nat) (A B:Option Addr) (a b:Nat) (m:Me) (P C K:Option Addr) (p c k:Nat) (most:Int) (w:World) (hP:TysAt w P m.params) (hK:HdsAt w K m.hands) (hnc:nc≤12) (hcode:m.code.length≤maxLen) :
  Calls Tryz.prog 21 #[fiV nc nm A B a b,meV m P C K p c k,.int .i64 most] w fun e w'=>e=.returned (.bool (headB nc m most))∧Bl w w':=by
 have HP:Hid (TysAt w P m.params):=hP
 have HK:Hid (HdsAt w K m.hands):=hK
 have hpm:=hP.1
 have hkm:=hK.1
 unfold maxLen at hcode hpm hkm
 clear hP hK
 by_cases h1:4<m.params.length
 ·have hb:=head_few (nc:=nc) (m:=m) (most:=most) (by omega)
  rw [hb]
  go_enter Tryz.func21,Tryz.ntmps21
  go_wp2
  go_ret
  exact ⟨rfl,((Bl.refl _).alloc _).alloc _⟩
 by_cases h2:8<m.hands.length
 ·have hb:=head_few (nc:=nc) (m:=m) (most:=most) (by omega)
  rw [hb]
  go_enter Tryz.func21,Tryz.ntmps21
  go_wp2
  go_ret
  exact ⟨rfl,((Bl.refl _).alloc _).alloc _⟩
 by_cases h3:1≤(m.code.length:Int)∧(m.code.length:Int)≤most
 ·have HG:Hid ((∀q,q<m.params.length→tyB nc (nth ty0 m.params q)=true)→(∀q,q<m.hands.length→hdB nc m.code.length (nth hd0 m.hands q)=true)→headB nc m most=retB nc m.ret):=head_good (by omega)
  have hd3:decide (1≤(m.code.length:Int)∧(m.code.length:Int)≤most)=true:=decide_eq_true h3
  obtain ⟨f0,m0⟩:=boxes_new w nc nm A B a b m P C K p c k 25 49
  have HF:Hid (FiBox _ w.heap.size 0 nc nm A B a b):=f0
  have HM:Hid (MeBox _ (w.heap.size+1) 0 m P C K p c k):=m0
  clear f0 m0
  go_enter Tryz.func21,Tryz.ntmps21
  go_wp2_with (go_at_call 20;refine (within_any _ _ _ _).mono ?_;rintro e w' ⟨he,rfl⟩;rw [hd3] at he;subst he)
  go_loopw [7] (fun i wr=>∃q:Nat,q≤m.params.length∧i=.int .i64 q∧Hid (∀j,j<q→tyB nc (nth ty0 m.params j)=true)∧Hid (Bl w wr)∧Hid (FiBox wr w.heap.size 0 nc nm A B a b)∧Hid (MeBox wr (w.heap.size+1) 0 m P C K p c k)) (fun i _=>m.params.length-(intOf i).toNat)
  case atStart=>exact ⟨0,Nat.zero_le _,rfl,fun j hj=>absurd hj (Nat.not_lt_zero _),((Bl.refl _).alloc _).alloc _,HF,HM⟩
  case round =>
   clear HF HM
   obtain ⟨q,hq,rfl,hgq,hg,HF,HM⟩:=hrel
   have hf0:=HF.out.1
   have hm0:=HM.out.1
   have hm7:=HM.out.2.2.2.2.2.2.2
   simp only [Nat.zero_add] at hm7
   by_cases hql:q<m.params.length
   ·have hty:=HP.out.bl hg.out
    rcases hty.2 with h0|⟨b',off',rfl,hcell⟩
    ·omega
    obtain ⟨ht1,ht2,-,-⟩:=hcell q hql
    clear hty hcell
    have gf:=fut_cell hf0
    have gm:=fut_cell hm0
    have g1:=fut_cell ht1
    have g2:=fut_cell ht2
    clear hm7
    cases hT:tyB nc (nth ty0 m.params q)
    ·have hT':tyB nc ⟨(nth ty0 m.params q).kind,(nth ty0 m.params q).cls⟩=false:=hT
     have HB:=head_par (most:=most) hql hT
     clear hT HG
     go_wp2
     refine wp_region_fut (by kernel_rfl) (by kernel_rfl) fun hne=>?_
     repeat (go_big_quiet_step ((go_at_call 49;exact Calls.fut_eq _ (rtype_any _ _ _ _ _ _) (congrArg Value.bool hT'))))
     refine wpQuiet_nil ?_
     rintro _ ⟨⟨w2,hw2⟩,rfl⟩
     go_wp2
     go_ret
     exact ⟨ret_bool HB.symm,hg.out.trans hw2⟩
    ·have hT':tyB nc ⟨(nth ty0 m.params q).kind,(nth ty0 m.params q).cls⟩=true:=hT
     have HT:Hid (tyB nc (nth ty0 m.params q)=true):=hT
     clear hT HG
     go_wp2
     refine wp_region_fut (by kernel_rfl) (by kernel_rfl) fun hne=>?_
     repeat (go_big_quiet_step ((go_at_call 49;exact Calls.fut_eq _ (rtype_any _ _ _ _ _ _) (congrArg Value.bool hT'))))
     refine wpQuiet_nil ?_
     rintro _ ⟨⟨w2,hw2⟩,rfl⟩
     go_wp2
     go_roundw
     case rel=>exact ⟨q+1,by omega,by go_num,fun j hj=>if h:j<q then hgq.out j h else by have:j=q:=(by omega);subst this;exact HT.out,hg.out.trans hw2,HF.out.bl hw2,HM.out.bl hw2⟩
     case measure=>simp [intOf];omega
   ·obtain rfl:q=m.params.length:=by omega
    have HG2:Hid ((∀q,q<m.hands.length→hdB nc m.code.length (nth hd0 m.hands q)=true)→headB nc m most=retB nc m.ret):=HG.out hgq.out
    clear HG hgq hql hq
    go_wp2
    clear hf0 hm0 hm7
    go_loopw [8] (fun i wr=>∃q:Nat,q≤m.hands.length∧i=.int .i64 q∧Hid (∀j,j<q→hdB nc m.code.length (nth hd0 m.hands j)=true)∧Hid (Bl w wr)∧Hid (FiBox wr w.heap.size 0 nc nm A B a b)∧Hid (MeBox wr (w.heap.size+1) 0 m P C K p c k)) (fun i _=>m.hands.length-(intOf i).toNat)
    case atStart=>exact ⟨0,Nat.zero_le _,rfl,fun j hj=>absurd hj (Nat.not_lt_zero _),hg,HF,HM⟩
    case round =>
     clear HF HM hg
     obtain ⟨q,hq,rfl,hgq,hg,HF,HM⟩:=hrel
     have hf0:=HF.out.1
     have hm1:=HM.out.2.1
     have hm2:=HM.out.2.2.1
     have hm6:=HM.out.2.2.2.2.2.2.1
     have hm7:=HM.out.2.2.2.2.2.2.2
     simp only [Nat.zero_add] at hm1 hm2 hm6 hm7
     by_cases hql:q<m.hands.length
     ·have hty:=HK.out.bl hg.out
      rcases hty.2 with h0|⟨b',off',rfl,hcell⟩
      ·omega
      obtain ⟨g0,g1,g2,g3,-⟩:=hcell q hql
      clear hty hcell hm1 hm2
      have HB:Hid (hdB nc m.code.length (nth hd0 m.hands q)=false→headB nc m most=false):=head_hand hql
      have HD:Hid (hdB nc m.code.length (nth hd0 m.hands q)=decide (0≤(nth hd0 m.hands q).fr∧(nth hd0 m.hands q).fr<(nth hd0 m.hands q).til∧(nth hd0 m.hands q).til≤m.code.length∧0≤(nth hd0 m.hands q).pc∧(nth hd0 m.hands q).pc<m.code.length∧0≤(nth hd0 m.hands q).cls∧(nth hd0 m.hands q).cls<nc)):=rfl
      generalize hX:nth hd0 m.hands q=X at *
      have qf0:∀o,(wr.alloc o).cell? ⟨w.heap.size,0,none⟩=some (.slice A nc a):=fun o=>((Bl.refl wr).alloc o).cell hf0
      have qm6:∀o,(wr.alloc o).cell? ⟨w.heap.size+1,6,none⟩=some (.slice C m.code.length c):=fun o=>((Bl.refl wr).alloc o).cell hm6
      by_cases t1:X.fr<0
      ·have HF':Hid (headB nc m most=false):=HB.out (HD.out.trans (decide_eq_false (by omega)))
       go_wp2
       go_ret
       exact ⟨ret_bool HF'.out.symm,hg.out.alloc _⟩
      by_cases t2:X.til≤X.fr
      ·have HF':Hid (headB nc m most=false):=HB.out (HD.out.trans (decide_eq_false (by omega)))
       go_wp2
       go_ret
       exact ⟨ret_bool HF'.out.symm,hg.out.alloc _⟩
      by_cases t3:(m.code.length:Int)<X.til
      ·have HF':Hid (headB nc m most=false):=HB.out (HD.out.trans (decide_eq_false (by omega)))
       go_wp2
       go_ret
       exact ⟨ret_bool HF'.out.symm,hg.out.alloc _⟩
      by_cases t4:0≤X.pc∧X.pc≤(m.code.length:Int)-1
      ·have d4:decide (0≤X.pc∧X.pc≤(m.code.length:Int)-1)=true:=decide_eq_true t4
       by_cases t5:0≤X.cls∧X.cls≤(nc:Int)-1
       ·have d5:decide (0≤X.cls∧X.cls≤(nc:Int)-1)=true:=decide_eq_true t5
        have HT:Hid (hdB nc m.code.length X=true):=HD.out.trans (decide_eq_true (by omega))
        go_wp2_with (go_at_call 20;refine (within_any _ _ _ _).mono ?_;rintro e w' ⟨he,rfl⟩;(first|rw [d4] at he|rw [d5] at he);subst he)
        go_roundw
        case rel=>exact ⟨q+1,by omega,by go_num,fun j hj=>if h:j<q then hgq.out j h else by have:j=q:=(by omega);subst this;rw [hX];exact HT.out,hg.out.alloc _,HF.out.bl ((Bl.refl _).alloc _),HM.out.bl ((Bl.refl _).alloc _)⟩
        case measure=>simp [intOf];omega
       ·have d5:decide (0≤X.cls∧X.cls≤(nc:Int)-1)=false:=decide_eq_false t5
        have HF':Hid (headB nc m most=false):=HB.out (HD.out.trans (decide_eq_false (by omega)))
        go_wp2_with (go_at_call 20;refine (within_any _ _ _ _).mono ?_;rintro e w' ⟨he,rfl⟩;(first|rw [d4] at he|rw [d5] at he);subst he)
        go_ret
        exact ⟨ret_bool HF'.out.symm,hg.out.alloc _⟩
      ·have d4:decide (0≤X.pc∧X.pc≤(m.code.length:Int)-1)=false:=decide_eq_false t4
       have HF':Hid (headB nc m most=false):=HB.out (HD.out.trans (decide_eq_false (by omega)))
       go_wp2_with (go_at_call 20;refine (within_any _ _ _ _).mono ?_;rintro e w' ⟨he,rfl⟩;rw [d4] at he;subst he)
       go_ret
       exact ⟨ret_bool HF'.out.symm,hg.out.alloc _⟩
     ·obtain rfl:q=m.hands.length:=by omega
      have HG3:Hid (headB nc m most=(decide (m.ret.kind=0∧m.ret.cls=0)||tyB nc ⟨m.ret.kind,m.ret.cls⟩)):=HG2.out hgq.out
      clear HG2 hgq hql hq
      by_cases t1:m.ret.kind=0
      ·by_cases t2:m.ret.cls=0
       ·have HF':headB nc m most=true:=HG3.out.trans (by rw [decide_eq_true ⟨t1,t2⟩];rfl)
        rw [t1] at hm1
        rw [t2] at hm2
        clear t1 t2
        go_wp2
        go_ret
        exact ⟨ret_bool HF'.symm,hg.out⟩
       ·have HF':Hid (headB nc m most=tyB nc ⟨m.ret.kind,m.ret.cls⟩):=HG3.out.trans (by rw [decide_eq_false (by omega)];rfl)
        have t2':(m.ret.cls==0)=false:=by simpa using t2
        have HT1:Hid (m.ret.kind=0):=t1
        rw [t1] at hm1
        clear t1 t2
        go_wp2_with (go_at_call 49;refine (rtype_any _ _ _ _ _ _).mono ?_;rintro e w' ⟨rfl,hg2⟩)
        go_ret
        exact ⟨ret_bool (by rw [HF'.out,HT1.out]),hg.out.trans hg2⟩
      ·have HF':Hid (headB nc m most=tyB nc ⟨m.ret.kind,m.ret.cls⟩):=HG3.out.trans (by rw [decide_eq_false (by omega)];rfl)
       have t1':(m.ret.kind==0)=false:=by simpa using t1
       clear t1
       go_wp2_with (go_at_call 49;refine (rtype_any _ _ _ _ _ _).mono ?_;rintro e w' ⟨rfl,hg2⟩)
       go_ret
       exact ⟨ret_bool HF'.out.symm,hg.out.trans hg2⟩
 ·have hb:=head_few (nc:=nc) (m:=m) (most:=most) (by omega)
  rw [hb]
  have hd3:decide (1≤(m.code.length:Int)∧(m.code.length:Int)≤most)=false:=decide_eq_false h3
  go_enter Tryz.func21,Tryz.ntmps21
  go_wp2_with (go_at_call 20;refine (within_any _ _ _ _).mono ?_;rintro e w' ⟨he,rfl⟩;rw [hd3] at he;subst he)
  go_ret
  exact ⟨rfl,((Bl.refl _).alloc _).alloc _⟩
structure Hg (h:Hp):Prop where
 may:mayB h.file.classes=true
 ty:TyH h
 ov:h.over=false
 th:h.thrown=-1
theorem Hg.tree {h:Hp} (g:Hg h):Tree h.file.classes:=(may_tree g.may).1
theorem Hg.four {h:Hp} (g:Hg h):4≤h.file.classes.length:=(may_tree g.may).2.1
theorem Hg.stops {h:Hp} (g:Hg h):h.stops=false:=by unfold Hp.stops;rw [g.ov,g.th];rfl
theorem Hg.ok {h:Hp} (g:Hg h):Ok h:=Ok.of g.ov
theorem Hg.mustB {h:Hp} (g:Hg h) {b:Bool} (hb:b=true):h.mustB b=true:=by unfold Hp.mustB;rw [hb,g.ov];rfl
theorem must_t {h:Hp} {b:Bool} (hb:b=true):h.must b=h:=by unfold Hp.must;rw [if_pos hb]
structure Done (h:Hp) (c:Cal) (s1:As) (d:Did):Prop where
 ok:Ok d.h
 ext:Ext h d.h
 ty:TyH d.h
 m:d.c.m=c.m
 pc:d.c.pc=c.pc
 nx:d.nx=c.pc+1
 go:d.h.over=false→(d.h.thrown=-1∧Fits d.h s1 d.c)∨(0≤d.h.thrown∧d.h.thrown<d.h.objs.length∧d.c.locs=c.locs)
theorem Thrw.stops {h h':Hp} (t:Thrw h h'):h'.stops=true:=by
 unfold Hp.stops
 cases ho:h'.over
 ·have:=t.thr ho;simp;omega
 ·rfl
theorem gives_done {h:Hp} {c:Cal} {s0 s1:As} {i:In} {t:Ty} (g:Hg h) (hh:c.has (manyOf i.op)=true) (f0:Fits h s0 (c.cut (manyOf i.op))) (hk:∀x∈s0.stk,1≤x.kind∧x.kind≤3) (ht:1≤t.kind∧t.kind≤3) (hp:putT c.m.stack t s0=some s1)
  (H:Thrw h (givesH h (nth va0 (c.top (manyOf i.op)) 0) (nth va0 (c.top (manyOf i.op)) 1) i)∨(Ext h (givesH h (nth va0 (c.top (manyOf i.op)) 0) (nth va0 (c.top (manyOf i.op)) 1) i)∧TyH (givesH h (nth va0 (c.top (manyOf i.op)) 0) (nth va0 (c.top (manyOf i.op)) 1) i)∧(givesH h (nth va0 (c.top (manyOf i.op)) 0) (nth va0 (c.top (manyOf i.op)) 1) i).over=false∧(givesH h (nth va0 (c.top (manyOf i.op)) 0) (nth va0 (c.top (manyOf i.op)) 1) i).thrown=-1∧FitV (givesH h (nth va0 (c.top (manyOf i.op)) 0) (nth va0 (c.top (manyOf i.op)) 1) i) t (givesV h (nth va0 (c.top (manyOf i.op)) 0) (nth va0 (c.top (manyOf i.op)) 1) i))) :
  Done h c s1 (givesP h c i):=by
 have cm:=cut_m c (manyOf i.op)
 unfold givesP
 dsimp only
 rw [must_t hh]
 generalize givesH h (nth va0 (c.top (manyOf i.op)) 0) (nth va0 (c.top (manyOf i.op)) 1) i=h2 at *
 generalize givesV h (nth va0 (c.top (manyOf i.op)) 0) (nth va0 (c.top (manyOf i.op)) 1) i=v at *
 rcases H with H|⟨H1,H2,H3,H4,H5⟩
 ·rw [if_pos H.stops]
  exact ⟨H.ok,H.ext,H.ty,cm.1,cm.2.1,rfl,fun ho=>Or.inr ⟨(H.thr ho).1,(H.thr ho).2,cm.2.2⟩⟩
 ·have hs:h2.stops=false:=by unfold Hp.stops;rw [H3,H4];rfl
  rw [if_neg (by rw [hs];decide)]
  obtain ⟨p1,p2⟩:=(f0.ext H1).put H5 hk ht (by rw [cm.1];exact hp)
  rw [p1]
  exact ⟨Ok.of H3,H1,H2,cm.1,cm.2.1,rfl,fun _=>Or.inl ⟨H4,p2⟩⟩
theorem mem_l {α:Type} {a b:List α} {P:α→Prop} (h:∀x∈a++b,P x):∀x∈a,P x:=fun x hx=>h x (List.mem_append_left _ hx)
theorem mem_r {α:Type} {a:List α} {y:α} {P:α→Prop} (h:∀x∈a++[y],P x):P y:=h y (by simp)
theorem top0 (c:Cal):c.top 0=[]:=by unfold Cal.top;rw [if_pos (Nat.zero_le _)];simp
theorem cut0 (c:Cal):c.cut 0=c:=by unfold Cal.cut;rw [if_pos (Nat.zero_le _)];simp
theorem has0 (c:Cal):c.has 0=true:=has_le (Nat.zero_le _)
theorem num_fit (h:Hp) {k n:Int} (hk:k=1∨k=2):FitV h ⟨k,0⟩ ⟨k,n⟩:=⟨fun e=>e,fun e=>e,fun e=>by dsimp only at e;omega,fun e=>by dsimp only at e;omega⟩
theorem gives0 {h:Hp} {c:Cal} {s s1:As} {i:In} {t:Ty} {n:Nat} {nl:Int} (g:Hg h) (w:WfA n nl s) (fs:Fits h s c) (hm:manyOf i.op=0) (ht:1≤t.kind∧t.kind≤3) (hp:putT c.m.stack t s=some s1)
  (H:Thrw h (givesH h (nth va0 ([]:List Va) 0) (nth va0 ([]:List Va) 1) i)∨(Ext h (givesH h (nth va0 ([]:List Va) 0) (nth va0 ([]:List Va) 1) i)∧TyH (givesH h (nth va0 ([]:List Va) 0) (nth va0 ([]:List Va) 1) i)∧(givesH h (nth va0 ([]:List Va) 0) (nth va0 ([]:List Va) 1) i).over=false∧(givesH h (nth va0 ([]:List Va) 0) (nth va0 ([]:List Va) 1) i).thrown=-1∧FitV (givesH h (nth va0 ([]:List Va) 0) (nth va0 ([]:List Va) 1) i) t (givesV h (nth va0 ([]:List Va) 0) (nth va0 ([]:List Va) 1) i))) :
  Done h c s1 (givesP h c i) :=
 gives_done g (by rw [hm];exact has0 c) (by rw [hm,cut0];exact fs) (fun x hx=>(w.st x hx).2) ht hp (by rw [hm,top0];exact H)
theorem in_thrw {h:Hp} (g:Hg h):Thrw h h.input'∨(Ext h h.input'∧TyH h.input'∧h.input'.over=false∧h.input'.thrown=-1∧FitV h.input' ⟨2,0⟩ h.inV):=by
 unfold Hp.input' Hp.inV
 by_cases hd:h.dry=true
 ·rw [if_pos hd]
  refine Or.inl ⟨g.ok.fin (by decide),fin_ext h 3,fin_ty g.ty 3,fun ho=>?_⟩
  rw [fin_over'] at ho;exact absurd ho (by decide)
 ·rw [if_neg hd,if_neg hd]
  exact Or.inr ⟨Ext.same rfl rfl,g.ty.same rfl rfl,g.ov,g.th,num_fit _ (Or.inr rfl)⟩
theorem new_thrw {h:Hp} (g:Hg h) {c:Int} (hc:0≤c∧c<h.file.classes.length):Thrw h (h.new c)∨(Ext h (h.new c)∧TyH (h.new c)∧(h.new c).over=false∧(h.new c).thrown=-1∧FitV (h.new c) ⟨3,c⟩ h.newV):=by
 cases ho:(h.new c).over
 ·refine Or.inr ⟨new_ext h c,new_ty g.ty g.may hc,rfl,?_,newV_fit g.may hc ho⟩
  unfold Hp.new;split
  ·rw [fin_thrown];exact g.th
  ·exact g.th
 ·exact Or.inl ⟨new_ok g.ok c,new_ext h c,new_ty g.ty g.may hc,fun hx=>by rw [ho] at hx;exact absurd hx (by decide)⟩
theorem reck_thrw {h:Hp} (g:Hg h) {a b:Va} {k op:Int} (hk:k=1∨k=2) (ha:a.kind=k) (hb:b.kind=k):Thrw h (h.reckH a b k op)∨(Ext h (h.reckH a b k op)∧TyH (h.reckH a b k op)∧(h.reckH a b k op).over=false∧(h.reckH a b k op).thrown=-1∧FitV (h.reckH a b k op) ⟨k,0⟩ (h.reckV a b k op)):=by
 have hm:=g.mustB (b:=ofBoth a b k) (by unfold ofBoth;simp [ha,hb])
 unfold Hp.reckH Hp.reckV
 rw [if_pos hm,if_pos hm]
 split
 ·exact Or.inr ⟨Ext.refl h,g.ty,g.ov,g.th,num_fit _ hk⟩
 ·exact Or.inl (raise_thrw g.ty g.may g.ok (by have:=g.four;omega))
theorem get_thrw {h:Hp} (g:Hg h) {r:Va} {c k:Int} (hc:0≤c∧c<h.file.classes.length) (hk:0≤k∧k<(nth cl0 h.file.classes c.toNat).fields.length) (hr:FitV h ⟨3,c⟩ r) :
  Thrw h (h.findH r c)∨(h.findH r c=h∧0≤r.n∧r.n.toNat<h.objs.length∧∃q:Nat,q<(h.obj r.n).held.length∧h.findN r c k=q∧(nth hel0 (h.obj r.n).held q).cls=c∧(nth hel0 (h.obj r.n).held q).fld=k):=by
 have hof:h.of r ⟨3,c⟩=true:=hr.of (decide_eq_true (Or.inl ⟨rfl,hc.1,hc.2⟩))
 have hm:=g.mustB hof
 unfold Hp.findH Hp.findN
 rw [if_pos hm,if_pos hm]
 by_cases hn:r.n<0
 ·rw [if_pos hn];exact Or.inl (raise_thrw g.ty g.may g.ok (by have:=g.four;omega))
 ·rw [if_neg hn,if_neg hn]
  obtain ⟨h1,h2⟩:=(hr.ref rfl).2 (by omega)
  obtain ⟨C,rfl⟩:∃C:Nat,c=C:=⟨c.toNat,by omega⟩
  obtain ⟨K,rfl⟩:∃K:Nat,k=K:=⟨k.toNat,by omega⟩
  obtain ⟨q,q1,q2,q3,q4⟩:=held_there g.ty (n:=r.n.toNat) (by omega) (c:=C) (k:=K) h2 (by rw [Int.toNat_natCast] at hk;omega)
  exact Or.inr ⟨rfl,by omega,by omega,q,q1,q2,q3,q4⟩
theorem getV_fit {h:Hp} (g:Hg h) {r:Va} {c k:Int} {q:Nat} (hn:r.n.toNat<h.objs.length) (q1:q<(h.obj r.n).held.length) (q2:h.findN r c k=q) (q3:(nth hel0 (h.obj r.n).held q).cls=c) (q4:(nth hel0 (h.obj r.n).held q).fld=k):FitV h (fieldT h.file.classes c k) (h.getV r c k):=by
 unfold Hp.getV
 rw [q2,if_neg (by omega),Int.toNat_natCast]
 have:=g.ty.held r.n.toNat hn (nth hel0 (h.obj r.n).held q) (nth_mem q1)
 rw [q3,q4] at this;exact this
theorem work_safe {h:Hp} {c:Cal} {s s1:As} {i:In} {nm:Nat} (g:Hg h) (w:WfA h.file.classes.length c.locs.length s) (fs:Fits h s c) (ok:InOk h.file.classes nm c.m.code.length c.locs.length i) (hop:i.op≠11∧i.op≠12∧i.op≠13∧i.op≠19∧i.op≠20∧i.op≠21) (hw:workT h.file c.m i s=some s1):Done h c s1 (doesP h c i):=by
 have hns:=g.stops
 obtain ⟨n11,n12,n13,n19,n20,n21⟩:=hop
 have wst:=w.st
 unfold workT at hw
 unfold doesP
 rw [if_neg n11,if_neg n12,if_neg n13,if_neg n21]
 by_cases e4:i.op=4
 ·rw [if_pos e4]
  have o:=ok.slot (Or.inl e4)
  have o2:=ok.kind (Or.inl e4)
  rw [if_neg (by omega),if_neg (by omega),if_neg (by omega),if_pos e4] at hw
  split at hw
  ·rename_i hk
   have hlen:=fs.sl.1
   have hlt:i.a.toNat<s.slots.length:=by omega
   have hv:=fs.sl.2 i.a.toNat hlt
   have hkv:=hv.siz (by omega)
   unfold loadP
   dsimp only
   rw [if_pos (g.mustB (decide_eq_true (hkv.trans hk)))]
   obtain ⟨p1,p2⟩:=fs.put hv (fun x hx=>(wst x hx).2) (by omega) hw
   rw [p1]
   exact ⟨g.ok,Ext.refl h,g.ty,rfl,rfl,rfl,fun _=>Or.inl ⟨g.th,p2⟩⟩
  ·exact absurd hw (by simp)
 rw [if_neg e4]
 by_cases e5:i.op=5
 ·rw [if_pos e5]
  have o:=ok.slot (Or.inr e5)
  have o2:=ok.kind (Or.inr e5)
  rw [if_neg (by omega),if_neg (by omega),if_neg (by omega),if_neg (by omega),if_pos e5,Option.bind_eq_some_iff] at hw
  obtain ⟨p,t1,t2⟩:=hw
  have t2:=Option.some.inj t2
  obtain ⟨a1,a2,a3⟩:=takeK_app t1
  obtain ⟨v,b1,b2,b3,b4,b5,b6,b7⟩:=fs.take1 a1 a2
  have hpk:=(mem_r (a1▸wst)).2
  have hkv:=b3.siz hpk
  unfold storeP
  dsimp only
  rw [must_t b1,b2,must_t (decide_eq_true (hkv.trans a3)),if_pos (g.mustB (decide_eq_true (hkv.trans a3)))]
  have hlen:=fs.sl.1
  subst t2
  refine ⟨g.ok,Ext.refl h,g.ty,b6,b7,rfl,fun _=>Or.inl ⟨g.th,?_⟩⟩
  refine ⟨?_,b4.st,?_⟩
  ·show FitL h (wrT p.2.slots i.a.toNat p.1) (stoP c.locs i.a.toNat v)
   rw [a2]
   exact sto_fit fs.sl w.pair fs.pr (by omega) (fun e=>by omega) hkv (by omega) (by omega) b3
  ·exact stoP_pair fs.pr (by omega) (fun e=>by omega) (by omega)
 rw [if_neg e5]
 by_cases e22:i.op=22
 ·rw [if_pos e22]
  rw [if_neg (by omega),if_neg (by omega),if_neg (by omega),if_neg (by omega),if_neg (by omega),if_pos e22,Option.bind_eq_some_iff] at hw
  obtain ⟨p,t1,t2⟩:=hw
  have t2:=Option.some.inj t2
  obtain ⟨a1,a2⟩:=takeT_app t1
  obtain ⟨v,b1,b2,b3,b4,b5,b6,b7⟩:=fs.take1 a1 a2
  unfold popP
  rw [must_t b1]
  subst t2
  exact ⟨g.ok,Ext.refl h,g.ty,b6,b7,rfl,fun _=>Or.inl ⟨g.th,b4⟩⟩
 rw [if_neg e22]
 by_cases e23:i.op=23
 ·rw [if_pos e23]
  rw [if_neg (by omega),if_neg (by omega),if_neg (by omega),if_neg (by omega),if_neg (by omega),if_neg (by omega),if_pos e23,Option.bind_eq_some_iff] at hw
  obtain ⟨p,t1,t2⟩:=hw
  rw [Option.bind_eq_some_iff] at t2
  obtain ⟨q,t2,t3⟩:=t2
  obtain ⟨a1,a2⟩:=takeT_app t1
  obtain ⟨v,b1,b2,b3,b4,b5,b6,b7⟩:=fs.take1 a1 a2
  have hpk:=(mem_r (a1▸wst)).2
  have hrest:∀x∈p.2.stk,1≤x.kind∧x.kind≤3:=fun x hx=>(mem_l (a1▸wst) x hx).2
  obtain ⟨c1,c2⟩:=b4.put b3 hrest hpk (by rw [b6];exact t2)
  have hq:=(putT_eq t2).1
  obtain ⟨d1,d2⟩:=c2.put b3 (fun x hx=>by
   rw [hq] at hx
   rw [List.mem_append] at hx
   rcases hx with hx|hx
   ·exact hrest x hx
   ·rw [List.mem_singleton] at hx;rw [hx];exact hpk) hpk (by show putT (c.cut 1).m.stack _ _=_;rw [b6];exact t3)
  unfold dupP
  dsimp only
  rw [must_t b1,b2,if_neg (by rw [g.ov];decide),c1,d1]
  exact ⟨g.ok,Ext.refl h,g.ty,b6,b7,rfl,fun _=>Or.inl ⟨g.th,d2⟩⟩
 rw [if_neg e23]
 by_cases e24:i.op=24
 ·rw [if_pos e24]
  rw [if_neg (by omega),if_neg (by omega),if_neg (by omega),if_neg (by omega),if_neg (by omega),if_neg (by omega),if_neg (by omega),if_pos e24,Option.bind_eq_some_iff] at hw
  obtain ⟨p,t1,t2⟩:=hw
  have t2:=Option.some.inj t2
  obtain ⟨a1,a2,a3⟩:=takeK_app t1
  obtain ⟨v,b1,b2,b3,b4,b5,b6,b7⟩:=fs.take1 a1 a2
  have hkv:=b3.siz (mem_r (a1▸wst)).2
  unfold emitP
  dsimp only
  rw [must_t b1,b2,if_neg (by rw [g.ov];decide)]
  unfold Hp.emit
  rw [if_pos (g.mustB (decide_eq_true (hkv.trans a3)))]
  subst t2
  exact ⟨Ok.of g.ov,Ext.same rfl rfl,g.ty.same rfl rfl,b6,b7,rfl,fun _=>Or.inl ⟨g.th,b4.ext (Ext.same rfl rfl)⟩⟩
 rw [if_neg e24]
 by_cases e16:i.op=16
 ·rw [if_pos e16]
  have o:=ok.fld (Or.inr e16)
  rw [if_neg (by omega),if_neg (by omega),if_neg (by omega),if_neg (by omega),if_neg (by omega),if_neg (by omega),if_neg (by omega),if_neg (by omega),if_neg (by omega),if_neg (by omega),if_neg (by omega),if_neg (by omega),if_neg (by omega),if_neg (by omega),if_neg (by omega),if_neg (by omega),if_pos e16,Option.bind_eq_some_iff] at hw
  obtain ⟨p,t1,t2⟩:=hw
  obtain ⟨x,a1,a2,a3⟩:=takeY_app t1
  obtain ⟨y,a4,a5,a6⟩:=takeY_app t2
  obtain ⟨u,v,b1,b2,b3,b4,b5,b6,b7,b8,b9⟩:=fs.take2 a1 a2 a4 a5
  have hfy:tyB h.file.classes.length (fieldT h.file.classes i.a i.b)=true:=may_fldT g.may (by omega) (by omega)
  have hcy:tyB h.file.classes.length ⟨3,i.a⟩=true:=decide_eq_true (Or.inl ⟨rfl,o.1,o.2.1⟩)
  have wx:=mem_r (a1▸wst)
  have wy:=mem_r (a4▸mem_l (a1▸wst))
  have fv:=fit_of g.tree b5 wx.1 hfy a3
  have fu:=fit_of g.tree b4 wy.1 hcy a6
  unfold setP
  dsimp only
  rw [must_t b1,b2,b3,if_neg (by rw [g.ov];decide),if_pos (g.mustB (b:=isRef u) (decide_eq_true (fu.ref rfl).1))]
  unfold Hp.put
  rw [if_pos (g.mustB (fv.of hfy))]
  rcases get_thrw g (k:=i.b) ⟨o.1,o.2.1⟩ ⟨o.2.2.1,o.2.2.2⟩ fu with T|⟨T1,T2,T3,q,q1,q2,q3,q4⟩
  ·by_cases hn:h.findN u i.a i.b<0
   ·rw [if_pos hn]
    exact ⟨T.ok,T.ext,T.ty,b8,b9,rfl,fun ho=>Or.inr ⟨(T.thr ho).1,(T.thr ho).2,b7⟩⟩
   ·exfalso
    -- it is found,so nothing was thrown
    have hm:=g.mustB (fu.of hcy)
    unfold Hp.findN at hn
    rw [if_pos hm] at hn
    by_cases hu:u.n<0
    ·rw [if_pos hu] at hn;omega
    ·have hst:=T.stops
     unfold Hp.findH at hst
     rw [if_pos hm,if_neg hu,hns] at hst
     exact absurd hst (by decide)
  ·rw [q2,if_neg (by omega),T1,Int.toNat_natCast]
   have hset:=setV_ext h u.n.toNat q v
   have hty:=setV_ty g.ty (n:=u.n.toNat) (j:=q) (v:=v) T3 q1 (by
    show FitV h (fieldT h.file.classes (nth hel0 (h.obj u.n).held q).cls (nth hel0 (h.obj u.n).held q).fld) v
    rw [q3,q4];exact fv)
   exact ⟨Ok.of g.ov,hset,hty,b8,b9,rfl,fun _=>Or.inl ⟨g.th,b6.ext hset⟩⟩
 rw [if_neg e16]
 have hov:=g.ov
 by_cases e1:i.op=1
 ·rw [if_pos e1] at hw
  refine gives0 g w fs (by simp [manyOf,e1]) (by decide) hw (Or.inr ?_)
  have eH:givesH h (nth va0 ([]:List Va) 0) (nth va0 ([]:List Va) 1) i=h:=by simp [givesH,hov,e1]
  have eV:givesV h (nth va0 ([]:List Va) 0) (nth va0 ([]:List Va) 1) i=⟨1,i.n⟩:=by simp [givesV,hov,e1]
  rw [eH,eV]
  exact ⟨Ext.refl h,g.ty,g.ov,g.th,num_fit h (Or.inl rfl)⟩
 rw [if_neg e1] at hw
 by_cases e2:i.op=2
 ·rw [if_pos (Or.inl e2)] at hw
  refine gives0 g w fs (by simp [manyOf,e2]) (by decide) hw (Or.inr ?_)
  have eH:givesH h (nth va0 ([]:List Va) 0) (nth va0 ([]:List Va) 1) i=h:=by simp [givesH,hov,e2]
  have eV:givesV h (nth va0 ([]:List Va) 0) (nth va0 ([]:List Va) 1) i=⟨2,i.n⟩:=by simp [givesV,hov,e2]
  rw [eH,eV]
  exact ⟨Ext.refl h,g.ty,g.ov,g.th,num_fit h (Or.inr rfl)⟩
 by_cases e25:i.op=25
 ·rw [if_pos (Or.inr e25)] at hw
  refine gives0 g w fs (by simp [manyOf,e25]) (by decide) hw ?_
  have eH:givesH h (nth va0 ([]:List Va) 0) (nth va0 ([]:List Va) 1) i=h.input':=by simp [givesH,hov,e25]
  have eV:givesV h (nth va0 ([]:List Va) 0) (nth va0 ([]:List Va) 1) i=h.inV:=by simp [givesV,hov,e25]
  rw [eH,eV]
  exact in_thrw g
 rw [if_neg (by omega)] at hw
 by_cases e3:i.op=3
 ·rw [if_pos e3] at hw
  refine gives0 g w fs (by simp [manyOf,e3]) (by decide) hw (Or.inr ?_)
  have eH:givesH h (nth va0 ([]:List Va) 0) (nth va0 ([]:List Va) 1) i=h:=by simp [givesH,hov,e3]
  have eV:givesV h (nth va0 ([]:List Va) 0) (nth va0 ([]:List Va) 1) i=⟨3,-1⟩:=by simp [givesV,hov,e3]
  rw [eH,eV]
  exact ⟨Ext.refl h,g.ty,g.ov,g.th,⟨fun e=>absurd e (by decide),fun e=>absurd e (by decide),fun _=>⟨rfl,fun hn=>absurd hn (by decide)⟩,fun e=>absurd e (by decide)⟩⟩
 rw [if_neg e3,if_neg e4,if_neg e5,if_neg e22,if_neg e23,if_neg e24,if_neg n19] at hw
 -- those that take one,or two
 have one:∀{t:Ty} {p:Ty×As},manyOf i.op=1→1≤t.kind∧t.kind≤3→s.stk=p.2.stk++[p.1]→p.2.slots=s.slots→putT c.m.stack t p.2=some s1 →
   (∀v b,FitV h p.1 v→v.kind=p.1.kind→Thrw h (givesH h v b i)∨(Ext h (givesH h v b i)∧TyH (givesH h v b i)∧(givesH h v b i).over=false∧(givesH h v b i).thrown=-1∧FitV (givesH h v b i) t (givesV h v b i)))→Done h c s1 (givesP h c i):=by
  intro t p hm ht a1 a2 hp H
  obtain ⟨v,b1,b2,b3,b4,b5,b6,b7⟩:=fs.take1 a1 a2
  refine gives_done g (by rw [hm];exact b1) (by rw [hm];exact b4) (fun x hx=>(mem_l (a1▸wst) x hx).2) ht hp ?_
  rw [hm,b2]
  exact H v _ b3 (b3.siz (mem_r (a1▸wst)).2)
 have two:∀{t:Ty} {p q:Ty×As},manyOf i.op=2→1≤t.kind∧t.kind≤3→s.stk=p.2.stk++[p.1]→p.2.slots=s.slots→p.2.stk=q.2.stk++[q.1]→q.2.slots=p.2.slots→putT c.m.stack t q.2=some s1 →
   (∀u v,u.kind=q.1.kind→v.kind=p.1.kind→Thrw h (givesH h u v i)∨(Ext h (givesH h u v i)∧TyH (givesH h u v i)∧(givesH h u v i).over=false∧(givesH h u v i).thrown=-1∧FitV (givesH h u v i) t (givesV h u v i)))→Done h c s1 (givesP h c i):=by
  intro t p q hm ht a1 a2 a3 a4 hp H
  obtain ⟨u,v,b1,b2,b3,b4,b5,b6,b7,b8,b9⟩:=fs.take2 a1 a2 a3 a4
  refine gives_done g (by rw [hm];exact b1) (by rw [hm];exact b6) (fun x hx=>(mem_l (a3▸mem_l (a1▸wst)) x hx).2) ht hp ?_
  rw [hm,b2,b3]
  exact H u v (b4.siz (mem_r (a3▸mem_l (a1▸wst))).2) (b5.siz (mem_r (a1▸wst)).2)
 by_cases e6:i.op=6
 ·rw [if_pos e6,Option.bind_eq_some_iff] at hw
  obtain ⟨p,t1,t2⟩:=hw
  rw [Option.bind_eq_some_iff] at t2
  obtain ⟨q,t2,t3⟩:=t2
  obtain ⟨a1,a2,a3⟩:=takeK_app t1
  obtain ⟨a4,a5,a6⟩:=takeK_app t2
  refine two (by simp [manyOf,e6]) (by decide) a1 a2 a4 a5 t3 (fun u v hu hv=>?_)
  have eH:givesH h u v i=h.reckH u v 1 i.a:=by simp [givesH,hov,e6]
  have eV:givesV h u v i=h.reckV u v 1 i.a:=by simp [givesV,hov,e6]
  rw [eH,eV]
  exact reck_thrw g (Or.inl rfl) (hu.trans a6) (hv.trans a3)
 rw [if_neg e6] at hw
 by_cases e7:i.op=7
 ·rw [if_pos e7,Option.bind_eq_some_iff] at hw
  obtain ⟨p,t1,t2⟩:=hw
  rw [Option.bind_eq_some_iff] at t2
  obtain ⟨q,t2,t3⟩:=t2
  obtain ⟨a1,a2,a3⟩:=takeK_app t1
  obtain ⟨a4,a5,a6⟩:=takeK_app t2
  refine two (by simp [manyOf,e7]) (by decide) a1 a2 a4 a5 t3 (fun u v hu hv=>?_)
  have eH:givesH h u v i=h.reckH u v 2 i.a:=by simp [givesH,hov,e7]
  have eV:givesV h u v i=h.reckV u v 2 i.a:=by simp [givesV,hov,e7]
  rw [eH,eV]
  exact reck_thrw g (Or.inr rfl) (hu.trans a6) (hv.trans a3)
 rw [if_neg e7] at hw
 by_cases e8:i.op=8
 ·rw [if_pos e8,Option.bind_eq_some_iff] at hw
  obtain ⟨p,t1,t2⟩:=hw
  obtain ⟨a1,a2,a3⟩:=takeK_app t1
  refine one (by simp [manyOf,e8]) (by decide) a1 a2 t2 (fun v b fv hv=>Or.inr ?_)
  have eH:givesH h v b i=h:=by simp [givesH,hov,e8,Hp.must,hv,a3]
  have eV:givesV h v b i=⟨2,v.n⟩:=by simp [givesV,hov,e8]
  rw [eH,eV]
  exact ⟨Ext.refl h,g.ty,g.ov,g.th,num_fit h (Or.inr rfl)⟩
 rw [if_neg e8] at hw
 by_cases e9:i.op=9
 ·rw [if_pos e9,Option.bind_eq_some_iff] at hw
  obtain ⟨p,t1,t2⟩:=hw
  obtain ⟨a1,a2,a3⟩:=takeK_app t1
  refine one (by simp [manyOf,e9]) (by decide) a1 a2 t2 (fun v b fv hv=>Or.inr ?_)
  have eH:givesH h v b i=h:=by simp [givesH,hov,e9,Hp.must,hv,a3]
  have eV:givesV h v b i=⟨1,wrap32 v.n⟩:=by simp [givesV,hov,e9]
  rw [eH,eV]
  exact ⟨Ext.refl h,g.ty,g.ov,g.th,num_fit h (Or.inl rfl)⟩
 rw [if_neg e9] at hw
 by_cases e10:i.op=10
 ·rw [if_pos e10,Option.bind_eq_some_iff] at hw
  obtain ⟨p,t1,t2⟩:=hw
  rw [Option.bind_eq_some_iff] at t2
  obtain ⟨q,t2,t3⟩:=t2
  obtain ⟨a1,a2,a3⟩:=takeK_app t1
  obtain ⟨a4,a5,a6⟩:=takeK_app t2
  refine two (by simp [manyOf,e10]) (by decide) a1 a2 a4 a5 t3 (fun u v hu hv=>Or.inr ?_)
  have eH:givesH h u v i=h:=by simp [givesH,hov,e10,Hp.must,ofBoth,hu,hv,a3,a6]
  have eV:givesV h u v i=⟨1,cmpV u.n v.n⟩:=by simp [givesV,hov,e10]
  rw [eH,eV]
  exact ⟨Ext.refl h,g.ty,g.ov,g.th,num_fit h (Or.inl rfl)⟩
 rw [if_neg e10] at hw
 by_cases e14:i.op=14
 ·rw [if_pos e14] at hw
  refine gives0 g w fs (by simp [manyOf,e14]) (by dsimp only;omega) hw ?_
  have eH:givesH h (nth va0 ([]:List Va) 0) (nth va0 ([]:List Va) 1) i=h.new i.a:=by simp [givesH,hov,e14]
  have eV:givesV h (nth va0 ([]:List Va) 0) (nth va0 ([]:List Va) 1) i=h.newV:=by simp [givesV,hov,e14]
  rw [eH,eV]
  exact new_thrw g (ok.cls (Or.inl e14))
 rw [if_neg e14] at hw
 by_cases e15:i.op=15
 ·rw [if_pos e15,Option.bind_eq_some_iff] at hw
  obtain ⟨p,t1,t2⟩:=hw
  obtain ⟨x,a1,a2,a3⟩:=takeY_app t1
  have o:=ok.fld (Or.inl e15)
  have hfy:tyB h.file.classes.length (fieldT h.file.classes i.a i.b)=true:=may_fldT g.may (by omega) (by omega)
  have hcy:tyB h.file.classes.length ⟨3,i.a⟩=true:=decide_eq_true (Or.inl ⟨rfl,o.1,o.2.1⟩)
  refine one (p:=(x,p)) (by simp [manyOf,e15]) (by have:=of_decide_eq_true hfy;omega) a1 a2 t2 (fun v b fv hv=>?_)
  have eH:givesH h v b i=h.findH v i.a:=by simp [givesH,hov,e15]
  have eV:givesV h v b i=h.getV v i.a i.b:=by simp [givesV,hov,e15]
  rw [eH,eV]
  have fu:=fit_of g.tree fv (mem_r (a1▸wst)).1 hcy a3
  rcases get_thrw g (k:=i.b) ⟨o.1,o.2.1⟩ ⟨o.2.2.1,o.2.2.2⟩ fu with T|⟨T1,T2,T3,q,q1,q2,q3,q4⟩
  ·exact Or.inl T
  ·rw [T1]
   exact Or.inr ⟨Ext.refl h,g.ty,g.ov,g.th,getV_fit g T3 q1 q2 q3 q4⟩
 rw [if_neg e15,if_neg e16] at hw
 by_cases e17:i.op=17
 ·rw [if_pos e17,Option.bind_eq_some_iff] at hw
  obtain ⟨p,t1,t2⟩:=hw
  obtain ⟨a1,a2,a3⟩:=takeK_app t1
  have o:=ok.cls (Or.inr (Or.inl e17))
  refine one (by simp [manyOf,e17]) (by dsimp only;omega) a1 a2 t2 (fun v b fv hv=>?_)
  have eH:givesH h v b i=h.cast v i.a:=by simp [givesH,hov,e17]
  have eV:givesV h v b i=v:=by simp [givesV,hov,e17]
  rw [eH,eV]
  unfold Hp.cast
  rw [if_pos (g.mustB (b:=isRef v) (decide_eq_true (hv.trans a3)))]
  split
  ·rename_i hof
   refine Or.inr ⟨Ext.refl h,g.ty,g.ov,g.th,⟨fun e=>by dsimp only at e;omega,fun e=>by dsimp only at e;omega,fun _=>⟨hv.trans a3,fun hn=>?_⟩,fun e=>by dsimp only at e;omega⟩⟩
   have hlt:=((fv.ref a3).2 hn).1
   refine ⟨hlt,?_⟩
   unfold Hp.of at hof
   simp at hof
   rcases hof.2 with h2|h2
   ·omega
   ·exact h2
  ·exact Or.inl (raise_thrw g.ty g.may g.ok (by have:=g.four;omega))
 rw [if_neg e17] at hw
 by_cases e18:i.op=18
 ·rw [if_pos e18,Option.bind_eq_some_iff] at hw
  obtain ⟨p,t1,t2⟩:=hw
  obtain ⟨a1,a2,a3⟩:=takeK_app t1
  refine one (by simp [manyOf,e18]) (by decide) a1 a2 t2 (fun v b fv hv=>Or.inr ?_)
  have eH:givesH h v b i=h:=by simp [givesH,hov,e18,Hp.must,isRef,hv,a3]
  have eV:givesV h v b i=h.isV v i.a:=by simp [givesV,hov,e18]
  rw [eH,eV]
  unfold Hp.isV
  exact ⟨Ext.refl h,g.ty,g.ov,g.th,num_fit h (Or.inl rfl)⟩
 have:=ok.op
 omega
structure LeftS (h:Hp) (ret:Ty) (r:Hp×Va):Prop where
 ok:Ok r.1
 ext:Ext h r.1
 ty:TyH r.1
 fuel:r.1.fuel=h.fuel
 steps:h.sh.steps≤r.1.sh.steps
 go:r.1.over=false→(r.1.thrown=-1∧(ret.kind≠0→FitV r.1 ret r.2))∨(0≤r.1.thrown∧r.1.thrown<r.1.objs.length)
def SoundS (f:Fi) (m:Me) (st:List (Option As)):Prop:=st.length=m.code.length∧(∀k s,nth none st k=some s→WfA f.classes.length m.locs s∧StepAt f m st k s)
structure Checked (f:Fi):Prop where
 may:mayB f.classes=true
 me:∀m∈f.methods,smeB f.classes f.methods.length m=true
 sound:∀m∈f.methods,SoundM f m
structure At (f:Fi) (st:List (Option As)) (h:Hp) (c:Cal):Prop where
 file:h.file=f
 hg:Hg h
 m:c.m∈f.methods
 sound:SoundS f c.m st
 lead:∃s,Leads f.classes st c.pc s∧Fits h s c
 len:(c.locs.length:Int)=c.m.locs
def GoS (f:Fi) (n:Nat) (go:Hp→Cal→Hp×Va):Prop:=∀st h c,At f st h c→h.fuel-h.sh.steps≤n→LeftS h c.m.ret (go h c)
theorem leave_ext (h:Hp):Ext h h.leave:=Ext.same rfl rfl
theorem leave_ty {h:Hp} (t:TyH h):TyH h.leave:=t.same rfl rfl
theorem LeftS.leave {h h1:Hp} {ret:Ty} {v:Va} (ok:Ok h1) (e:Ext h h1) (t:TyH h1) (hf:h1.fuel=h.fuel) (hs:h.sh.steps≤h1.sh.steps) (go:h1.over=false→(h1.thrown=-1∧(ret.kind≠0→FitV h1 ret v))∨(0≤h1.thrown∧h1.thrown<h1.objs.length)):LeftS h ret (h1.leave,v) :=
 ⟨ok,e.trans (leave_ext h1),leave_ty t,hf,hs,fun ho=>(go ho).elim (fun x=>Or.inl ⟨x.1,fun hk=>(x.2 hk).ext (leave_ext h1)⟩) Or.inr⟩
theorem LeftS.from {h h1:Hp} {ret:Ty} {r:Hp×Va} (e:Ext h h1) (hf:h1.fuel=h.fuel) (hs:h.sh.steps≤h1.sh.steps) (k:LeftS h1 ret r):LeftS h ret r:=⟨k.ok,e.trans k.ext,k.ty,k.fuel.trans hf,Int.le_trans hs k.steps,k.go⟩
theorem does_leS (h:Hp) (c:Cal) (i:In):Le h (doesP h c i).h:=by
 have t:∀k,Le h (h.must (c.has k)):=fun k=>must_le h _
 unfold doesP
 split;exact Le.refl h
 split;exact (t 1).trans (must_le _ _)
 split;exact (t 1).trans (must_le _ _)
 split
 ·unfold thrP;dsimp only;split;exact t 1;exact (t 1).trans (throw_le _ _)
 split
 ·unfold loadP;dsimp only;split;exact putH_le _ _ _;exact must_le _ _
 split;exact (t 1).trans (must_le _ _)
 split;exact t 1
 split
 ·unfold dupP;dsimp only;split;exact t 1;exact ((t 1).trans (putH_le _ _ _)).trans (putH_le _ _ _)
 split
 ·unfold emitP;dsimp only;split;exact t 1;exact (t 1).trans (emit_le _ _ _)
 split
 ·unfold setP;dsimp only;split;exact t 2;split;exact (t 2).trans (put_le _ _ _ _ _);exact (t 2).trans (must_le _ _)
 ·unfold givesP;dsimp only;split;exact (t _).trans (givesH_le _ _ _ _);exact ((t _).trans (givesH_le _ _ _ _)).trans (putH_le _ _ _)
structure Went (f:Fi) (st:List (Option As)) (h:Hp) (c:Cal) (s:As) (d:Did):Prop where
 ok:Ok d.h
 ext:Ext h d.h
 ty:TyH d.h
 m:d.c.m=c.m
 pc:d.c.pc=c.pc
 fuel:d.h.fuel=h.fuel
 steps:h.sh.steps≤d.h.sh.steps
 len:d.c.locs.length=c.locs.length
 go:d.h.over=false→(d.h.thrown=-1∧∃s1,Leads f.classes st d.nx s1∧Fits d.h s1 d.c)∨(0≤d.h.thrown∧d.h.thrown<d.h.objs.length∧d.c.locs=c.locs)
theorem Leads.at' {cs:List Cl} {st:List (Option As)} {t:Int} {s:As} (l:Leads cs st t s):∃u,nth none st t.toNat=some u∧leA cs s u:=l.2.2
theorem caught_hd {h:Hp} {pc:Int}:∀l:List Hd,0≤h.caughtL pc l→∃x∈l,h.fits x pc=true∧h.caughtL pc l=x.pc
 | [],hc=>by unfold Hp.caughtL at hc;omega
 | x::l,hc=>by
  unfold Hp.caughtL at hc ⊢
  split at hc
  ·rename_i hx
   exact ⟨x,List.mem_cons_self ..,hx,by rw [if_pos hx]⟩
  ·rename_i hx
   obtain ⟨y,h1,h2,h3⟩:=caught_hd l hc
   exact ⟨y,List.mem_cons_of_mem _ h1,h2,by rw [if_neg hx];exact h3⟩
theorem next_safe {f:Fi} {n:Nat} {go:Hp→Cal→Hp×Va} (G:GoS f n go) (hck:∀m∈f.methods,smeB f.classes f.methods.length m=true) {st:List (Option As)} {h:Hp} {c:Cal} {s:As} {d:Did} (a:At f st h c) (w:Went f st h c s d) (fs:Fits h s c) (hpc:0≤c.pc) (hs:StepAt f c.m st c.pc.toNat s) (hn:d.h.fuel-d.h.sh.steps≤n):LeftS h c.m.ret (nextP go d):=by
 have hme:=smeP (hck c.m a.m)
 have hfd:d.h.file=f:=w.ext.file.trans a.file
 unfold nextP
 split
 ·rename_i ho
  exact LeftS.leave w.ok w.ext w.ty w.fuel w.steps (fun hx=>by rw [ho] at hx;exact absurd hx (by decide))
 ·rename_i ho
  have ho':d.h.over=false:=by simpa using ho
  split
  ·rename_i ht
   rcases w.go ho' with ⟨g1,-⟩|⟨g1,g2,g3⟩
   ·omega
   split
   ·exact LeftS.leave w.ok w.ext w.ty w.fuel w.steps (fun _=>Or.inr ⟨g1,g2⟩)
   ·rename_i hc
    obtain ⟨x,x1,x2,x3⟩:=caught_hd (h:=d.h) (pc:=d.c.pc) d.c.m.hands (by omega)
    rw [w.m] at x1
    unfold Hp.fits at x2
    rw [Bool.and_eq_true,Bool.and_eq_true,decide_eq_true_eq,decide_eq_true_eq,w.pc] at x2
    obtain ⟨hst,hl⟩:=hs.hands x x1 (by omega) (by omega)
    have hx:=of_decide_eq_true (hme.2.2.2.2.2.2.2.2.2.1 x x1)
    have e1:Ext d.h { d.h with thrown:=-1 }:=Ext.same rfl rfl
    have hg1:Hg { d.h with thrown:=-1 }:=⟨by show mayB d.h.file.classes=true;rw [hfd,←a.file];exact a.hg.may,w.ty.same rfl rfl,ho',rfl⟩
    have fv:FitV { d.h with thrown:=-1 } ⟨3,x.cls⟩ ⟨3,d.h.thrown⟩:=⟨fun e=>by dsimp only at e;omega,fun e=>by dsimp only at e;omega,fun _=>⟨rfl,fun _=>⟨g2,x2.2.2⟩⟩,fun e=>by dsimp only at e;omega⟩
    have f0:Fits { d.h with thrown:=-1 } ⟨s.slots,[]⟩ { d.c with stk:=[] }:=⟨by show FitL _ s.slots d.c.locs;rw [g3];exact (fs.sl.ext w.ext).ext e1,FitL.nil _,by show PairV d.c.locs;rw [g3];exact fs.pr⟩
    obtain ⟨p1,p2⟩:=f0.put (t:=⟨3,x.cls⟩) (s1:=⟨s.slots,[⟨3,x.cls⟩]⟩) fv (fun y hy=>by simp at hy) (by dsimp only;omega) (by
     show putT d.c.m.stack _ _=_
     unfold putT
     rw [if_pos (by rw [w.m];show ((slotsN [(⟨3,x.cls⟩:Ty)]:Nat):Int)≤_;simp [slotsN];omega)]
     rfl)
    rw [p1]
    have hret:d.c.m.ret=c.m.ret:=by rw [w.m]
    refine LeftS.from (w.ext.trans e1) w.fuel w.steps ?_
    have r:=G st { d.h with thrown:=-1 } { (({ d.c with stk:=[] }:Cal).put ⟨3,d.h.thrown⟩) with pc:=d.h.caughtL d.c.pc d.c.m.hands } ⟨hfd,hg1,by show d.c.m∈_;rw [w.m];exact a.m,by show SoundS f d.c.m st;rw [w.m];exact a.sound,⟨⟨s.slots,[⟨3,x.cls⟩]⟩,by show Leads _ _ (d.h.caughtL d.c.pc d.c.m.hands) _;rw [x3];exact hl,p2.at' _⟩,by show (d.c.locs.length:Int)=d.c.m.locs;rw [w.m,w.len];exact a.len⟩ hn
    have r:LeftS { d.h with thrown:=-1 } d.c.m.ret _:=r
    rw [hret] at r
    exact r
  ·rename_i ht
   rcases w.go ho' with ⟨g1,s1,g2,g3⟩|⟨g1,-⟩
   ·refine LeftS.from w.ext w.fuel w.steps ?_
    have hg1:Hg d.h:=⟨by rw [hfd,←a.file];exact a.hg.may,w.ty,ho',g1⟩
    have r:=G st d.h { d.c with pc:=d.nx } ⟨hfd,hg1,by show d.c.m∈_;rw [w.m];exact a.m,by show SoundS f d.c.m st;rw [w.m];exact a.sound,⟨s1,g2,g3.at' _⟩,by show (d.c.locs.length:Int)=d.c.m.locs;rw [w.m,w.len];exact a.len⟩ hn
    have r:LeftS d.h d.c.m.ret _:=r
    rw [w.m] at r
    exact r
   ·omega
end Go.Proofs.YtgiiapenmjollaaGreat
