import Derived.Test.YtgiiapenmjollaaSlbw
import Derived.Test.YtgiiapenmjollaaSlbx
namespace Go.Proofs.Ytgiiapenmjollaa
set_option linter.all false
set_option maxHeartbeats 40000000
open Go.RowKit
theorem smay_cls {f:Fi} (h:mayB f.classes=false):smayB f=false:=by unfold smayB;rw [h];rfl
theorem smay_many {f:Fi} (h:¬(1≤f.methods.length∧f.methods.length≤8)):smayB f=false:=by unfold smayB;rw [decide_eq_false h,Bool.and_false];rfl
theorem smay_me {f:Fi} {q:Nat} (hq:q<f.methods.length) (h:smeB f.classes f.methods.length (nth me0 f.methods q)=false):smayB f=false:=by
 unfold smayB;rw [all_bad hq h,Bool.and_false]
theorem smay_good {f:Fi} (h0:mayB f.classes=true) (h:1≤f.methods.length∧f.methods.length≤8)
  (hi:∀q,q<f.methods.length→smeB f.classes f.methods.length (nth me0 f.methods q)=true):smayB f=true:=by
 unfold smayB;rw [h0,decide_eq_true h,all_good hi];rfl
theorem FiBox.new (w:World) (nc nm:Nat) (A B:Option Addr) (x y:Nat):FiBox (w.alloc (fiO nc nm A B x y)) w.heap.size 0 nc nm A B x y:=⟨cell_of_new rfl,cell_of_new rfl⟩
structure SCells3 (w:World) (b:Nat) (nc nm:Nat) (A B:Option Addr) (x y:Nat) (m:Me) (P C K:Option Addr) (p c k:Nat) (i:In) (Q:Option Addr) (q:Nat):Prop where
 f0:w.cell? ⟨b,0,none⟩=some (.slice A nc x)
 f1:w.cell? ⟨b,1,none⟩=some (.slice B nm y)
 m:MeCells w (b+1) m P C K p c k
 i0:w.cell? ⟨b+1+1,0,none⟩=some (.int .i64 i.op)
 i1:w.cell? ⟨b+1+1,1,none⟩=some (.int .i64 i.a)
 i2:w.cell? ⟨b+1+1,2,none⟩=some (.int .i64 i.b)
 i3:w.cell? ⟨b+1+1,3,none⟩=some (.int .i64 i.c)
 i4:w.cell? ⟨b+1+1,4,none⟩=some (.int .i64 i.n)
 i5:w.cell? ⟨b+1+1,5,none⟩=some (.slice Q i.args.length q)
theorem SCells3.bl {w w':World} (h:Bl w w') {b nc nm:Nat} {A B:Option Addr} {x y:Nat} {m:Me} {P C K:Option Addr} {p c k:Nat} {i:In} {Q:Option Addr} {q:Nat}
  (hb:SCells3 w b nc nm A B x y m P C K p c k i Q q):SCells3 w' b nc nm A B x y m P C K p c k i Q q :=
 ⟨h.cell hb.f0,h.cell hb.f1,hb.m.bl h,h.cell hb.i0,h.cell hb.i1,h.cell hb.i2,h.cell hb.i3,h.cell hb.i4,h.cell hb.i5⟩
abbrev W3 (w:World) (nc nm:Nat) (A B:Option Addr) (x y:Nat) (m:Me) (P C K:Option Addr) (p c k:Nat) (i:In) (Q:Option Addr) (q:Nat):World :=
 ((w.alloc (fiO nc nm A B x y)).alloc (meO m P C K p c k)).alloc (inO i Q q)
theorem SCells3.new (w:World) (nc nm:Nat) (A B:Option Addr) (x y:Nat) (m:Me) (P C K:Option Addr) (p c k:Nat) (i:In) (Q:Option Addr) (q:Nat) :
  SCells3 (W3 w nc nm A B x y m P C K p c k i Q q) w.heap.size nc nm A B x y m P C K p c k i Q q:=by
 have h1:(w.alloc (fiO nc nm A B x y)).heap.size=w.heap.size+1:=World.size_alloc ..
 have h2:((w.alloc (fiO nc nm A B x y)).alloc (meO m P C K p c k)).heap.size=w.heap.size+1+1:=by rw [World.size_alloc,World.size_alloc]
 have b2:Bl (w.alloc (fiO nc nm A B x y)) (W3 w nc nm A B x y m P C K p c k i Q q):=((Bl.refl _).alloc _).alloc _
 have b3:Bl ((w.alloc (fiO nc nm A B x y)).alloc (meO m P C K p c k)) (W3 w nc nm A B x y m P C K p c k i Q q):=(Bl.refl _).alloc _
 have hm:=(MeCells.new (w.alloc (fiO nc nm A B x y)) m P C K p c k).bl b3
 rw [h1] at hm
 refine ⟨b2.cell (cell_of_new rfl),b2.cell (cell_of_new rfl),hm,?_,?_,?_,?_,?_,?_⟩<;>rw [←h2]<;>exact cell_of_new rfl
set_option maxRecDepth 100000 in
theorem mayIns_any (i:In) (cs:List Cl) (nm:Nat) (A B:Option Addr) (x y:Nat) (m:Me) (P C K:Option Addr) (p c k:Nat) (Q:Option Addr) (q:Nat) (w:World) (hlo:0≤m.locs) (hhi:m.locs≤60) (hl:ClsAt w A cs) (hnm:nm≤maxLen) (hcode:m.code.length≤maxLen) (hargs:i.args.length≤maxLen) :
  Calls Try.prog 64 #[fiV cs.length nm A B x y,meV m P C K p c k,inV i Q q] w fun e w'=>e=.returned (.bool (sinB cs nm m.code.length m.locs i))∧Bl w w':=by
 have HL:Hid (ClsAt w A cs):=hl
 have hnc:=hl.1
 have HAL:Hid (Bl w (W3 w cs.length nm A B x y m P C K p c k i Q q)):=(((Bl.refl _).alloc _).alloc _).alloc _
 have HBX:Hid (SCells3 (W3 w cs.length nm A B x y m P C K p c k i Q q) w.heap.size cs.length nm A B x y m P C K p c k i Q q):=SCells3.new ..
 clear hl
 unfold maxLen at hargs
 rw [sin_fields]
 by_cases h1:1≤i.op∧i.op≤25
 ·have d1:decide (1≤i.op∧i.op≤25)=true:=decide_eq_true h1
  rw [d1,Bool.true_and]
  cases ha:aB cs.length nm m.code.length m.locs i
  ·rw [Bool.false_and]
   go_enter Try.func64,Try.ntmps64
   go_wp2_with (first
    | (go_at_call 37;refine (span_any _ _ _ _).mono ?_;rintro e w0 ⟨he,hw0⟩;rw [d1] at he;subst he;rw [hw0];clear hw0 w0)
    | (go_at_call 83;refine (mayA_any i _ _ _ _ _ _ m _ _ _ _ _ _ _ _ _ hlo hhi hnc hnm hcode).mono ?_;rintro e w1 ⟨he,g1⟩;rw [ha] at he;subst he))
   go_ret
   exact ⟨rfl,HAL.out.trans g1⟩
  ·rw [Bool.true_and]
   cases hb:bB cs i
   ·rw [Bool.false_and]
    go_enter Try.func64,Try.ntmps64
    go_wp2_with (first
     | (go_at_call 37;refine (span_any _ _ _ _).mono ?_;rintro e w0 ⟨he,hw0⟩;rw [d1] at he;subst he;rw [hw0];clear hw0 w0)
     | (go_at_call 83;refine (mayA_any i _ _ _ _ _ _ m _ _ _ _ _ _ _ _ _ hlo hhi hnc hnm hcode).mono ?_;rintro e w1 ⟨he,g1⟩;rw [ha] at he;subst he;obtain ⟨e0,e1,-,a0,a1,a2,a3,a4,a5⟩:=HBX.out.bl g1)
     | (go_at_call 84;refine (mayB_any i _ _ _ _ _ _ _ _ _ (HL.out.bl (HAL.out.trans g1))).mono ?_;rintro e w2 ⟨he,g2⟩;rw [hb] at he;subst he))
    go_ret
    exact ⟨rfl,(HAL.out.trans g1).trans g2⟩
   ·rw [Bool.true_and]
    by_cases hc:i.c=0
    ·have dc:(i.c==0)=true:=by simpa using hc
     have HC:Hid (i.c=0):=hc
     rw [decide_eq_true hc,Bool.true_and]
     clear hc
     cases hn:nB i
     ·rw [Bool.false_and]
      go_enter Try.func64,Try.ntmps64
      go_wp2_with (first
       | (go_at_call 37;refine (span_any _ _ _ _).mono ?_;rintro e w0 ⟨he,hw0⟩;rw [d1] at he;subst he;rw [hw0];clear hw0 w0)
       | (go_at_call 83;refine (mayA_any i _ _ _ _ _ _ m _ _ _ _ _ _ _ _ _ hlo hhi hnc hnm hcode).mono ?_;rintro e w1 ⟨he,g1⟩;rw [ha] at he;subst he;obtain ⟨e0,e1,-,a0,a1,a2,a3,a4,a5⟩:=HBX.out.bl g1)
       | (go_at_call 84;refine (mayB_any i _ _ _ _ _ _ _ _ _ (HL.out.bl (HAL.out.trans g1))).mono ?_;rintro e w2 ⟨he,g2⟩;rw [hb] at he;subst he;obtain ⟨-,-,-,b0,b1,b2,b3,b4,b5⟩:=HBX.out.bl (g1.trans g2))
       | (go_at_call 85;refine (mayN_any i _ _ _).mono ?_;rintro e w3 ⟨he,g3⟩;rw [hn] at he;subst he))
      go_ret
      exact ⟨rfl,((HAL.out.trans g1).trans g2).trans g3⟩
     ·rw [Bool.true_and]
      have hfin:decide (i.args.length=0)=((i.args.length:Int)==0):=by rw [Bool.eq_iff_iff];simp
      rw [hfin]
      clear hfin
      go_enter Try.func64,Try.ntmps64
      go_wp2_with (first
       | (go_at_call 37;refine (span_any _ _ _ _).mono ?_;rintro e w0 ⟨he,hw0⟩;rw [d1] at he;subst he;rw [hw0];clear hw0 w0)
       | (go_at_call 83;refine (mayA_any i _ _ _ _ _ _ m _ _ _ _ _ _ _ _ _ hlo hhi hnc hnm hcode).mono ?_;rintro e w1 ⟨he,g1⟩;rw [ha] at he;subst he;obtain ⟨e0,e1,-,a0,a1,a2,a3,a4,a5⟩:=HBX.out.bl g1)
       | (go_at_call 84;refine (mayB_any i _ _ _ _ _ _ _ _ _ (HL.out.bl (HAL.out.trans g1))).mono ?_;rintro e w2 ⟨he,g2⟩;rw [hb] at he;subst he;obtain ⟨-,-,-,b0,b1,b2,b3,b4,b5⟩:=HBX.out.bl (g1.trans g2))
       | (go_at_call 85;refine (mayN_any i _ _ _).mono ?_;rintro e w3 ⟨he,g3⟩;rw [hn] at he;subst he;obtain ⟨-,-,-,-,-,-,-,-,c5⟩:=HBX.out.bl ((g1.trans g2).trans g3)))
      all_goals
       go_ret
       exact ⟨ret_bool (by simp [*]),((HAL.out.trans g1).trans g2).trans g3⟩
    ·have dc:(i.c==0)=false:=by simpa using hc
     rw [decide_eq_false hc,Bool.false_and]
     clear hc
     go_enter Try.func64,Try.ntmps64
     go_wp2_with (first
      | (go_at_call 37;refine (span_any _ _ _ _).mono ?_;rintro e w0 ⟨he,hw0⟩;rw [d1] at he;subst he;rw [hw0];clear hw0 w0)
      | (go_at_call 83;refine (mayA_any i _ _ _ _ _ _ m _ _ _ _ _ _ _ _ _ hlo hhi hnc hnm hcode).mono ?_;rintro e w1 ⟨he,g1⟩;rw [ha] at he;subst he;obtain ⟨e0,e1,-,a0,a1,a2,a3,a4,a5⟩:=HBX.out.bl g1)
      | (go_at_call 84;refine (mayB_any i _ _ _ _ _ _ _ _ _ (HL.out.bl (HAL.out.trans g1))).mono ?_;rintro e w2 ⟨he,g2⟩;rw [hb] at he;subst he;obtain ⟨-,-,-,b0,b1,b2,b3,b4,b5⟩:=HBX.out.bl (g1.trans g2)))
     go_ret
     exact ⟨rfl,(HAL.out.trans g1).trans g2⟩
 ·have d1:decide (1≤i.op∧i.op≤25)=false:=decide_eq_false h1
  rw [d1,Bool.false_and]
  go_enter Try.func64,Try.ntmps64
  go_wp2_with (go_at_call 37;refine (span_any _ _ _ _).mono ?_;rintro e w0 ⟨he,hw0⟩;rw [d1] at he;subst he;rw [hw0];clear hw0 w0)
  go_ret
  exact ⟨rfl,HAL.out⟩
theorem kinds_there {nc:Nat} {l:List Ty} (h:l.all (tyB nc)=true):∀k,k<l.length→(nth ty0 l k).kind≠0:=by
 intro k hk
 have:=(List.all_eq_true.1 h) _ (nth_mem (d:=ty0) hk)
 unfold tyB at this
 rw [decide_eq_true_eq] at this
 omega
theorem mayRoom_any (m:Me) (P C K:Option Addr) (p c k:Nat) (w:World) (hP:TysAt w P m.params) (h4:m.params.length≤4) (hk:∀k,k<m.params.length→(nth ty0 m.params k).kind≠0) :
  Calls Try.prog 45 #[meV m P C K p c k] w fun e w'=>e=.returned (.bool (roomB m))∧Bl w w':=by
 have hal:Bl w (w.alloc (meO m P C K p c k)):=(Bl.refl _).alloc _
 have XP:Hid (∀x:Fut (w.alloc (meO m P C K p c k)),TysAt x.to P m.params):=fun x=>hP.bl (hal.trans x.is)
 have HK:Hid (∀k,k<m.params.length→(nth ty0 m.params k).kind≠0):=hk
 obtain ⟨x0,x1,x2,x3,x4,x5,x6,x7⟩:=MeCells.new w m P C K p c k
 have y0:=fut_cell x0
 have y3:=fut_cell x3
 have y4:=fut_cell x4
 have y5:=fut_cell x5
 clear x0 x1 x2 x3 x4 x5 x6 x7 hP hk
 unfold roomB
 by_cases hr:m.regs=0
 ·have hr':(m.regs==0)=true:=by simpa using hr
  rw [decide_eq_true hr,Bool.true_and]
  clear hr
  by_cases hs:0≤m.stack∧m.stack≤30
  ·have ds:decide (0≤m.stack∧m.stack≤30)=true:=decide_eq_true hs
   rw [ds,Bool.true_and]
   obtain ⟨R,hR⟩:∃R,decide ((slotsN m.params:Int)≤m.locs∧m.locs≤60)=R:=⟨_,rfl⟩
   rw [hR]
   go_enter Try.func45,Try.ntmps45
   go_wp2
   refine wp_region_fut (by kernel_rfl) (by kernel_rfl) fun hne=>?_
   repeat (go_big_quiet_step (first
    | (go_at_call 63;exact Calls.fut _ (slots_any _ _ _ _ (XP.out _) (by omega) HK.out))
    | (go_at_call 37;exact Calls.fut_same_eq _ (span_any _ _ _ _) (congrArg Value.bool (by first|exact ds|exact hR)))))
   refine wpQuiet_nil ?_
   rintro _ ⟨⟨w2,hw2⟩,rfl⟩
   go_wp2
   go_ret
   exact ⟨rfl,hal.trans hw2⟩
  ·have ds:decide (0≤m.stack∧m.stack≤30)=false:=decide_eq_false hs
   rw [ds,Bool.false_and]
   go_enter Try.func45,Try.ntmps45
   go_wp2
   refine wp_region_fut (by kernel_rfl) (by kernel_rfl) fun hne=>?_
   repeat (go_big_quiet_step (first
    | (go_at_call 63;exact Calls.fut _ (slots_any _ _ _ _ (XP.out _) (by omega) HK.out))
    | (go_at_call 37;exact Calls.fut_same_eq _ (span_any _ _ _ _) (congrArg Value.bool ds))))
   refine wpQuiet_nil ?_
   rintro _ ⟨⟨w2,hw2⟩,rfl⟩
   go_wp2
   go_ret
   exact ⟨rfl,hal.trans hw2⟩
 ·have hr':(m.regs==0)=false:=by simpa using hr
  rw [decide_eq_false hr,Bool.false_and]
  go_enter Try.func45,Try.ntmps45
  go_wp2
  refine wp_region_fut (by kernel_rfl) (by kernel_rfl) fun hne=>?_
  repeat (go_big_quiet_step (first
   | (go_at_call 63;exact Calls.fut _ (slots_any _ _ _ _ (XP.out _) (by omega) HK.out))
   | (go_at_call 37;exact Calls.fut_same _ (span_any _ _ _ _))))
  refine wpQuiet_nil ?_
  rintro _ ⟨⟨w2,hw2⟩,rfl⟩
  go_wp2
  go_ret
  exact ⟨rfl,hal.trans hw2⟩
structure SCells2 (w:World) (b:Nat) (nc nm:Nat) (A B:Option Addr) (x y:Nat) (m:Me) (P C K:Option Addr) (p c k:Nat):Prop where
 f0:w.cell? ⟨b,0,none⟩=some (.slice A nc x)
 f1:w.cell? ⟨b,1,none⟩=some (.slice B nm y)
 m:MeCells w (b+1) m P C K p c k
theorem SCells2.bl {w w':World} (h:Bl w w') {b nc nm:Nat} {A B:Option Addr} {x y:Nat} {m:Me} {P C K:Option Addr} {p c k:Nat}
  (hb:SCells2 w b nc nm A B x y m P C K p c k):SCells2 w' b nc nm A B x y m P C K p c k:=⟨h.cell hb.f0,h.cell hb.f1,hb.m.bl h⟩
theorem SCells2.new (w:World) (nc nm:Nat) (A B:Option Addr) (x y:Nat) (m:Me) (P C K:Option Addr) (p c k:Nat) :
  SCells2 ((w.alloc (fiO nc nm A B x y)).alloc (meO m P C K p c k)) w.heap.size nc nm A B x y m P C K p c k:=by
 have b2:Bl (w.alloc (fiO nc nm A B x y)) ((w.alloc (fiO nc nm A B x y)).alloc (meO m P C K p c k)):=(Bl.refl _).alloc _
 have hm:=MeCells.new (w.alloc (fiO nc nm A B x y)) m P C K p c k
 rw [World.size_alloc] at hm
 exact ⟨b2.cell (cell_of_new rfl),b2.cell (cell_of_new rfl),hm⟩
set_option maxRecDepth 100000 in
theorem mayCode_any (cs:List Cl) (nm:Nat) (A B:Option Addr) (x y:Nat) (m:Me) (P C K:Option Addr) (p c k:Nat) (w:World) (hlo:0≤m.locs) (hhi:m.locs≤60) (hl:ClsAt w A cs) (hnm:nm≤maxLen) (hC:InsAt w C m.code) :
  Calls Try.prog 46 #[fiV cs.length nm A B x y,meV m P C K p c k] w fun e w'=>e=.returned (.bool (codeB cs nm m))∧Bl w w':=by
 have HL:Hid (ClsAt w A cs):=hl
 have HC:Hid (InsAt w C m.code):=hC
 have hcode:=hC.1
 have HCODE:Hid (m.code.length≤maxLen):=hcode
 have HNM:Hid (nm≤maxLen):=hnm
 have HAL:Hid (Bl w ((w.alloc (fiO cs.length nm A B x y)).alloc (meO m P C K p c k))):=((Bl.refl _).alloc _).alloc _
 have HBX:Hid (SCells2 ((w.alloc (fiO cs.length nm A B x y)).alloc (meO m P C K p c k)) w.heap.size cs.length nm A B x y m P C K p c k):=SCells2.new ..
 clear hl hC hnm
 unfold maxLen at hcode
 unfold codeB
 by_cases h1:1≤(m.code.length:Int)∧(m.code.length:Int)≤400
 ·have d1:decide (1≤(m.code.length:Int)∧(m.code.length:Int)≤400)=true:=decide_eq_true h1
  rw [d1,Bool.true_and]
  have HG:Hid ((∀q,q<m.code.length→sinB cs nm m.code.length m.locs (nth in0 m.code q)=true)→m.code.all (sinB cs nm m.code.length m.locs)=true):=all_good
  have HB:Hid (∀q,q<m.code.length→sinB cs nm m.code.length m.locs (nth in0 m.code q)=false→m.code.all (sinB cs nm m.code.length m.locs)=false):=fun q=>all_bad
  obtain ⟨R,hR⟩:∃R,m.code.all (sinB cs nm m.code.length m.locs)=R:=⟨_,rfl⟩
  rw [hR] at HG HB ⊢
  clear hR
  go_enter Try.func46,Try.ntmps46
  go_wp2_with (go_at_call 37;refine (span_any _ _ _ _).mono ?_;rintro e w0 ⟨he,hw0⟩;rw [d1] at he;subst he;rw [hw0];clear hw0 w0)
  go_loopw [15] (fun i wr=>∃q:Nat,q≤m.code.length∧i=.int .i64 q∧Hid (∀j,j<q→sinB cs nm m.code.length m.locs (nth in0 m.code j)=true)∧Hid (Bl w wr)∧Hid (SCells2 wr w.heap.size cs.length nm A B x y m P C K p c k)) (fun i _=>m.code.length-(intOf i).toNat)
  case atStart=>exact ⟨0,Nat.zero_le _,rfl,fun j hj=>absurd hj (Nat.not_lt_zero _),HAL.out,HBX.out⟩
  case round =>
   clear HBX HAL
   obtain ⟨q,hq,rfl,hgq,hg,HBX⟩:=hrel
   by_cases hql:q<m.code.length
   ·rcases HC.out.2 with h0|⟨b,off,rfl,hcell⟩
    ·omega
    obtain ⟨c0,c1,c2,c3,c4,-,Q',q',c5,hq5⟩:=hcell q hql
    replace c0:=hg.out.cell c0
    replace c1:=hg.out.cell c1
    replace c2:=hg.out.cell c2
    replace c3:=hg.out.cell c3
    replace c4:=hg.out.cell c4
    replace c5:=hg.out.cell c5
    have HA:Hid ((nth in0 m.code q).args.length≤maxLen):=hq5.1
    have HN:Hid (sinB cs nm m.code.length m.locs (nth in0 m.code q)=false→R=false):=HB.out q hql
    generalize hX:nth in0 m.code q=X at *
    have HX:Hid (nth in0 m.code q=X):=hX
    clear hcell HB hX hq5
    have qb:∀o,SCells2 (wr.alloc o) w.heap.size cs.length nm A _ x y m P _ K p c k:=fun o=>HBX.out.bl ((Bl.refl wr).alloc o)
    have qf0:=fun o=>(qb o).f0
    have qf1:=fun o=>(qb o).f1
    have qm0:=fun o=>(qb o).m.1
    have qm1:=fun o=>(qb o).m.2.1
    have qm2:=fun o=>(qb o).m.2.2.1
    have qm3:=fun o=>(qb o).m.2.2.2.1
    have qm4:=fun o=>(qb o).m.2.2.2.2.1
    have qm5:=fun o=>(qb o).m.2.2.2.2.2.1
    have qm6:=fun o=>(qb o).m.2.2.2.2.2.2.1
    have qm7:=fun o=>(qb o).m.2.2.2.2.2.2.2
    have HQB:Hid (∀o,SCells2 (wr.alloc o) w.heap.size cs.length nm A _ x y m P _ K p c k):=qb
    clear qb
    cases hT:sinB cs nm m.code.length m.locs X
    ·have HF:=HN.out hT
     clear HN HG
     go_wp2_with (go_at_call 64;refine (mayIns_any X cs _ _ _ _ _ m _ _ _ _ _ _ _ _ _ hlo hhi (HL.out.bl (hg.out.alloc _)) HNM.out HCODE.out HA.out).mono ?_;rintro e w1 ⟨he,hg1⟩;rw [hT] at he;subst he)
     go_ret
     exact ⟨ret_bool HF.symm,(hg.out.alloc _).trans hg1⟩
    ·have HT1:Hid (sinB cs nm m.code.length m.locs X=true):=hT
     clear HN HG
     go_wp2_with (go_at_call 64;refine (mayIns_any X cs _ _ _ _ _ m _ _ _ _ _ _ _ _ _ hlo hhi (HL.out.bl (hg.out.alloc _)) HNM.out HCODE.out HA.out).mono ?_;rintro e w1 ⟨he,hg1⟩;rw [hT] at he;subst he)
     go_roundw
     case rel=>exact ⟨q+1,by omega,by go_num,fun j hj=>if h:j<q then hgq.out j h else by have:j=q:=(by omega);subst this;rw [HX.out];exact HT1.out,(hg.out.alloc _).trans hg1,(HQB.out _).bl hg1⟩
     case measure=>simp [intOf];omega
   ·have hkk:q=m.code.length:=by omega
    subst hkk
    have HF:=HG.out hgq.out
    clear HG
    go_wp2
    go_ret
    exact ⟨ret_bool HF.symm,hg.out⟩
 ·have d1:decide (1≤(m.code.length:Int)∧(m.code.length:Int)≤400)=false:=decide_eq_false h1
  rw [d1,Bool.false_and]
  go_enter Try.func46,Try.ntmps46
  go_wp2_with (go_at_call 37;refine (span_any _ _ _ _).mono ?_;rintro e w0 ⟨he,hw0⟩;rw [d1] at he;subst he;rw [hw0];clear hw0 w0)
  go_ret
  exact ⟨rfl,HAL.out⟩
set_option maxRecDepth 100000 in
theorem smay_any (f:Fi) (A B:Option Addr) (a b:Nat) (w:World) (hA:ClsAt w A f.classes) (hB:MesAt w B f.methods) :
  Calls Try.prog 27 #[fiV f.classes.length f.methods.length A B a b] w fun e w'=>e=.returned (.bool (smayB f))∧Bl w w':=by
 have HA:Hid (ClsAt w A f.classes):=hA
 have HB:Hid (MesAt w B f.methods):=hB
 have HMM:Hid (f.methods.length≤maxLen):=hB.1
 have hcm:=hA.1
 have hmm:=hB.1
 unfold maxLen at hcm hmm
 clear hA hB
 have HF:Hid (FiBox (w.alloc (fiO f.classes.length f.methods.length A B a b)) w.heap.size 0 f.classes.length f.methods.length A B a b):=FiBox.new ..
 have HW:Hid (Bl w (w.alloc (fiO f.classes.length f.methods.length A B a b))):=(Bl.refl w).alloc _
 cases hm:mayB f.classes
 ·have hb:=smay_cls hm
  rw [hb]
  go_enter Try.func27,Try.ntmps27
  go_wp2_with (go_at_call 21;refine (may_any _ _ _ _ (HA.out.bl HW.out)).mono ?_;rintro e w1 ⟨he,g1⟩;rw [hm] at he;subst he)
  go_ret
  exact ⟨rfl,HW.out.trans g1⟩
 by_cases hn:1≤(f.methods.length:Int)∧(f.methods.length:Int)≤8
 ·have dn:decide (1≤(f.methods.length:Int)∧(f.methods.length:Int)≤8)=true:=decide_eq_true hn
  have HG:Hid ((∀q,q<f.methods.length→smeB f.classes f.methods.length (nth me0 f.methods q)=true)→smayB f=true):=smay_good hm (by omega)
  go_enter Try.func27,Try.ntmps27
  go_wp2_with (first
   | (go_at_call 21;refine (may_any _ _ _ _ (HA.out.bl HW.out)).mono ?_;rintro e w1 ⟨he,g1⟩;rw [hm] at he;subst he;have q1:=(HF.out.bl g1).2;simp only [Nat.zero_add] at q1)
   | (go_at_call 37;refine (span_any _ _ _ _).mono ?_;rintro e w2 ⟨he,hw2⟩;rw [dn] at he;subst he;rw [hw2];clear hw2 w2))
  go_loopw [19] (fun i wr=>∃k:Nat,k≤f.methods.length∧i=.int .i64 k∧Hid (∀j,j<k→smeB f.classes f.methods.length (nth me0 f.methods j)=true)∧Hid (Bl w wr)∧Hid (FiBox wr w.heap.size 0 f.classes.length f.methods.length A B a b)) (fun i _=>f.methods.length-(intOf i).toNat)
  case atStart=>exact ⟨0,Nat.zero_le _,rfl,fun j hj=>absurd hj (Nat.not_lt_zero _),HW.out.trans g1,HF.out.bl g1⟩
  case round =>
   clear HF HW q1 g1 hm
   obtain ⟨k,hk,rfl,hgk,hg,HF⟩:=hrel
   by_cases hkl:k<f.methods.length
   ·have hmes:=HB.out.bl hg.out
    rcases hmes.2 with h0|⟨b',off',rfl,hcell⟩
    ·omega
    obtain ⟨P,C,K,p,c,kk,c0,c1,c2,c3,c4,c5,c6,c7,hme⟩:=hcell k hkl
    have HBAD:Hid (smeB f.classes f.methods.length (nth me0 f.methods k)=false→smayB f=false):=smay_me hkl
    generalize hM:nth me0 f.methods k=m at *
    have HM:Hid (nth me0 f.methods k=m):=hM
    have HME:Hid (MeAt wr m P C K):=hme
    have HP:=sme_parts f.classes f.methods.length m
    have qf0:∀o,(wr.alloc o).cell? ⟨w.heap.size,0,none⟩=some (.slice A f.classes.length a):=fun o=>((Bl.refl wr).alloc o).cell HF.out.1
    have HAL:Hid (Bl wr (wr.alloc (meO m P C K p c kk))):=(Bl.refl wr).alloc _
    have HMC:Hid (MeCells (wr.alloc (meO m P C K p c kk)) wr.heap.size m P C K p c kk):=MeCells.new ..
    have HFA:Hid (FiBox (wr.alloc (meO m P C K p c kk)) w.heap.size 0 f.classes.length f.methods.length A _ a b):=HF.out.bl HAL.out
    clear hmes hcell hM hme
    cases hh:mhB f.classes.length m
    ·have HN:Hid (smayB f=false):=HBAD.out (by rw [HP,hh];rfl)
     clear HP HBAD
     go_wp2_with (go_at_call 44;refine (mayHead_any m _ _ _ _ _ _ _ _ (HME.out.bl HAL.out)).mono ?_;rintro e w1 ⟨he,g1⟩;rw [hh] at he;subst he)
     go_ret
     exact ⟨ret_bool HN.out.symm,(hg.out.trans HAL.out).trans g1⟩
    ·have hparts:m.params.length≤4∧m.params.all (tyB f.classes.length)=true:=by
      unfold mhB at hh;simp only [Bool.and_eq_true,decide_eq_true_eq] at hh;exact ⟨hh.1,hh.2.1⟩
     have HKT:Hid (∀k,k<m.params.length→(nth ty0 m.params k).kind≠0):=kinds_there hparts.2
     have h4:=hparts.1
     clear hparts
     cases hr:roomB m
     ·have HN:Hid (smayB f=false):=HBAD.out (by rw [HP,hh,hr];rfl)
      clear HP HBAD
      go_wp2_with (first
       | (go_at_call 44;refine (mayHead_any m _ _ _ _ _ _ _ _ (HME.out.bl HAL.out)).mono ?_;rintro e w1 ⟨he,g1⟩;rw [hh] at he;subst he;obtain ⟨e0,e1,e2,e3,e4,e5,e6,e7⟩:=HMC.out.bl g1)
       | (go_at_call 45;refine (mayRoom_any m _ _ _ _ _ _ _ (HME.out.1.bl (HAL.out.trans g1)) h4 HKT.out).mono ?_;rintro e w2 ⟨he,g2⟩;rw [hr] at he;subst he))
      go_ret
      exact ⟨ret_bool HN.out.symm,((hg.out.trans HAL.out).trans g1).trans g2⟩
     ·have hlocs:0≤m.locs∧m.locs≤60:=by
       unfold roomB at hr;simp only [Bool.and_eq_true,decide_eq_true_eq] at hr;omega
      obtain ⟨hlo,hhi⟩:=hlocs
      cases hc:codeB f.classes f.methods.length m
      ·have HN:Hid (smayB f=false):=HBAD.out (by rw [HP,hh,hr,hc];rfl)
       clear HP HBAD
       go_wp2_with (first
        | (go_at_call 44;refine (mayHead_any m _ _ _ _ _ _ _ _ (HME.out.bl HAL.out)).mono ?_;rintro e w1 ⟨he,g1⟩;rw [hh] at he;subst he;obtain ⟨e0,e1,e2,e3,e4,e5,e6,e7⟩:=HMC.out.bl g1)
        | (go_at_call 45;refine (mayRoom_any m _ _ _ _ _ _ _ (HME.out.1.bl (HAL.out.trans g1)) h4 HKT.out).mono ?_;rintro e w2 ⟨he,g2⟩;rw [hr] at he;subst he;obtain ⟨t0,t1,t2,t3,t4,t5,t6,t7⟩:=HMC.out.bl (g1.trans g2);obtain ⟨v0,v1⟩:=HFA.out.bl (g1.trans g2);simp only [Nat.zero_add] at v1)
        | (go_at_call 46;refine (mayCode_any _ _ _ _ _ _ m _ _ _ _ _ _ _ hlo hhi (HA.out.bl (((hg.out.trans HAL.out).trans g1).trans g2)) HMM.out (HME.out.2.1.bl ((HAL.out.trans g1).trans g2))).mono ?_;rintro e w3 ⟨he,g3⟩;rw [hc] at he;subst he))
       go_ret
       exact ⟨ret_bool HN.out.symm,(((hg.out.trans HAL.out).trans g1).trans g2).trans g3⟩
      ·have HT:Hid (smeB f.classes f.methods.length m=true):=by rw [HP,hh,hr,hc];rfl
       clear HP HBAD
       go_wp2_with (first
        | (go_at_call 44;refine (mayHead_any m _ _ _ _ _ _ _ _ (HME.out.bl HAL.out)).mono ?_;rintro e w1 ⟨he,g1⟩;rw [hh] at he;subst he;obtain ⟨e0,e1,e2,e3,e4,e5,e6,e7⟩:=HMC.out.bl g1)
        | (go_at_call 45;refine (mayRoom_any m _ _ _ _ _ _ _ (HME.out.1.bl (HAL.out.trans g1)) h4 HKT.out).mono ?_;rintro e w2 ⟨he,g2⟩;rw [hr] at he;subst he;obtain ⟨t0,t1,t2,t3,t4,t5,t6,t7⟩:=HMC.out.bl (g1.trans g2);obtain ⟨v0,v1⟩:=HFA.out.bl (g1.trans g2);simp only [Nat.zero_add] at v1)
        | (go_at_call 46;refine (mayCode_any _ _ _ _ _ _ m _ _ _ _ _ _ _ hlo hhi (HA.out.bl (((hg.out.trans HAL.out).trans g1).trans g2)) HMM.out (HME.out.2.1.bl ((HAL.out.trans g1).trans g2))).mono ?_;rintro e w3 ⟨he,g3⟩;rw [hc] at he;subst he))
       go_roundw
       case rel=>exact ⟨k+1,by omega,by go_num,fun j hj=>if h:j<k then hgk.out j h else by have:j=k:=(by omega);subst this;rw [HM.out];exact HT.out,(((hg.out.trans HAL.out).trans g1).trans g2).trans g3,HFA.out.bl ((g1.trans g2).trans g3)⟩
       case measure=>simp [intOf];omega
   ·obtain rfl:k=f.methods.length:=by omega
    have HN:Hid (smayB f=true):=HG.out hgk.out
    go_wp2
    go_ret
    exact ⟨ret_bool HN.out.symm,hg.out⟩
 ·have hb:=smay_many (f:=f) (by omega)
  rw [hb]
  have dn:decide (1≤(f.methods.length:Int)∧(f.methods.length:Int)≤8)=false:=decide_eq_false hn
  go_enter Try.func27,Try.ntmps27
  go_wp2_with (first
   | (go_at_call 21;refine (may_any _ _ _ _ (HA.out.bl HW.out)).mono ?_;rintro e w1 ⟨he,g1⟩;rw [hm] at he;subst he;have q1:=(HF.out.bl g1).2;simp only [Nat.zero_add] at q1)
   | (go_at_call 37;refine (span_any _ _ _ _).mono ?_;rintro e w2 ⟨he,hw2⟩;rw [dn] at he;subst he;rw [hw2];clear hw2 w2))
  go_ret
  exact ⟨rfl,HW.out.trans g1⟩
def RowAt (w:World) (A:Option Addr) (l:List Int):Prop :=
 l.length≤maxLen∧(l.length=0∨∃b off,A=some ⟨b,off,none⟩∧∀i,i<l.length→w.cell? ⟨b,off+i,none⟩=some (.int .i64 (nth (0:Int) l i)))
theorem RowAt.bl {w w':World} {A:Option Addr} {l:List Int} (h:RowAt w A l) (hb:Bl w w'):RowAt w' A l:=by
 refine ⟨h.1,?_⟩
 rcases h.2 with h0|⟨b,off,e,hc⟩
 ·exact Or.inl h0
 ·exact Or.inr ⟨b,off,e,fun i hi=>hb.cell (hc i hi)⟩
theorem row_at {w:World} {base:Nat} {v:Value} {l:List Int} (h:w.ownsRow base 2 1 v l.length (l.map (Value.int .i64))):∃A cap,v=.slice A l.length cap∧RowAt w A l:=by
 rcases h.2 with ⟨h1,h0⟩|⟨gb,cap,cur,rfl,h2,h3,h4,h5,h6,h7⟩
 ·exact ⟨none,0,by rw [h1,h0],by unfold maxLen;omega,Or.inl h0⟩
 ·refine ⟨_,cap,rfl,by omega,Or.inr ⟨gb,0,rfl,fun i hi=>?_⟩⟩
  rw [cell_blk h3]
  have h8:(cur.toList.take (l.length*1))[i]?=(l.map (Value.int .i64))[i]?:=by rw [h7]
  rw [List.getElem?_take,if_pos (by omega)] at h8
  rw [Nat.zero_add,←Array.getElem?_toList,h8,List.getElem?_map,List.getElem?_eq_getElem hi,nth_get hi]
  rfl
end Go.Proofs.Ytgiiapenmjollaa
