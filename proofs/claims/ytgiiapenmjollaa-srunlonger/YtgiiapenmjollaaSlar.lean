import Derived.Test.YtgiiapenmjollaaSlaq
namespace Go.Proofs.Ytgiiapenmjollaa
set_option linter.all false
set_option maxHeartbeats 40000000
open Go.RowKit
section
open Go.Maps (Keyed has)
theorem mv_field (a b:Int) (w:World):(Instr.field 109 (.agg #[.int .i64 a,.int .i64 b]) 1).run Try.prog w=.ok (.int .i64 b) w:=by
 simp [Instr.field,go_sem,Try.underlying109,run_underlying Try.underlying109,run_underlying Try.underlying2,asAgg]
set_option maxRecDepth 100000 in
theorem reckon6_no (X:Nat→Prop) (wx w0:World) (g:Mg) (h:Hp) (qs:List Nat) (a:Mc) (c:Cal) (ia ib ic ii:Int) (Q:Option Addr) (nl q:Nat) (w:World) (H:RX 1 X wx w0 g w h qs a c) (hn:∀l u v,c.stk=l++[u,v]→u.kind=1→v.kind=1→False) :
  Calls Try.prog 120 #[.pointer (some ⟨a.q,0,none⟩),.agg #[.int .i64 6,.int .i64 ia,.int .i64 ib,.int .i64 ic,.int .i64 ii,.slice Q nl q]] w fun e w'=>e=stopE 6 0 0∧RS 1 X wx w0 g w' h qs a c:=by
 have HH:=hid H
 obtain ⟨L0,L1⟩:=two_lie w #[.int .i64 6,.int .i64 ia,.int .i64 ib,.int .i64 ic,.int .i64 ii,.slice Q nl q] #[.int .i64 0,.int .i64 0] 51 109
 have HB:Hid (Bl w ((w.alloc (insO 6 ia ib ic ii Q nl q)).alloc mvZ)):=((Bl.refl w).alloc _).alloc _
 have HL1:=hid L1
 have HN:=hid hn
 clear H hn L0 L1
 go_enter Try.func120,Try.ntmps120
 go_wp2_with (go_at_call 134;refine (HH.out.y.useN HB.out (fun X wx w H=>operate_no X wx w0 g h qs a c 1 ia w H HN.out)).mono ?_;rintro e w1 ⟨rfl,H1⟩;replace H1:=hid H1)
 exact ⟨rfl,rfl,H1.out⟩
set_option maxRecDepth 100000 in
theorem reckon6_yes (X:Nat→Prop) (wx w0:World) (g:Mg) (h:Hp) (qs:List Nat) (a:Mc) (c:Cal) (ia ib ic ii:Int) (Q:Option Addr) (nl q:Nat) (w:World) (H:RX 1 X wx w0 g w h qs a c) (l:List Va) (u v:Va) (hs:c.stk=l++[u,v]) (hu:u.kind=1) (hv:v.kind=1) (hr:reckB 1 ia u v=true) :
  Calls Try.prog 120 #[.pointer (some ⟨a.q,0,none⟩),.agg #[.int .i64 6,.int .i64 ia,.int .i64 ib,.int .i64 ic,.int .i64 ii,.slice Q nl q]] w fun e w'=>e=.returned (mvV ⟨1,reckN 1 ia u v⟩)∧RX 1 X wx w0 g w' h qs a { c with stk:=l }:=by
 have HH:=hid H
 obtain ⟨L0,L1⟩:=two_lie w #[.int .i64 6,.int .i64 ia,.int .i64 ib,.int .i64 ic,.int .i64 ii,.slice Q nl q] #[.int .i64 0,.int .i64 0] 51 109
 have HB:Hid (Bl w ((w.alloc (insO 6 ia ib ic ii Q nl q)).alloc mvZ)):=((Bl.refl w).alloc _).alloc _
 have HL1:=hid L1
 have HK:=hid (And.intro hs (And.intro hu (And.intro hv hr)))
 clear H hs hu hv hr L0 L1
 go_enter Try.func120,Try.ntmps120
 go_wp2_with (go_at_call 134;refine (HH.out.y.useY HB.out (fun X wx w H=>operate_yes X wx w0 g h qs a c 1 ia w H l u v HK.out.1 HK.out.2.1 HK.out.2.2.1 (by decide) HK.out.2.2.2)).mono ?_;rintro e w1 ⟨rfl,H1,K1⟩;have q1:=K1.at (Xp.new (Nat.le_succ _) (lt_w2b w _ _)) HL1.out;have c4:=c0_of q1;have c5:=c1_of q1;have fz:=free_blk q1;clear K1;replace H1:=hid H1;replace q1:=hid q1)
 refine bodyPost_ret (results_cell_row rfl _ _ (w.heap.size+1) _ _ _ _ rfl (set_two q1.out) Try.underlying109 rfl info_mv) rfl ?_
 refine ⟨rfl,RXY.x (RXY.set (RXY.set H1.out ?_ 0 _) ?_ 1 _)⟩<;>exact Xp.new (Nat.le_succ _) (lt_w2b w _ _)
set_option maxRecDepth 100000 in
theorem reckon6_throws (X:Nat→Prop) (wx w0:World) (g:Mg) (h:Hp) (qs:List Nat) (a:Mc) (c:Cal) (ia ib ic ii:Int) (Q:Option Addr) (nl q:Nat) (w:World) (H:RX 1 X wx w0 g w h qs a c) (l:List Va) (u v:Va) (hs:c.stk=l++[u,v]) (hu:u.kind=1) (hv:v.kind=1) (hr:reckB 1 ia u v=false) (hl:h.objs.length≤100) (ho:h.over=false) :
  Calls Try.prog 120 #[.pointer (some ⟨a.q,0,none⟩),.agg #[.int .i64 6,.int .i64 ia,.int .i64 ib,.int .i64 ic,.int .i64 ii,.slice Q nl q]] w fun e w'=>e=raiseE h∧RX 1 X wx w0 g w' (h.raise 2) qs a { c with stk:=l }:=by
 have HH:=hid H
 obtain ⟨L0,L1⟩:=two_lie w #[.int .i64 6,.int .i64 ia,.int .i64 ib,.int .i64 ic,.int .i64 ii,.slice Q nl q] #[.int .i64 0,.int .i64 0] 51 109
 have HB:Hid (Bl w ((w.alloc (insO 6 ia ib ic ii Q nl q)).alloc mvZ)):=((Bl.refl w).alloc _).alloc _
 have HL1:=hid L1
 have HK:=hid (And.intro hs (And.intro hu (And.intro hv (And.intro hr (And.intro hl ho)))))
 obtain ⟨E,hE⟩:∃E,raiseE h=E:=⟨_,rfl⟩
 have HE:=hid hE
 rw [hE]
 have HX:Hid (∃ch,E=.panicked ch):=by
  rw [←hE];unfold raiseE;split<;>exact ⟨_,rfl⟩
 clear H hs hu hv hr hl ho L0 L1 hE
 obtain ⟨ch,rfl⟩:=HX.out
 go_enter Try.func120,Try.ntmps120
 go_wp2_with (go_at_call 134;refine (HH.out.y.useY HB.out (fun X wx w H=>operate_throws X wx w0 g h qs a c 1 ia w H l u v HK.out.1 HK.out.2.1 HK.out.2.2.1 (by decide) HK.out.2.2.2.1 HK.out.2.2.2.2.1 HK.out.2.2.2.2.2)).mono ?_;rintro e w1 ⟨he,H1,K1⟩;rw [HE.out] at he;subst he;clear K1;replace H1:=hid H1)
 exact ⟨rfl,rfl,H1.out.x⟩
set_option maxRecDepth 100000 in
theorem reckon7_no (X:Nat→Prop) (wx w0:World) (g:Mg) (h:Hp) (qs:List Nat) (a:Mc) (c:Cal) (ia ib ic ii:Int) (Q:Option Addr) (nl q:Nat) (w:World) (H:RX 1 X wx w0 g w h qs a c) (hn:∀l u v,c.stk=l++[u,v]→u.kind=2→v.kind=2→False) :
  Calls Try.prog 120 #[.pointer (some ⟨a.q,0,none⟩),.agg #[.int .i64 7,.int .i64 ia,.int .i64 ib,.int .i64 ic,.int .i64 ii,.slice Q nl q]] w fun e w'=>e=stopE 6 0 0∧RS 1 X wx w0 g w' h qs a c:=by
 have HH:=hid H
 obtain ⟨L0,L1⟩:=two_lie w #[.int .i64 7,.int .i64 ia,.int .i64 ib,.int .i64 ic,.int .i64 ii,.slice Q nl q] #[.int .i64 0,.int .i64 0] 51 109
 have HB:Hid (Bl w ((w.alloc (insO 7 ia ib ic ii Q nl q)).alloc mvZ)):=((Bl.refl w).alloc _).alloc _
 have HL1:=hid L1
 have HN:=hid hn
 clear H hn L0 L1
 go_enter Try.func120,Try.ntmps120
 go_wp2_with (go_at_call 134;refine (HH.out.y.useN HB.out (fun X wx w H=>operate_no X wx w0 g h qs a c 2 ia w H HN.out)).mono ?_;rintro e w1 ⟨rfl,H1⟩;replace H1:=hid H1)
 exact ⟨rfl,rfl,H1.out⟩
set_option maxRecDepth 100000 in
theorem reckon7_yes (X:Nat→Prop) (wx w0:World) (g:Mg) (h:Hp) (qs:List Nat) (a:Mc) (c:Cal) (ia ib ic ii:Int) (Q:Option Addr) (nl q:Nat) (w:World) (H:RX 1 X wx w0 g w h qs a c) (l:List Va) (u v:Va) (hs:c.stk=l++[u,v]) (hu:u.kind=2) (hv:v.kind=2) (hr:reckB 2 ia u v=true) :
  Calls Try.prog 120 #[.pointer (some ⟨a.q,0,none⟩),.agg #[.int .i64 7,.int .i64 ia,.int .i64 ib,.int .i64 ic,.int .i64 ii,.slice Q nl q]] w fun e w'=>e=.returned (mvV ⟨2,reckN 2 ia u v⟩)∧RX 1 X wx w0 g w' h qs a { c with stk:=l }:=by
 have HH:=hid H
 obtain ⟨L0,L1⟩:=two_lie w #[.int .i64 7,.int .i64 ia,.int .i64 ib,.int .i64 ic,.int .i64 ii,.slice Q nl q] #[.int .i64 0,.int .i64 0] 51 109
 have HB:Hid (Bl w ((w.alloc (insO 7 ia ib ic ii Q nl q)).alloc mvZ)):=((Bl.refl w).alloc _).alloc _
 have HL1:=hid L1
 have HK:=hid (And.intro hs (And.intro hu (And.intro hv hr)))
 clear H hs hu hv hr L0 L1
 go_enter Try.func120,Try.ntmps120
 go_wp2_with (go_at_call 134;refine (HH.out.y.useY HB.out (fun X wx w H=>operate_yes X wx w0 g h qs a c 2 ia w H l u v HK.out.1 HK.out.2.1 HK.out.2.2.1 (by decide) HK.out.2.2.2)).mono ?_;rintro e w1 ⟨rfl,H1,K1⟩;have q1:=K1.at (Xp.new (Nat.le_succ _) (lt_w2b w _ _)) HL1.out;have c4:=c0_of q1;have c5:=c1_of q1;have fz:=free_blk q1;clear K1;replace H1:=hid H1;replace q1:=hid q1)
 refine bodyPost_ret (results_cell_row rfl _ _ (w.heap.size+1) _ _ _ _ rfl (set_two q1.out) Try.underlying109 rfl info_mv) rfl ?_
 refine ⟨rfl,RXY.x (RXY.set (RXY.set H1.out ?_ 0 _) ?_ 1 _)⟩<;>exact Xp.new (Nat.le_succ _) (lt_w2b w _ _)
set_option maxRecDepth 100000 in
theorem reckon7_throws (X:Nat→Prop) (wx w0:World) (g:Mg) (h:Hp) (qs:List Nat) (a:Mc) (c:Cal) (ia ib ic ii:Int) (Q:Option Addr) (nl q:Nat) (w:World) (H:RX 1 X wx w0 g w h qs a c) (l:List Va) (u v:Va) (hs:c.stk=l++[u,v]) (hu:u.kind=2) (hv:v.kind=2) (hr:reckB 2 ia u v=false) (hl:h.objs.length≤100) (ho:h.over=false) :
  Calls Try.prog 120 #[.pointer (some ⟨a.q,0,none⟩),.agg #[.int .i64 7,.int .i64 ia,.int .i64 ib,.int .i64 ic,.int .i64 ii,.slice Q nl q]] w fun e w'=>e=raiseE h∧RX 1 X wx w0 g w' (h.raise 2) qs a { c with stk:=l }:=by
 have HH:=hid H
 obtain ⟨L0,L1⟩:=two_lie w #[.int .i64 7,.int .i64 ia,.int .i64 ib,.int .i64 ic,.int .i64 ii,.slice Q nl q] #[.int .i64 0,.int .i64 0] 51 109
 have HB:Hid (Bl w ((w.alloc (insO 7 ia ib ic ii Q nl q)).alloc mvZ)):=((Bl.refl w).alloc _).alloc _
 have HL1:=hid L1
 have HK:=hid (And.intro hs (And.intro hu (And.intro hv (And.intro hr (And.intro hl ho)))))
 obtain ⟨E,hE⟩:∃E,raiseE h=E:=⟨_,rfl⟩
 have HE:=hid hE
 rw [hE]
 have HX:Hid (∃ch,E=.panicked ch):=by
  rw [←hE];unfold raiseE;split<;>exact ⟨_,rfl⟩
 clear H hs hu hv hr hl ho L0 L1 hE
 obtain ⟨ch,rfl⟩:=HX.out
 go_enter Try.func120,Try.ntmps120
 go_wp2_with (go_at_call 134;refine (HH.out.y.useY HB.out (fun X wx w H=>operate_throws X wx w0 g h qs a c 2 ia w H l u v HK.out.1 HK.out.2.1 HK.out.2.2.1 (by decide) HK.out.2.2.2.1 HK.out.2.2.2.2.1 HK.out.2.2.2.2.2)).mono ?_;rintro e w1 ⟨he,H1,K1⟩;rw [HE.out] at he;subst he;clear K1;replace H1:=hid H1)
 exact ⟨rfl,rfl,H1.out.x⟩
set_option maxRecDepth 100000 in
theorem reckon8_no (X:Nat→Prop) (wx w0:World) (g:Mg) (h:Hp) (qs:List Nat) (a:Mc) (c:Cal) (ia ib ic ii:Int) (Q:Option Addr) (nl q:Nat) (w:World) (H:RX 1 X wx w0 g w h qs a c) (hn:c.stk=[]∨∃l v,c.stk=l++[v]∧v.kind≠1) :
  Calls Try.prog 120 #[.pointer (some ⟨a.q,0,none⟩),.agg #[.int .i64 8,.int .i64 ia,.int .i64 ib,.int .i64 ic,.int .i64 ii,.slice Q nl q]] w fun e w'=>e=stopE 6 0 0∧RS 1 X wx w0 g w' h qs a c:=by
 have HH:=hid H
 obtain ⟨L0,L1⟩:=two_lie w #[.int .i64 8,.int .i64 ia,.int .i64 ib,.int .i64 ic,.int .i64 ii,.slice Q nl q] #[.int .i64 0,.int .i64 0] 51 109
 have HB:Hid (Bl w ((w.alloc (insO 8 ia ib ic ii Q nl q)).alloc mvZ)):=((Bl.refl w).alloc _).alloc _
 have HL1:=hid L1
 have HN:=hid hn
 clear H hn L0 L1
 go_enter Try.func120,Try.ntmps120
 go_wp2_with (go_at_call 89;refine (HH.out.y.useN HB.out (fun X wx w H=>takeKind_no 1 X wx w0 g h qs a c 1 w H HN.out)).mono ?_;rintro e w1 ⟨rfl,H1⟩;replace H1:=hid H1)
 exact ⟨rfl,rfl,H1.out⟩
set_option maxRecDepth 100000 in
theorem reckon8_yes (X:Nat→Prop) (wx w0:World) (g:Mg) (h:Hp) (qs:List Nat) (a:Mc) (c:Cal) (ia ib ic ii:Int) (Q:Option Addr) (nl q:Nat) (w:World) (H:RX 1 X wx w0 g w h qs a c) (l:List Va) (v:Va) (hs:c.stk=l++[v]) (hv:v.kind=1) :
  Calls Try.prog 120 #[.pointer (some ⟨a.q,0,none⟩),.agg #[.int .i64 8,.int .i64 ia,.int .i64 ib,.int .i64 ic,.int .i64 ii,.slice Q nl q]] w fun e w'=>e=.returned (mvV ⟨2,v.n⟩)∧RX 1 X wx w0 g w' h qs a { c with stk:=l }:=by
 have HH:=hid H
 obtain ⟨L0,L1⟩:=two_lie w #[.int .i64 8,.int .i64 ia,.int .i64 ib,.int .i64 ic,.int .i64 ii,.slice Q nl q] #[.int .i64 0,.int .i64 0] 51 109
 have HB:Hid (Bl w ((w.alloc (insO 8 ia ib ic ii Q nl q)).alloc mvZ)):=((Bl.refl w).alloc _).alloc _
 have HL1:=hid L1
 have HK:=hid (And.intro hs hv)
 have HM:Hid (im v=v):=im_num (by rw [hv];decide)
 have hfd:=fun w=>mv_field v.kind v.n w
 clear H hs hv L0 L1
 go_enter Try.func120,Try.ntmps120
 go_wp2_with (first
  | (go_at_call 89;refine (HH.out.y.useY HB.out (fun X wx w H=>takeKind_yes 1 X wx w0 g h qs a c l v 1 w H HK.out.1 HK.out.2)).mono ?_;rintro e w1 ⟨he,H1,K1⟩;rw [HM.out] at he;subst he;have q1:=K1.at (Xp.new (Nat.le_succ _) (lt_w2b w _ _)) HL1.out;have c4:=c0_of q1;have c5:=c1_of q1;have fz:=free_blk q1;clear K1;replace H1:=hid H1;replace q1:=hid q1)
  | (go_at_call 99;refine (mlong_any v.n _).mono ?_;rintro e w2 ⟨rfl,b2⟩;replace q1:=hid (bl_blk b2 q1.out);clear c4 c5 fz;have c4:=c0_of q1.out;have c5:=c1_of q1.out;have fz:=free_blk q1.out;replace b2:=hid b2))
 refine bodyPost_ret (results_cell_row rfl _ _ (w.heap.size+1) _ _ _ _ rfl (set_two q1.out) Try.underlying109 rfl info_mv) rfl ?_
 refine ⟨rfl,RXY.x (RXY.set (RXY.set (H1.out.bl b2.out) ?_ 0 _) ?_ 1 _)⟩<;>exact Xp.old (Xp.new (Nat.le_succ _) (lt_w2b w _ _))
set_option maxRecDepth 100000 in
theorem reckon9_no (X:Nat→Prop) (wx w0:World) (g:Mg) (h:Hp) (qs:List Nat) (a:Mc) (c:Cal) (ia ib ic ii:Int) (Q:Option Addr) (nl q:Nat) (w:World) (H:RX 1 X wx w0 g w h qs a c) (hn:c.stk=[]∨∃l v,c.stk=l++[v]∧v.kind≠2) :
  Calls Try.prog 120 #[.pointer (some ⟨a.q,0,none⟩),.agg #[.int .i64 9,.int .i64 ia,.int .i64 ib,.int .i64 ic,.int .i64 ii,.slice Q nl q]] w fun e w'=>e=stopE 6 0 0∧RS 1 X wx w0 g w' h qs a c:=by
 have HH:=hid H
 obtain ⟨L0,L1⟩:=two_lie w #[.int .i64 9,.int .i64 ia,.int .i64 ib,.int .i64 ic,.int .i64 ii,.slice Q nl q] #[.int .i64 0,.int .i64 0] 51 109
 have HB:Hid (Bl w ((w.alloc (insO 9 ia ib ic ii Q nl q)).alloc mvZ)):=((Bl.refl w).alloc _).alloc _
 have HL1:=hid L1
 have HN:=hid hn
 clear H hn L0 L1
 go_enter Try.func120,Try.ntmps120
 go_wp2_with (go_at_call 89;refine (HH.out.y.useN HB.out (fun X wx w H=>takeKind_no 1 X wx w0 g h qs a c 2 w H HN.out)).mono ?_;rintro e w1 ⟨rfl,H1⟩;replace H1:=hid H1)
 exact ⟨rfl,rfl,H1.out⟩
set_option maxRecDepth 100000 in
theorem reckon9_yes (X:Nat→Prop) (wx w0:World) (g:Mg) (h:Hp) (qs:List Nat) (a:Mc) (c:Cal) (ia ib ic ii:Int) (Q:Option Addr) (nl q:Nat) (w:World) (H:RX 1 X wx w0 g w h qs a c) (l:List Va) (v:Va) (hs:c.stk=l++[v]) (hv:v.kind=2) :
  Calls Try.prog 120 #[.pointer (some ⟨a.q,0,none⟩),.agg #[.int .i64 9,.int .i64 ia,.int .i64 ib,.int .i64 ic,.int .i64 ii,.slice Q nl q]] w fun e w'=>e=.returned (mvV ⟨1,wrap32 v.n⟩)∧RX 1 X wx w0 g w' h qs a { c with stk:=l }:=by
 have HH:=hid H
 obtain ⟨L0,L1⟩:=two_lie w #[.int .i64 9,.int .i64 ia,.int .i64 ib,.int .i64 ic,.int .i64 ii,.slice Q nl q] #[.int .i64 0,.int .i64 0] 51 109
 have HB:Hid (Bl w ((w.alloc (insO 9 ia ib ic ii Q nl q)).alloc mvZ)):=((Bl.refl w).alloc _).alloc _
 have HL1:=hid L1
 have HK:=hid (And.intro hs hv)
 have HM:Hid (im v=v):=im_num (by rw [hv];decide)
 have hfd:=fun w=>mv_field v.kind v.n w
 clear H hs hv L0 L1
 go_enter Try.func120,Try.ntmps120
 go_wp2_with (first
  | (go_at_call 89;refine (HH.out.y.useY HB.out (fun X wx w H=>takeKind_yes 1 X wx w0 g h qs a c l v 2 w H HK.out.1 HK.out.2)).mono ?_;rintro e w1 ⟨he,H1,K1⟩;rw [HM.out] at he;subst he;have q1:=K1.at (Xp.new (Nat.le_succ _) (lt_w2b w _ _)) HL1.out;have c4:=c0_of q1;have c5:=c1_of q1;have fz:=free_blk q1;clear K1;replace H1:=hid H1;replace q1:=hid q1)
  | (go_at_call 15;refine (narrow_any v.n _).mono ?_;rintro e w2 ⟨rfl,hw⟩;rw [hw];clear hw w2)
  | (go_at_call 100;refine (mint_any (wrap32 v.n) _).mono ?_;rintro e w2 ⟨rfl,b2⟩;replace q1:=hid (bl_blk b2 q1.out);clear c4 c5 fz;have c4:=c0_of q1.out;have c5:=c1_of q1.out;have fz:=free_blk q1.out;replace b2:=hid b2))
 refine bodyPost_ret (results_cell_row rfl _ _ (w.heap.size+1) _ _ _ _ rfl (set_two q1.out) Try.underlying109 rfl info_mv) rfl ?_
 refine ⟨rfl,RXY.x (RXY.set (RXY.set (H1.out.bl b2.out) ?_ 0 _) ?_ 1 _)⟩<;>exact Xp.old (Xp.new (Nat.le_succ _) (lt_w2b w _ _))
set_option maxRecDepth 100000 in
theorem reckon10_no (X:Nat→Prop) (wx w0:World) (g:Mg) (h:Hp) (qs:List Nat) (a:Mc) (c:Cal) (ia ib ic ii:Int) (Q:Option Addr) (nl q:Nat) (w:World) (H:RX 1 X wx w0 g w h qs a c) (hn:∀l u v,c.stk=l++[u,v]→u.kind=2→v.kind=2→False) :
  Calls Try.prog 120 #[.pointer (some ⟨a.q,0,none⟩),.agg #[.int .i64 10,.int .i64 ia,.int .i64 ib,.int .i64 ic,.int .i64 ii,.slice Q nl q]] w fun e w'=>e=stopE 6 0 0∧RS 1 X wx w0 g w' h qs a c:=by
 have HH:=hid H
 obtain ⟨L0,L1⟩:=two_lie w #[.int .i64 10,.int .i64 ia,.int .i64 ib,.int .i64 ic,.int .i64 ii,.slice Q nl q] #[.int .i64 0,.int .i64 0] 51 109
 have HB:Hid (Bl w ((w.alloc (insO 10 ia ib ic ii Q nl q)).alloc mvZ)):=((Bl.refl w).alloc _).alloc _
 have HL1:=hid L1
 have HN:=hid hn
 clear H hn L0 L1
 go_enter Try.func120,Try.ntmps120
 go_wp2_with (go_at_call 135;refine (HH.out.y.useN HB.out (fun X wx w H=>takeTwo_no 1 X wx w0 g h qs a c 2 w H HN.out)).mono ?_;rintro e w1 ⟨rfl,H1⟩;replace H1:=hid H1)
 exact ⟨rfl,rfl,H1.out⟩
set_option maxRecDepth 100000 in
theorem reckon10_yes (X:Nat→Prop) (wx w0:World) (g:Mg) (h:Hp) (qs:List Nat) (a:Mc) (c:Cal) (ia ib ic ii:Int) (Q:Option Addr) (nl q:Nat) (w:World) (H:RX 1 X wx w0 g w h qs a c) (l:List Va) (u v:Va) (hs:c.stk=l++[u,v]) (hu:u.kind=2) (hv:v.kind=2) :
  Calls Try.prog 120 #[.pointer (some ⟨a.q,0,none⟩),.agg #[.int .i64 10,.int .i64 ia,.int .i64 ib,.int .i64 ic,.int .i64 ii,.slice Q nl q]] w fun e w'=>e=.returned (mvV ⟨1,cmpV u.n v.n⟩)∧RX 1 X wx w0 g w' h qs a { c with stk:=l }:=by
 have HH:=hid H
 obtain ⟨L0,L1⟩:=two_lie w #[.int .i64 10,.int .i64 ia,.int .i64 ib,.int .i64 ic,.int .i64 ii,.slice Q nl q] #[.int .i64 0,.int .i64 0] 51 109
 have HB:Hid (Bl w ((w.alloc (insO 10 ia ib ic ii Q nl q)).alloc mvZ)):=((Bl.refl w).alloc _).alloc _
 have HL1:=hid L1
 have HK:=hid (And.intro hs (And.intro hu hv))
 have HM:Hid (im u=u∧im v=v):=⟨im_num (by rw [hu];decide),im_num (by rw [hv];decide)⟩
 clear H hs hu hv L0 L1
 go_enter Try.func120,Try.ntmps120
 go_wp2_with (first
  | (go_at_call 135;refine (HH.out.y.useY HB.out (fun X wx w H=>takeTwo_yes 1 X wx w0 g h qs a c l u v 2 w H HK.out.1 HK.out.2.1 HK.out.2.2)).mono ?_;rintro e w1 ⟨he,H1,K1⟩;rw [HM.out.1,HM.out.2] at he;subst he;have q1:=K1.at (Xp.new (Nat.le_succ _) (lt_w2b w _ _)) HL1.out;have c4:=c0_of q1;have c5:=c1_of q1;have fz:=free_blk q1;clear K1;replace H1:=hid H1;replace q1:=hid q1;have hlq:=lt_some q1.out)
  | (go_at_call 16;refine (cmp_any u.n v.n _).mono ?_;rintro e w2 ⟨rfl,hw⟩;rw [hw];clear hw w2)
  | (go_at_call 100;refine (mint_any (cmpV u.n v.n) _).mono ?_;rintro e w2 ⟨rfl,b2⟩;replace q1:=hid (bl_blk b2 (bl_blk (((Bl.refl w1).alloc (mvO u)).alloc (mvO v)) q1.out));clear c4 c5 fz;have c4:=c0_of q1.out;have c5:=c1_of q1.out;have fz:=free_blk q1.out;replace b2:=hid b2))
 refine bodyPost_ret (results_cell_row rfl _ _ (w.heap.size+1) _ _ _ _ rfl (set_two q1.out) Try.underlying109 rfl info_mv) rfl ?_
 refine ⟨rfl,RXY.x (RXY.set (RXY.set ((H1.out.bl (((Bl.refl w1).alloc (mvO u)).alloc (mvO v))).bl b2.out) ?_ 0 _) ?_ 1 _)⟩<;>exact Xp.old (Xp.old (Xp.new (Nat.le_succ _) (lt_w2b w _ _)))
end
end Go.Proofs.Ytgiiapenmjollaa
