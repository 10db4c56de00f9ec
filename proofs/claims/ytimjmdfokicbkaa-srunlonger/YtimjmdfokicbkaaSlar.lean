import Derived.Test.YtimjmdfokicbkaaSlaa
import Derived.Test.YtimjmdfokicbkaaSlai
import Derived.Test.YtimjmdfokicbkaaSlaj
import Derived.Test.YtimjmdfokicbkaaSlan
import Derived.Test.YtimjmdfokicbkaaSlaq
namespace Go.Proofs.Ytimjmdfokicbkaa
set_option linter.unusedVariables false
set_option linter.unusedSimpArgs false
set_option maxHeartbeats 40000000
open Go.RowKit
theorem two_lieO (w:World) (a b:Array Value) (s t:TypeId):((w.alloc (.cells a s)).alloc (.cells b t)).heap[w.heap.size]?=some (.cells a s (0,0))∧((w.alloc (.cells a s)).alloc (.cells b t)).heap[w.heap.size+1]?=some (.cells b t (0,0)):=by
 have h1:(w.alloc (.cells a s)).heap.size=w.heap.size+1:=by simp
 refine ⟨?_,?_⟩
 ·rw [Below.heap_alloc _ _ _ (by omega)];exact blk_new _ _ _
 ·rw [←h1];exact blk_new _ _ _
set_option maxRecDepth 100000 in
theorem cast_nil (hb:Nat) (v:Va) (cc:Int) (w:World) (hk:v.kind=3) (hv:v.n=-1) :
  Calls Try.prog 139 #[.pointer (some ⟨hb,0,none⟩),mvV (im v),.int .i64 cc] w fun e w'=>e=.returned (mvV (im v))∧Bl w w':=by
 have HN:Hid (isN (im v)=true):=isN_yes hk hv
 obtain ⟨L0,L1⟩:=two_lieO w #[.int .i64 (im v).kind,.int .i64 (im v).n] #[.int .i64 0,.int .i64 0] 110 110
 have HL0:=hid L0
 have HL1:=hid L1
 have HB:Hid (Bl w ((w.alloc (mvO (im v))).alloc mvZ)):=((Bl.refl w).alloc _).alloc _
 clear hk hv L0 L1
 go_enter Try.func139,Try.ntmps139
 go_wp2_with (go_at_call 89;refine (isNothing_any (im v) _).mono ?_;rintro e w2 ⟨he,b2⟩;rw [HN.out] at he;subst he;have q0:=bl_blk b2 HL0.out;have q1:=bl_blk b2 HL1.out;have c0:=c0_of q0;have c1:=c1_of q0;have c4:=c0_of q1;have c5:=c1_of q1;have fz:=free_blk q1;replace b2:=hid b2;replace q1:=hid q1;clear q0)
 refine bodyPost_ret (results_cell_row rfl _ _ (w.heap.size+1) _ _ _ _ rfl (set_two q1.out) Try.underlying110 rfl info_mv) rfl ?_
 exact ⟨rfl,bl_two (HB.out.trans b2.out) (Nat.le_succ _) _ _⟩
set_option maxRecDepth 100000 in
theorem cast_yes (g:Mg) (h:Hp) (v:Va) (cc:Int) (w:World) (R:HRd w g h) (hk:v.kind=3) (hv:0≤v.n) (hn:v.n<h.objs.length) (hz:belI h.file.classes (h.obj v.n).cls cc=true) :
  Calls Try.prog 139 #[.pointer (some ⟨g.hb,0,none⟩),mvV (im v),.int .i64 cc] w fun e w'=>e=.returned (mvV (im v))∧Bl w w':=by
 have HN:Hid (isN (im v)=false):=isN_no hk hv
 have HV:Hid (v.kind=3∧0≤v.n∧v.n<h.objs.length):=⟨hk,hv,hn⟩
 have HZ:=hid hz
 have HR:=hid R
 obtain ⟨L0,L1⟩:=two_lieO w #[.int .i64 (im v).kind,.int .i64 (im v).n] #[.int .i64 0,.int .i64 0] 110 110
 have HL0:=hid L0
 have HL1:=hid L1
 have HB:Hid (Bl w ((w.alloc (mvO (im v))).alloc mvZ)):=((Bl.refl w).alloc _).alloc _
 clear hk hv hn hz R L0 L1
 go_enter Try.func139,Try.ntmps139
 go_wp2_with (first
  | (go_at_call 89;refine (isNothing_any (im v) _).mono ?_;rintro e w2 ⟨he,b2⟩;rw [HN.out] at he;subst he;have q0:=bl_blk b2 HL0.out;have q1:=bl_blk b2 HL1.out;have c0:=c0_of q0;have c1:=c1_of q0;replace b2:=hid b2;replace q1:=hid q1;replace q0:=hid q0)
  | (go_at_call 121;refine (mbelow_yes g h v cc _ (HR.out.bl (HB.out.trans b2.out)) HV.out.1 HV.out.2.1 HV.out.2.2).mono ?_;rintro e w3 ⟨he,b3⟩;rw [HZ.out] at he;subst he;replace q0:=hid (bl_blk b3 q0.out);replace q1:=hid (bl_blk b3 q1.out);replace b2:=hid (b2.out.trans b3);clear c0 c1;have c0:=c0_of q0.out;have c1:=c1_of q0.out;have c4:=c0_of q1.out;have c5:=c1_of q1.out;have fz:=free_blk q1.out))
 refine bodyPost_ret (results_cell_row rfl _ _ (w.heap.size+1) _ _ _ _ rfl (set_two q1.out) Try.underlying110 rfl info_mv) rfl ?_
 exact ⟨rfl,bl_two (HB.out.trans b2.out) (Nat.le_succ _) _ _⟩
set_option maxRecDepth 100000 in
theorem cast_no (s:Nat) (X:Nat→Prop) (wx w0:World) (g:Mg) (h:Hp) (qs:List Nat) (a:Mc) (c:Cal) (v:Va) (cc:Int) (w:World) (H:RX s X wx w0 g w h qs a c) (F:Fix w0 g h) (hl:h.objs.length≤100) (ho:h.over=false) (hk:v.kind=3) (hv:0≤v.n) (hn:v.n<h.objs.length) (hz:belI h.file.classes (h.obj v.n).cls cc=false) :
  Calls Try.prog 139 #[.pointer (some ⟨g.hb,0,none⟩),mvV (im v),.int .i64 cc] w fun e w'=>e=raiseE h∧RX s X wx w0 g w' (h.raise 3) qs a c:=by
 have HN:Hid (isN (im v)=false):=isN_no hk hv
 have HV:Hid (v.kind=3∧0≤v.n∧v.n<h.objs.length):=⟨hk,hv,hn⟩
 have HZ:=hid hz
 have HH:=hid H
 have HL:=hid (And.intro hl ho)
 have HR:=hid (H.rd F hl)
 obtain ⟨L0,L1⟩:=two_lieO w #[.int .i64 (im v).kind,.int .i64 (im v).n] #[.int .i64 0,.int .i64 0] 110 110
 have HL0:=hid L0
 have HB:Hid (Bl w ((w.alloc (mvO (im v))).alloc mvZ)):=((Bl.refl w).alloc _).alloc _
 obtain ⟨E,hE⟩:∃E,raiseE h=E:=⟨_,rfl⟩
 have HE:=hid hE
 rw [hE]
 have HX:Hid (∃ch,E=.panicked ch):=by
  rw [←hE];unfold raiseE;split<;>exact ⟨_,rfl⟩
 clear hk hv hn hz L0 L1 H F hl ho hE
 obtain ⟨ch,rfl⟩:=HX.out
 go_enter Try.func139,Try.ntmps139
 go_wp2_with (first
  | (go_at_call 89;refine (isNothing_any (im v) _).mono ?_;rintro e w2 ⟨he,b2⟩;rw [HN.out] at he;subst he;have q0:=bl_blk b2 HL0.out;have c0:=c0_of q0;have c1:=c1_of q0;replace b2:=hid b2;clear q0)
  | (go_at_call 121;refine (mbelow_yes g h v cc _ (HR.out.bl (HB.out.trans b2.out)) HV.out.1 HV.out.2.1 HV.out.2.2).mono ?_;rintro e w3 ⟨he,b3⟩;rw [HZ.out] at he;subst he;replace b2:=hid (b2.out.trans b3))
  | (go_at_call 141;refine (throwNew_any s X wx w0 g h qs a c 3 _ (HH.out.bl (HB.out.trans b2.out)) HL.out.1 HL.out.2).mono ?_;rintro e w4 ⟨he,H4⟩;rw [HE.out] at he;subst he;replace H4:=hid H4))
 exact ⟨rfl,rfl,H4.out⟩
theorem work_run (k op:Int) (a b:Va) (hk:k=1∨k=2) (w:World):Calls Try.prog (if k=1 then 11 else 12) #[.int .i64 op,.int .i64 a.n,.int .i64 b.n] w fun e w'=>e=.returned (.tuple #[.int .i64 (reckN k op a b),.bool (reckB k op a b)])∧w'=w:=by
 unfold reckN reckB
 rcases hk with rfl|rfl
 ·rw [if_pos rfl,if_pos rfl,if_pos rfl];exact int_any op a.n b.n w
 ·rw [if_neg (by decide),if_neg (by decide),if_neg (by decide)];exact long_any op a.n b.n w
set_option maxRecDepth 100000 in
theorem reckon_yes (hb:Nat) (k op:Int) (a b:Va) (hk:k=1∨k=2) (hr:reckB k op a b=true) (w:World) :
  Calls Try.prog 143 #[.pointer (some ⟨hb,0,none⟩),.int .i64 k,.int .i64 op,mvV a,mvV b] w fun e w'=>e=.returned (mvV ⟨k,reckN k op a b⟩)∧Bl w w':=by
 obtain ⟨L0,L1,L2⟩:=three_lie w #[.int .i64 a.kind,.int .i64 a.n] #[.int .i64 b.kind,.int .i64 b.n] #[.int .i64 0,.int .i64 0] 110 110 110
 have c0:=c1_of L0
 have c1:=c1_of L1
 have c4:=c0_of L2
 have c5:=c1_of L2
 have fz:=free_blk L2
 have HL2:=hid L2
 have HB:Hid (Bl w (((w.alloc (mvO a)).alloc (mvO b)).alloc mvZ)):=(((Bl.refl w).alloc _).alloc _).alloc _
 have HW:=hid (work_run k op a b hk)
 have HR:=hid hr
 clear L0 L1 L2 hr
 rcases hk with rfl|rfl
 ·rw [if_pos rfl] at HW
  go_enter Try.func143,Try.ntmps143
  go_wp2_with (go_at_call 11;refine (HW.out _).mono ?_;rintro e w2 ⟨he,hw⟩;rw [HR.out] at he;subst he;rw [hw];clear hw w2)
  refine bodyPost_ret (results_cell_row rfl _ _ (w.heap.size+1+1) _ _ _ _ rfl (three_lie w _ _ _ _ _ _).2.2 Try.underlying110 rfl info_mv) rfl ?_
  exact ⟨rfl,(((Bl.refl w).alloc _).alloc _).alloc _⟩
 ·rw [if_neg (by decide)] at HW
  go_enter Try.func143,Try.ntmps143
  go_wp2_with (go_at_call 12;refine (HW.out _).mono ?_;rintro e w2 ⟨he,hw⟩;rw [HR.out] at he;subst he;rw [hw];clear hw w2)
  refine bodyPost_ret (results_cell_row rfl _ _ (w.heap.size+1+1) _ _ _ _ rfl (three_lie w _ _ _ _ _ _).2.2 Try.underlying110 rfl info_mv) rfl ?_
  exact ⟨rfl,(((Bl.refl w).alloc _).alloc _).alloc _⟩
set_option maxRecDepth 100000 in
theorem reckon_no (s:Nat) (X:Nat→Prop) (wx w0:World) (g:Mg) (h:Hp) (qs:List Nat) (a:Mc) (c:Cal) (k op:Int) (u v:Va) (hk:k=1∨k=2) (hr:reckB k op u v=false) (w:World) (H:RX s X wx w0 g w h qs a c) (hl:h.objs.length≤100) (ho:h.over=false) :
  Calls Try.prog 143 #[.pointer (some ⟨g.hb,0,none⟩),.int .i64 k,.int .i64 op,mvV u,mvV v] w fun e w'=>e=raiseE h∧RX s X wx w0 g w' (h.raise 2) qs a c:=by
 obtain ⟨L0,L1,L2⟩:=three_lie w #[.int .i64 u.kind,.int .i64 u.n] #[.int .i64 v.kind,.int .i64 v.n] #[.int .i64 0,.int .i64 0] 110 110 110
 have c0:=c1_of L0
 have c1:=c1_of L1
 have HB:Hid (Bl w (((w.alloc (mvO u)).alloc (mvO v)).alloc mvZ)):=(((Bl.refl w).alloc _).alloc _).alloc _
 have HW:=hid (work_run k op u v hk)
 have HR:=hid hr
 have HH:=hid H
 have HL:=hid (And.intro hl ho)
 obtain ⟨E,hE⟩:∃E,raiseE h=E:=⟨_,rfl⟩
 have HE:=hid hE
 rw [hE]
 have HX:Hid (∃ch,E=.panicked ch):=by
  rw [←hE];unfold raiseE;split<;>exact ⟨_,rfl⟩
 clear L0 L1 L2 hr H hl ho hE
 obtain ⟨ch,rfl⟩:=HX.out
 rcases hk with rfl|rfl
 ·rw [if_pos rfl] at HW
  go_enter Try.func143,Try.ntmps143
  go_wp2_with (first
   | (go_at_call 11;refine (HW.out _).mono ?_;rintro e w2 ⟨he,hw⟩;rw [HR.out] at he;subst he;rw [hw];clear hw w2)
   | (go_at_call 141;refine (throwNew_any s X wx w0 g h qs a c 2 _ (HH.out.bl HB.out) HL.out.1 HL.out.2).mono ?_;rintro e w4 ⟨he,H4⟩;rw [HE.out] at he;subst he;replace H4:=hid H4))
  exact ⟨rfl,rfl,H4.out⟩
 ·rw [if_neg (by decide)] at HW
  go_enter Try.func143,Try.ntmps143
  go_wp2_with (first
   | (go_at_call 12;refine (HW.out _).mono ?_;rintro e w2 ⟨he,hw⟩;rw [HR.out] at he;subst he;rw [hw];clear hw w2)
   | (go_at_call 141;refine (throwNew_any s X wx w0 g h qs a c 2 _ (HH.out.bl HB.out) HL.out.1 HL.out.2).mono ?_;rintro e w4 ⟨he,H4⟩;rw [HE.out] at he;subst he;replace H4:=hid H4))
  exact ⟨rfl,rfl,H4.out⟩
theorem ask_any (c a:Int) (b:Nat) (w:World) (hc:w.cell? ⟨b,0,none⟩=some (.int .i64 c)) :
  Calls Try.prog 57 #[.int .i64 a,.pointer (some ⟨b,0,none⟩)] w fun e w'=>e=.returned (.bool (hldB c a))∧w'=w:=by
 by_cases h1:c=1
 ·subst h1
  rw [hld1]
  go_enter Try.func57,Try.ntmps57
  go_wp2
  go_ret
  exact ⟨rfl,rfl⟩
 by_cases h2:c=2
 ·subst h2
  rw [hld2]
  go_enter Try.func57,Try.ntmps57
  go_wp2
  go_ret
  exact ⟨rfl,rfl⟩
 by_cases h3:c=3
 ·subst h3
  rw [hld3]
  go_enter Try.func57,Try.ntmps57
  go_wp2
  go_ret
  exact ⟨rfl,rfl⟩
 by_cases h4:c=4
 ·subst h4
  rw [hld4]
  go_enter Try.func57,Try.ntmps57
  go_wp2
  go_ret
  exact ⟨rfl,rfl⟩
 rw [hld0 c a h1 h2 h3 h4]
 go_enter Try.func57,Try.ntmps57
 go_wp2
 go_ret
 exact ⟨rfl,rfl⟩
theorem holds_any (c a:Int) (w:World) :
  Calls Try.prog 17 #[.int .i64 c,.int .i64 a] w fun e w'=>e=.returned (.bool (hldB c a))∧Grown w w':=by
 have hmf:∀(fn:Fn) (first cap:Array Value) (w:World),(Instr.makeFunc fn first cap).run Try.prog w=.ok (.func fn first cap) w:=fun _ _ _ _=>rfl
 go_enter Try.func17,Try.ntmps17
 go_wp2_with (first|(go_at_call 36;go_in)|(go_at_call 57;refine (ask_any c _ _ _ (by go_simp)).mono ?_;rintro e w' ⟨rfl,rfl⟩))
 go_ret
 exact ⟨rfl,by repeat (first|exact Grown.refl _|apply Grown.drew|apply Grown.alloc)⟩
section
open Go.Maps (Keyed has)
theorem set2_cellD {w:World} {b b' i:Nat} {k n x:Value} (h:w.cell? ⟨b,i,none⟩=some x) (hb:b≠b'):((w.setCell ⟨b',0,none⟩ k).setCell ⟨b',1,none⟩ n).cell? ⟨b,i,none⟩=some x:=by
 rw [World.cell?_setCell_far _ _ _ _ (Ne.symm hb),World.cell?_setCell_far _ _ _ _ (Ne.symm hb)];exact h
set_option maxRecDepth 100000 in
theorem operate_no (X:Nat→Prop) (wx w0:World) (g:Mg) (h:Hp) (qs:List Nat) (a:Mc) (c:Cal) (k op:Int) (w:World) (H:RX 1 X wx w0 g w h qs a c) (hn:∀l u v,c.stk=l++[u,v]→u.kind=k→v.kind=k→False) :
  Calls Try.prog 133 #[.pointer (some ⟨a.q,0,none⟩),.int .i64 k,.int .i64 op] w fun e w'=>e=stopE 6 0 0∧RS 1 X wx w0 g w' h qs a c:=by
 have HH:=hid H
 have HN:=hid hn
 have HB:Hid (Bl w (w.alloc mvZ)):=(Bl.refl w).alloc _
 clear H hn
 go_enter Try.func133,Try.ntmps133
 go_wp2_with (go_at_call 134;refine (HH.out.y.useN HB.out (fun X wx w H=>takeTwo_no 1 X wx w0 g h qs a c k w H HN.out)).mono ?_;rintro e w1 ⟨rfl,H1⟩;replace H1:=hid H1)
 exact ⟨rfl,rfl,H1.out⟩
set_option maxRecDepth 100000 in
theorem operate_yes (X:Nat→Prop) (wx w0:World) (g:Mg) (h:Hp) (qs:List Nat) (a:Mc) (c:Cal) (k op:Int) (w:World) (H:RX 1 X wx w0 g w h qs a c) (l:List Va) (u v:Va) (hs:c.stk=l++[u,v]) (hu:u.kind=k) (hv:v.kind=k) (hk:k=1∨k=2) (hr:reckB k op u v=true) :
  Calls Try.prog 133 #[.pointer (some ⟨a.q,0,none⟩),.int .i64 k,.int .i64 op] w fun e w'=>e=.returned (mvV ⟨k,reckN k op u v⟩)∧RX 1 X wx w0 g w' h qs a { c with stk:=l }:=by
 have HH:=hid H
 have HS:=hid hs
 have HK:=hid (And.intro hu (And.intro hv hk))
 have HR:=hid hr
 have HU:Hid (im u=u∧im v=v):=⟨im_num (by rcases hk with q|q<;>omega),im_num (by rcases hk with q|q<;>omega)⟩
 have HB:Hid (Bl w (w.alloc mvZ)):=(Bl.refl w).alloc _
 have HL:=hid (blk_new w #[.int .i64 0,.int .i64 0] 110)
 clear H hs hu hv hk hr
 go_enter Try.func133,Try.ntmps133
 go_wp2_with (go_at_call 134;refine (HH.out.y.useY HB.out (fun X wx w H=>takeTwo_yes 1 X wx w0 g h qs a c l u v k w H HS.out HK.out.1 HK.out.2.1)).mono ?_;rintro e w1 ⟨he,H1,K1⟩;rw [HU.out.1,HU.out.2] at he;subst he;have q0:=K1.at (Xp.new (Nat.le_refl _) (lt_w1 w _)) HL.out;clear K1;replace H1:=hid H1;replace q0:=hid q0)
 have H2:=H1.out.bl (((Bl.refl w1).alloc (mvO u)).alloc (mvO v))
 obtain ⟨M0,M1⟩:=two_lie w1 #[.int .i64 u.kind,.int .i64 u.n] #[.int .i64 v.kind,.int .i64 v.n] 110 110
 have hw1:=lt_some q0.out
 have z0:=hid H2.hb
 have z1:=hid (c0_of M0)
 have z2:=hid (c1_of M0)
 have z3:=hid (c0_of M1)
 have z4:=hid (c1_of M1)
 have q1:=hid (bl_blk (((Bl.refl w1).alloc (mvO u)).alloc (mvO v)) q0.out)
 replace H2:=hid H2
 have hqw:a.q≠w.heap.size:=by have:=HH.out.qlt;omega
 clear H1 q0 M0 M1
 refine wp_region_held_drew (S:=fun w'=>w'.cell? ⟨a.q,0,none⟩=some (.pointer (some ⟨g.hb,0,none⟩))∧w'.cell? ⟨w1.heap.size,0,none⟩=some (.int .i64 u.kind)∧w'.cell? ⟨w1.heap.size,1,none⟩=some (.int .i64 u.n)∧w'.cell? ⟨w1.heap.size+1,0,none⟩=some (.int .i64 v.kind)∧w'.cell? ⟨w1.heap.size+1,1,none⟩=some (.int .i64 v.n)) (by kernel_rfl) ?_ (fun hHeld0=>?_)
 ·exact ⟨z0.out,z1.out,z2.out,z3.out,z4.out⟩
 refine tk (i:=0) (d:=some 15) rfl rfl (by kernel_rfl) (fun _ _ _ h=>h) (by rfl) (by intro _ h;(try dsimp only at h);go_split_ands;go_simp<;>with_reducible rfl) hHeld0 ?_
 try simp only [aS,aN,aT,a0,a1]
 refine tk (i:=1) (d:=some 16) rfl rfl (by kernel_rfl) (fun _ _ _ h=>h) (by rfl) (by intro _ h;(try dsimp only at h);go_split_ands;go_simp<;>with_reducible rfl) hHeld0 ?_
 try simp only [aS,aN,aT,a0,a1]
 refine tk (i:=2) (d:=some 17) rfl rfl (by kernel_rfl) (fun _ _ _ h=>h) (by rfl) (by intro _ h;(try dsimp only at h);go_split_ands;go_simp<;>with_reducible rfl) hHeld0 ?_
 try simp only [aS,aN,aT,a0,a1]
 refine tk (i:=3) (d:=some 18) rfl rfl (by kernel_rfl) (fun _ _ _ h=>h) (by rfl) (by intro _ h;(try dsimp only at h);go_split_ands;go_simp<;>with_reducible rfl) hHeld0 ?_
 try simp only [aS,aN,aT,a0,a1]
 refine tk (i:=4) (d:=some 19) rfl rfl (by kernel_rfl) (fun _ _ _ h=>h) (by rfl) (by intro _ h;(try dsimp only at h);go_split_ands;go_simp<;>with_reducible rfl) hHeld0 ?_
 try simp only [aS,aN,aT,a0,a1]
 refine tk (i:=5) (d:=some 20) rfl rfl (by kernel_rfl) (fun _ _ _ h=>h) (by rfl) (by intro _ h;(try dsimp only at h);go_split_ands;go_simp<;>with_reducible rfl) hHeld0 ?_
 try simp only [aS,aN,aT,a0,a1]
 refine tk (i:=6) (d:=some 21) rfl rfl (by kernel_rfl) (fun _ _ _ h=>h) (by rfl) (by intro _ h;(try dsimp only at h);go_split_ands;go_simp<;>with_reducible rfl) hHeld0 ?_
 try simp only [aS,aN,aT,a0,a1]
 refine tk (i:=7) (d:=some 22) rfl rfl (by kernel_rfl) (fun _ _ _ h=>h) (by rfl) (by intro _ h;(try dsimp only at h);go_split_ands;go_simp<;>with_reducible rfl) hHeld0 ?_
 try simp only [aS,aN,aT,a0,a1]
 refine rd1 (i:=8) (by kernel_rfl) rfl fun K hK=>?_
 go_simp
 go_at_call 143
 refine (reckon_yes g.hb k op u v HK.out.2.2 HR.out _).mono ?_
 rintro e w2 ⟨rfl,b2⟩
 have d0:=hid (b2.cell hHeld0.1)
 have d1:=hid (b2.cell hHeld0.2.1)
 have d2:=hid (b2.cell hHeld0.2.2.1)
 have d3:=hid (b2.cell hHeld0.2.2.2.1)
 have d4:=hid (b2.cell hHeld0.2.2.2.2)
 have q2:=bl_blk b2 q1.out
 have c4:=c0_of q2
 have c5:=c1_of q2
 have fz:=free_blk q2
 replace b2:=hid b2
 replace q2:=hid q2
 go_wp2_with fail
 refine hK.out _ _ (⟨d0.out,d1.out,d2.out,d3.out,d4.out⟩) (fun hHeld1=>?_)
 try simp only [aS,aN,aT,a0,a1]
 refine rd1 (i:=9) (by kernel_rfl) rfl fun K hK=>?_
 go_wp2_with fail
 refine hK.out _ _ (⟨set2_cellD d0.out hqw,set2_cellD d1.out (by omega),set2_cellD d2.out (by omega),set2_cellD d3.out (by omega),set2_cellD d4.out (by omega)⟩) (fun hHeld2=>?_)
 try simp only [aS,aN,aT,a0,a1]
 refine wpAnyH_done (by kernel_rfl) ?_ _
 go_wp2
 refine bodyPost_ret (results_cell_row rfl _ _ w.heap.size _ _ _ _ rfl (set_two q2.out) Try.underlying110 rfl info_mv) rfl ?_
 refine ⟨rfl,RXY.x (RXY.set (RXY.set (H2.out.bl ((Bl.refl _).drew.trans b2.out)) ?_ 0 _) ?_ 1 _)⟩<;>exact Xp.old (Xp.old (Xp.new (Nat.le_refl _) (lt_w1 w _)))
set_option maxRecDepth 100000 in
theorem operate_throws (X:Nat→Prop) (wx w0:World) (g:Mg) (h:Hp) (qs:List Nat) (a:Mc) (c:Cal) (k op:Int) (w:World) (H:RX 1 X wx w0 g w h qs a c) (l:List Va) (u v:Va) (hs:c.stk=l++[u,v]) (hu:u.kind=k) (hv:v.kind=k) (hk:k=1∨k=2) (hr:reckB k op u v=false) (hl:h.objs.length≤100) (ho:h.over=false) :
  Calls Try.prog 133 #[.pointer (some ⟨a.q,0,none⟩),.int .i64 k,.int .i64 op] w fun e w'=>e=raiseE h∧RX 1 X wx w0 g w' (h.raise 2) qs a { c with stk:=l }:=by
 have HH:=hid H
 have HS:=hid hs
 have HK:=hid (And.intro hu (And.intro hv hk))
 have HR:=hid hr
 have HLO:=hid (And.intro hl ho)
 have HU:Hid (im u=u∧im v=v):=⟨im_num (by rcases hk with q|q<;>omega),im_num (by rcases hk with q|q<;>omega)⟩
 have HB:Hid (Bl w (w.alloc mvZ)):=(Bl.refl w).alloc _
 have HL:=hid (blk_new w #[.int .i64 0,.int .i64 0] 110)
 obtain ⟨E,hE⟩:∃E,raiseE h=E:=⟨_,rfl⟩
 have HE:=hid hE
 rw [hE]
 have HX:Hid (∃ch,E=.panicked ch):=by
  rw [←hE];unfold raiseE;split<;>exact ⟨_,rfl⟩
 clear H hs hu hv hk hr hl ho hE
 obtain ⟨ch,rfl⟩:=HX.out
 go_enter Try.func133,Try.ntmps133
 go_wp2_with (go_at_call 134;refine (HH.out.y.useY HB.out (fun X wx w H=>takeTwo_yes 1 X wx w0 g h qs a c l u v k w H HS.out HK.out.1 HK.out.2.1)).mono ?_;rintro e w1 ⟨he,H1,K1⟩;rw [HU.out.1,HU.out.2] at he;subst he;have q0:=K1.at (Xp.new (Nat.le_refl _) (lt_w1 w _)) HL.out;clear K1;replace H1:=hid H1;replace q0:=hid q0)
 have H2:=H1.out.bl (((Bl.refl w1).alloc (mvO u)).alloc (mvO v))
 obtain ⟨M0,M1⟩:=two_lie w1 #[.int .i64 u.kind,.int .i64 u.n] #[.int .i64 v.kind,.int .i64 v.n] 110 110
 have z0:=hid H2.hb
 have z1:=hid (c0_of M0)
 have z2:=hid (c1_of M0)
 have z3:=hid (c0_of M1)
 have z4:=hid (c1_of M1)
 replace H2:=hid H2
 clear H1 q0 M0 M1
 refine wp_region_held_drew (S:=fun w'=>w'.cell? ⟨a.q,0,none⟩=some (.pointer (some ⟨g.hb,0,none⟩))∧w'.cell? ⟨w1.heap.size,0,none⟩=some (.int .i64 u.kind)∧w'.cell? ⟨w1.heap.size,1,none⟩=some (.int .i64 u.n)∧w'.cell? ⟨w1.heap.size+1,0,none⟩=some (.int .i64 v.kind)∧w'.cell? ⟨w1.heap.size+1,1,none⟩=some (.int .i64 v.n)) (by kernel_rfl) ?_ (fun hHeld0=>?_)
 ·exact ⟨z0.out,z1.out,z2.out,z3.out,z4.out⟩
 refine tk (i:=0) (d:=some 15) rfl rfl (by kernel_rfl) (fun _ _ _ h=>h) (by rfl) (by intro _ h;(try dsimp only at h);go_split_ands;go_simp<;>with_reducible rfl) hHeld0 ?_
 try simp only [aS,aN,aT,a0,a1]
 refine tk (i:=1) (d:=some 16) rfl rfl (by kernel_rfl) (fun _ _ _ h=>h) (by rfl) (by intro _ h;(try dsimp only at h);go_split_ands;go_simp<;>with_reducible rfl) hHeld0 ?_
 try simp only [aS,aN,aT,a0,a1]
 refine tk (i:=2) (d:=some 17) rfl rfl (by kernel_rfl) (fun _ _ _ h=>h) (by rfl) (by intro _ h;(try dsimp only at h);go_split_ands;go_simp<;>with_reducible rfl) hHeld0 ?_
 try simp only [aS,aN,aT,a0,a1]
 refine tk (i:=3) (d:=some 18) rfl rfl (by kernel_rfl) (fun _ _ _ h=>h) (by rfl) (by intro _ h;(try dsimp only at h);go_split_ands;go_simp<;>with_reducible rfl) hHeld0 ?_
 try simp only [aS,aN,aT,a0,a1]
 refine tk (i:=4) (d:=some 19) rfl rfl (by kernel_rfl) (fun _ _ _ h=>h) (by rfl) (by intro _ h;(try dsimp only at h);go_split_ands;go_simp<;>with_reducible rfl) hHeld0 ?_
 try simp only [aS,aN,aT,a0,a1]
 refine tk (i:=5) (d:=some 20) rfl rfl (by kernel_rfl) (fun _ _ _ h=>h) (by rfl) (by intro _ h;(try dsimp only at h);go_split_ands;go_simp<;>with_reducible rfl) hHeld0 ?_
 try simp only [aS,aN,aT,a0,a1]
 refine tk (i:=6) (d:=some 21) rfl rfl (by kernel_rfl) (fun _ _ _ h=>h) (by rfl) (by intro _ h;(try dsimp only at h);go_split_ands;go_simp<;>with_reducible rfl) hHeld0 ?_
 try simp only [aS,aN,aT,a0,a1]
 refine tk (i:=7) (d:=some 22) rfl rfl (by kernel_rfl) (fun _ _ _ h=>h) (by rfl) (by intro _ h;(try dsimp only at h);go_split_ands;go_simp<;>with_reducible rfl) hHeld0 ?_
 try simp only [aS,aN,aT,a0,a1]
 refine rd1 (i:=8) (by kernel_rfl) rfl fun K hK=>?_
 go_simp
 go_at_call 143
 refine (reckon_no 1 X wx w0 g h qs a { c with stk:=l } k op u v HK.out.2.2 HR.out _ (H2.out.x.bl (Bl.refl _).drew) HLO.out.1 HLO.out.2).mono ?_
 rintro e w2 ⟨he,H3⟩
 rw [HE.out] at he
 subst he
 exact ⟨rfl,rfl,H3⟩
end
end Go.Proofs.Ytimjmdfokicbkaa
