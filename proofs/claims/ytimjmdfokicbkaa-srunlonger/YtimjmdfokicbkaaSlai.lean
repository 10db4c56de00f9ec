import Derived.Test.YtimjmdfokicbkaaSlah
import Derived.Deep.RegionHeld3
namespace Go.Proofs.Ytimjmdfokicbkaa
set_option linter.unusedVariables false
set_option linter.unusedSimpArgs false
set_option maxHeartbeats 40000000
open Go.RowKit
set_option maxRecDepth 100000 in
theorem mbelow_no (g:Mg) (h:Hp) (v:Va) (c:Int) (w:World) (hk:v.kind=3) (hv:v.n=-1) :
  Calls Try.prog 121 #[.pointer (some ⟨g.hb,0,none⟩),mvV (im v),.int .i64 c] w fun e w'=>e=.returned (.bool false)∧Bl w w':=by
 have HN:Hid (isN (im v)=true):=isN_yes hk hv
 have e:im v=⟨3,0⟩:=by rw [im_ref hk,hv];rfl
 rw [e] at HN ⊢
 have HB:Hid (Bl w (w.alloc (.cells #[.int .i64 3,.int .i64 0] 110))):=(Bl.refl w).alloc _
 clear hk hv e
 go_enter Try.func121,Try.ntmps121
 go_wp2
 have x0:∀x:Fut (w.alloc (.cells #[.int .i64 3,.int .i64 0] 110)),x.to.cell? ⟨w.heap.size,0,none⟩=some (.int .i64 3):=fut_cell (cell_of_new rfl)
 have x1:∀x:Fut (w.alloc (.cells #[.int .i64 3,.int .i64 0] 110)),x.to.cell? ⟨w.heap.size,1,none⟩=some (.int .i64 0):=fut_cell (cell_of_new rfl)
 refine wp_region_fut (by kernel_rfl) (by kernel_rfl) fun hne=>?_
 repeat (go_big_quiet_step ((go_at_call 89;exact Calls.fut_eq _ (isNothing_any ⟨3,0⟩ _) (congrArg Value.bool HN.out))))
 refine wpQuiet_nil ?_
 rintro _ ⟨⟨w2,hw2⟩,rfl⟩
 clear x0 x1 hne
 go_wp2
 go_ret
 exact ⟨rfl,HB.out.trans hw2⟩
theorem mbelow_any (g:Mg) (h:Hp) (v:Va) (c:Int) (w:World) (R:HRd w g h) (hk:v.kind=3) (hv:-1≤v.n) (hn:v.n<h.objs.length) :
  Calls Try.prog 121 #[.pointer (some ⟨g.hb,0,none⟩),mvV (im v),.int .i64 c] w fun e w'=>e=.returned (.bool (decide (0≤v.n)&&belI h.file.classes (h.obj v.n).cls c))∧Bl w w':=by
 by_cases h0:0≤v.n
 ·rw [decide_eq_true h0,Bool.true_and]
  exact mbelow_yes g h v c w R hk h0 hn
 ·rw [decide_eq_false h0,Bool.false_and]
  exact mbelow_no g h v c w hk (by omega)
set_option maxRecDepth 100000 in
theorem mfit_num (g:Mg) (h:Hp) (v:Va) (t:Ty) (w:World) (R:HRd w g h) (hk:v.kind=t.kind) (h3:t.kind≠3) :
  Calls Try.prog 132 #[.pointer (some ⟨g.hb,0,none⟩),mvV (im v),tyMV t] w fun e w'=>e=.returned (mvV (im v))∧Bl w w':=by
 obtain ⟨L0,L1,L2⟩:=three_lie w #[.int .i64 (im v).kind,.int .i64 (im v).n] #[.int .i64 t.kind,.int .i64 t.cls] #[.int .i64 0,.int .i64 0] 110 54 110
 have HB:Hid (Bl w (((w.alloc (mvO (im v))).alloc (tyMO t)).alloc mvZ)):=(((Bl.refl w).alloc _).alloc _).alloc _
 have HR:Hid (HRd w g h):=R
 obtain ⟨W,hW⟩:∃W,W=(((w.alloc (mvO (im v))).alloc (tyMO t)).alloc mvZ):=⟨_,rfl⟩
 rw [←hW] at HB L0 L1 L2
 have HW:Hid (W=(((w.alloc (mvO (im v))).alloc (tyMO t)).alloc mvZ)):=hW
 have HL0:Hid (W.heap[w.heap.size]?=some (.cells #[.int .i64 (im v).kind,.int .i64 (im v).n] 110 (0,0))):=L0
 have HL1:Hid (W.heap[w.heap.size+1]?=some (.cells #[.int .i64 t.kind,.int .i64 t.cls] 54 (0,0))):=L1
 have HL2:Hid (W.heap[w.heap.size+1+1]?=some (.cells #[.int .i64 0,.int .i64 0] 110 (0,0))):=L2
 clear R L0 L1 L2 hW
 have Hk:Hid ((im v).kind=t.kind):=hk
 have hd:decide (t.kind=3)=false:=decide_eq_false h3
 have hb:(t.kind==3)=false:=by simpa using h3
 clear hk h3
 go_enter Try.func132,Try.ntmps132
 go_wp2_with (go_at_call 111;rw [←HW.out];refine (mustbe_yes (im v) t.kind _ Hk.out).mono ?_;rintro e w1 ⟨rfl,b1⟩;have q0:=bl_blk b1 HL0.out;have q1:=bl_blk b1 HL1.out;have q2:=bl_blk b1 HL2.out;have c0:=c0_of q0;have c1:=c1_of q0;have c2:=c0_of q1;have c3:=c1_of q1;have c4:=c0_of q2;have c5:=c1_of q2;have fz:=free_blk q2;replace q0:=hid q0;replace q1:=hid q1;replace q2:=hid q2;replace b1:=hid b1)
 refine bodyPost_ret (results_cell_row rfl _ _ (w.heap.size+1+1) _ _ _ _ rfl (set_two q2.out) Try.underlying110 rfl info_mv) rfl ?_
 exact ⟨rfl,bl_two (HB.out.trans b1.out) (by omega) _ _⟩
set_option maxRecDepth 100000 in
theorem mfit_nil (g:Mg) (h:Hp) (v:Va) (t:Ty) (w:World) (R:HRd w g h) (hk:v.kind=3) (h3:t.kind=3) (hv:v.n=-1) :
  Calls Try.prog 132 #[.pointer (some ⟨g.hb,0,none⟩),mvV (im v),tyMV t] w fun e w'=>e=.returned (mvV (im v))∧Bl w w':=by
 obtain ⟨L0,L1,L2⟩:=three_lie w #[.int .i64 (im v).kind,.int .i64 (im v).n] #[.int .i64 t.kind,.int .i64 t.cls] #[.int .i64 0,.int .i64 0] 110 54 110
 have HB:Hid (Bl w (((w.alloc (mvO (im v))).alloc (tyMO t)).alloc mvZ)):=(((Bl.refl w).alloc _).alloc _).alloc _
 have HR:Hid (HRd w g h):=R
 obtain ⟨W,hW⟩:∃W,W=(((w.alloc (mvO (im v))).alloc (tyMO t)).alloc mvZ):=⟨_,rfl⟩
 rw [←hW] at HB L0 L1 L2
 have HW:Hid (W=(((w.alloc (mvO (im v))).alloc (tyMO t)).alloc mvZ)):=hW
 have HL0:Hid (W.heap[w.heap.size]?=some (.cells #[.int .i64 (im v).kind,.int .i64 (im v).n] 110 (0,0))):=L0
 have HL1:Hid (W.heap[w.heap.size+1]?=some (.cells #[.int .i64 t.kind,.int .i64 t.cls] 54 (0,0))):=L1
 have HL2:Hid (W.heap[w.heap.size+1+1]?=some (.cells #[.int .i64 0,.int .i64 0] 110 (0,0))):=L2
 clear R L0 L1 L2 hW
 have Hk:Hid ((im v).kind=t.kind):=by rw [h3];exact hk
 have HN:Hid (isN (im v)=true):=isN_yes hk hv
 have hd:decide (t.kind=3)=true:=decide_eq_true h3
 have hb:(t.kind==3)=true:=by simpa using h3
 clear hk h3
 go_enter Try.func132,Try.ntmps132
 go_wp2_with (first|(go_at_call 111;rw [←HW.out];refine (mustbe_yes (im v) t.kind _ Hk.out).mono ?_;rintro e w1 ⟨rfl,b1⟩;have q0:=bl_blk b1 HL0.out;have q1:=bl_blk b1 HL1.out;have q2:=bl_blk b1 HL2.out;have c0:=c0_of q0;have c1:=c1_of q0;have c2:=c0_of q1;have c3:=c1_of q1;have c4:=c0_of q2;have c5:=c1_of q2;have fz:=free_blk q2;replace q0:=hid q0;replace q1:=hid q1;replace q2:=hid q2;replace b1:=hid b1)|(go_at_call 89;refine (isNothing_any (im v) _).mono ?_;rintro e w2 ⟨he,b2⟩;rw [HN.out] at he;subst he;replace q0:=hid (bl_blk b2 q0.out);replace q1:=hid (bl_blk b2 q1.out);replace q2:=hid (bl_blk b2 q2.out);replace b1:=hid (b1.out.trans b2);clear c0 c1 c2 c3 c4 c5 fz;have c0:=c0_of q0.out;have c1:=c1_of q0.out;have c2:=c0_of q1.out;have c3:=c1_of q1.out;have c4:=c0_of q2.out;have c5:=c1_of q2.out;have fz:=free_blk q2.out))
 refine bodyPost_ret (results_cell_row rfl _ _ (w.heap.size+1+1) _ _ _ _ rfl (set_two q2.out) Try.underlying110 rfl info_mv) rfl ?_
 exact ⟨rfl,bl_two (HB.out.trans b1.out) (by omega) _ _⟩
set_option maxRecDepth 100000 in
theorem mfit_ref (g:Mg) (h:Hp) (v:Va) (t:Ty) (w:World) (R:HRd w g h) (hk:v.kind=3) (h3:t.kind=3) (hv:0≤v.n) (hn:v.n<h.objs.length) (hz:belI h.file.classes (h.obj v.n).cls t.cls=true) :
  Calls Try.prog 132 #[.pointer (some ⟨g.hb,0,none⟩),mvV (im v),tyMV t] w fun e w'=>e=.returned (mvV (im v))∧Bl w w':=by
 obtain ⟨L0,L1,L2⟩:=three_lie w #[.int .i64 (im v).kind,.int .i64 (im v).n] #[.int .i64 t.kind,.int .i64 t.cls] #[.int .i64 0,.int .i64 0] 110 54 110
 have HB:Hid (Bl w (((w.alloc (mvO (im v))).alloc (tyMO t)).alloc mvZ)):=(((Bl.refl w).alloc _).alloc _).alloc _
 have HR:Hid (HRd w g h):=R
 obtain ⟨W,hW⟩:∃W,W=(((w.alloc (mvO (im v))).alloc (tyMO t)).alloc mvZ):=⟨_,rfl⟩
 rw [←hW] at HB L0 L1 L2
 have HW:Hid (W=(((w.alloc (mvO (im v))).alloc (tyMO t)).alloc mvZ)):=hW
 have HL0:Hid (W.heap[w.heap.size]?=some (.cells #[.int .i64 (im v).kind,.int .i64 (im v).n] 110 (0,0))):=L0
 have HL1:Hid (W.heap[w.heap.size+1]?=some (.cells #[.int .i64 t.kind,.int .i64 t.cls] 54 (0,0))):=L1
 have HL2:Hid (W.heap[w.heap.size+1+1]?=some (.cells #[.int .i64 0,.int .i64 0] 110 (0,0))):=L2
 clear R L0 L1 L2 hW
 have Hk:Hid ((im v).kind=t.kind):=by rw [h3];exact hk
 have HV:Hid (v.kind=3∧0≤v.n∧v.n<h.objs.length):=⟨hk,hv,hn⟩
 have HN:Hid (isN (im v)=false):=isN_no hk hv
 have HZ:Hid (belI h.file.classes (h.obj v.n).cls t.cls=true):=hz
 have hd:decide (t.kind=3)=true:=decide_eq_true h3
 have hb:(t.kind==3)=true:=by simpa using h3
 clear hk h3 hv hn hz
 go_enter Try.func132,Try.ntmps132
 go_wp2_with (first|(go_at_call 111;rw [←HW.out];refine (mustbe_yes (im v) t.kind _ Hk.out).mono ?_;rintro e w1 ⟨rfl,b1⟩;have q0:=bl_blk b1 HL0.out;have q1:=bl_blk b1 HL1.out;have q2:=bl_blk b1 HL2.out;have c0:=c0_of q0;have c1:=c1_of q0;have c2:=c0_of q1;have c3:=c1_of q1;have c4:=c0_of q2;have c5:=c1_of q2;have fz:=free_blk q2;replace q0:=hid q0;replace q1:=hid q1;replace q2:=hid q2;replace b1:=hid b1)|(go_at_call 89;refine (isNothing_any (im v) _).mono ?_;rintro e w2 ⟨he,b2⟩;rw [HN.out] at he;subst he;replace q0:=hid (bl_blk b2 q0.out);replace q1:=hid (bl_blk b2 q1.out);replace q2:=hid (bl_blk b2 q2.out);replace b1:=hid (b1.out.trans b2);clear c0 c1 c2 c3 c4 c5 fz;have c0:=c0_of q0.out;have c1:=c1_of q0.out;have c2:=c0_of q1.out;have c3:=c1_of q1.out;have c4:=c0_of q2.out;have c5:=c1_of q2.out;have fz:=free_blk q2.out)|(go_at_call 121;refine (mbelow_yes g h v t.cls _ (HR.out.bl (HB.out.trans b1.out)) HV.out.1 HV.out.2.1 HV.out.2.2).mono ?_;rintro e w3 ⟨he,b3⟩;rw [HZ.out] at he;subst he;replace q0:=hid (bl_blk b3 q0.out);replace q1:=hid (bl_blk b3 q1.out);replace q2:=hid (bl_blk b3 q2.out);replace b1:=hid (b1.out.trans b3);clear c0 c1 c2 c3 c4 c5 fz;have c0:=c0_of q0.out;have c1:=c1_of q0.out;have c2:=c0_of q1.out;have c3:=c1_of q1.out;have c4:=c0_of q2.out;have c5:=c1_of q2.out;have fz:=free_blk q2.out))
 refine bodyPost_ret (results_cell_row rfl _ _ (w.heap.size+1+1) _ _ _ _ rfl (set_two q2.out) Try.underlying110 rfl info_mv) rfl ?_
 exact ⟨rfl,bl_two (HB.out.trans b1.out) (by omega) _ _⟩
set_option maxRecDepth 100000 in
theorem mfit_bad (g:Mg) (h:Hp) (v:Va) (t:Ty) (w:World) (R:HRd w g h) (hk:v.kind=3) (h3:t.kind=3) (hv:0≤v.n) (hn:v.n<h.objs.length) (hz:belI h.file.classes (h.obj v.n).cls t.cls=false) :
  Calls Try.prog 132 #[.pointer (some ⟨g.hb,0,none⟩),mvV (im v),tyMV t] w fun e w'=>e=stopE 6 0 0∧Bl w w':=by
 obtain ⟨L0,L1,L2⟩:=three_lie w #[.int .i64 (im v).kind,.int .i64 (im v).n] #[.int .i64 t.kind,.int .i64 t.cls] #[.int .i64 0,.int .i64 0] 110 54 110
 have HB:Hid (Bl w (((w.alloc (mvO (im v))).alloc (tyMO t)).alloc mvZ)):=(((Bl.refl w).alloc _).alloc _).alloc _
 have HR:Hid (HRd w g h):=R
 obtain ⟨W,hW⟩:∃W,W=(((w.alloc (mvO (im v))).alloc (tyMO t)).alloc mvZ):=⟨_,rfl⟩
 rw [←hW] at HB L0 L1 L2
 have HW:Hid (W=(((w.alloc (mvO (im v))).alloc (tyMO t)).alloc mvZ)):=hW
 have HL0:Hid (W.heap[w.heap.size]?=some (.cells #[.int .i64 (im v).kind,.int .i64 (im v).n] 110 (0,0))):=L0
 have HL1:Hid (W.heap[w.heap.size+1]?=some (.cells #[.int .i64 t.kind,.int .i64 t.cls] 54 (0,0))):=L1
 have HL2:Hid (W.heap[w.heap.size+1+1]?=some (.cells #[.int .i64 0,.int .i64 0] 110 (0,0))):=L2
 clear R L0 L1 L2 hW
 have Hk:Hid ((im v).kind=t.kind):=by rw [h3];exact hk
 have HV:Hid (v.kind=3∧0≤v.n∧v.n<h.objs.length):=⟨hk,hv,hn⟩
 have HN:Hid (isN (im v)=false):=isN_no hk hv
 have HZ:Hid (belI h.file.classes (h.obj v.n).cls t.cls=false):=hz
 have hd:decide (t.kind=3)=true:=decide_eq_true h3
 have hb:(t.kind==3)=true:=by simpa using h3
 clear hk h3 hv hn hz
 go_enter Try.func132,Try.ntmps132
 go_wp2_with (first|(go_at_call 111;rw [←HW.out];refine (mustbe_yes (im v) t.kind _ Hk.out).mono ?_;rintro e w1 ⟨rfl,b1⟩;have q0:=bl_blk b1 HL0.out;have q1:=bl_blk b1 HL1.out;have q2:=bl_blk b1 HL2.out;have c0:=c0_of q0;have c1:=c1_of q0;have c2:=c0_of q1;have c3:=c1_of q1;have c4:=c0_of q2;have c5:=c1_of q2;have fz:=free_blk q2;replace q0:=hid q0;replace q1:=hid q1;replace q2:=hid q2;replace b1:=hid b1)|(go_at_call 89;refine (isNothing_any (im v) _).mono ?_;rintro e w2 ⟨he,b2⟩;rw [HN.out] at he;subst he;replace q0:=hid (bl_blk b2 q0.out);replace q1:=hid (bl_blk b2 q1.out);replace q2:=hid (bl_blk b2 q2.out);replace b1:=hid (b1.out.trans b2);clear c0 c1 c2 c3 c4 c5 fz;have c0:=c0_of q0.out;have c1:=c1_of q0.out;have c2:=c0_of q1.out;have c3:=c1_of q1.out;have c4:=c0_of q2.out;have c5:=c1_of q2.out;have fz:=free_blk q2.out)|(go_at_call 121;refine (mbelow_yes g h v t.cls _ (HR.out.bl (HB.out.trans b1.out)) HV.out.1 HV.out.2.1 HV.out.2.2).mono ?_;rintro e w3 ⟨he,b3⟩;rw [HZ.out] at he;subst he;replace q0:=hid (bl_blk b3 q0.out);replace q1:=hid (bl_blk b3 q1.out);replace q2:=hid (bl_blk b3 q2.out);replace b1:=hid (b1.out.trans b3);clear c0 c1 c2 c3 c4 c5 fz;have c0:=c0_of q0.out;have c1:=c1_of q0.out;have c2:=c0_of q1.out;have c3:=c1_of q1.out;have c4:=c0_of q2.out;have c5:=c1_of q2.out;have fz:=free_blk q2.out)|(go_at_call 86;refine (mstuck_any _).mono ?_;rintro e w4 ⟨rfl,hw⟩;rw [hw];clear hw w4))
 exact ⟨rfl,rfl,HB.out.trans b1.out⟩
set_option maxRecDepth 100000 in
theorem mfit_kind (g:Mg) (h:Hp) (v:Va) (t:Ty) (w:World) (R:HRd w g h) (hk:v.kind≠t.kind) :
  Calls Try.prog 132 #[.pointer (some ⟨g.hb,0,none⟩),mvV (im v),tyMV t] w fun e w'=>e=stopE 6 0 0∧Bl w w':=by
 obtain ⟨L0,L1,L2⟩:=three_lie w #[.int .i64 (im v).kind,.int .i64 (im v).n] #[.int .i64 t.kind,.int .i64 t.cls] #[.int .i64 0,.int .i64 0] 110 54 110
 have HB:Hid (Bl w (((w.alloc (mvO (im v))).alloc (tyMO t)).alloc mvZ)):=(((Bl.refl w).alloc _).alloc _).alloc _
 have HR:Hid (HRd w g h):=R
 obtain ⟨W,hW⟩:∃W,W=(((w.alloc (mvO (im v))).alloc (tyMO t)).alloc mvZ):=⟨_,rfl⟩
 rw [←hW] at HB L0 L1 L2
 have HW:Hid (W=(((w.alloc (mvO (im v))).alloc (tyMO t)).alloc mvZ)):=hW
 have HL0:Hid (W.heap[w.heap.size]?=some (.cells #[.int .i64 (im v).kind,.int .i64 (im v).n] 110 (0,0))):=L0
 have HL1:Hid (W.heap[w.heap.size+1]?=some (.cells #[.int .i64 t.kind,.int .i64 t.cls] 54 (0,0))):=L1
 have HL2:Hid (W.heap[w.heap.size+1+1]?=some (.cells #[.int .i64 0,.int .i64 0] 110 (0,0))):=L2
 clear R L0 L1 L2 hW
 have Hk:Hid ((im v).kind≠t.kind):=hk
 clear hk
 go_enter Try.func132,Try.ntmps132
 go_wp2_with (go_at_call 111;rw [←HW.out];refine (mustbe_no (im v) t.kind _ Hk.out).mono ?_;rintro e w1 ⟨rfl,b1⟩;have q0:=bl_blk b1 HL0.out;have q1:=bl_blk b1 HL1.out;have q2:=bl_blk b1 HL2.out;have c0:=c0_of q0;have c1:=c1_of q0;have c2:=c0_of q1;have c3:=c1_of q1;have c4:=c0_of q2;have c5:=c1_of q2;have fz:=free_blk q2;replace q0:=hid q0;replace q1:=hid q1;replace q2:=hid q2;replace b1:=hid b1)
 exact ⟨rfl,rfl,HB.out.trans b1.out⟩
theorem mfit_yes (g:Mg) (h:Hp) (v:Va) (t:Ty) (w:World) (R:HRd w g h) (hv:v.kind=3→-1≤v.n∧v.n<h.objs.length) (ho:h.of v t=true) :
  Calls Try.prog 132 #[.pointer (some ⟨g.hb,0,none⟩),mvV (im v),tyMV t] w fun e w'=>e=.returned (mvV (im v))∧Bl w w':=by
 unfold Hp.of at ho
 rw [Bool.and_eq_true,Bool.or_eq_true,Bool.or_eq_true] at ho
 obtain ⟨h1,h2⟩:=ho
 have hk:=of_decide_eq_true h1
 by_cases h3:t.kind=3
 ·have hk3:v.kind=3:=hk.trans h3
  obtain ⟨v1,v2⟩:=hv hk3
  by_cases hn:v.n=-1
  ·exact mfit_nil g h v t w R hk3 h3 hn
  ·refine mfit_ref g h v t w R hk3 h3 (by omega) v2 ?_
   rcases h2 with h2|h2|h2
   ·exact absurd h3 (of_decide_eq_true h2)
   ·have:=of_decide_eq_true h2;omega
   ·exact h2
 ·exact mfit_num g h v t w R hk h3
theorem mfit_no (g:Mg) (h:Hp) (v:Va) (t:Ty) (w:World) (R:HRd w g h) (hv:v.kind=3→-1≤v.n∧v.n<h.objs.length) (ho:h.of v t=false) :
  Calls Try.prog 132 #[.pointer (some ⟨g.hb,0,none⟩),mvV (im v),tyMV t] w fun e w'=>e=stopE 6 0 0∧Bl w w':=by
 by_cases hk:v.kind=t.kind
 ·unfold Hp.of at ho
  rw [decide_eq_true hk,Bool.true_and,Bool.or_eq_false_iff,Bool.or_eq_false_iff] at ho
  obtain ⟨h1,h2,h3⟩:=ho
  have ht:t.kind=3:=by simpa using h1
  have hk3:v.kind=3:=hk.trans ht
  have hn:¬v.n<0:=of_decide_eq_false h2
  exact mfit_bad g h v t w R hk3 ht (by omega) (hv hk3).2 h3
 ·exact mfit_kind g h v t w R hk
def RXY (s:Nat) (X Y:Nat→Prop) (wx w0:World) (g:Mg) (w:World) (h:Hp) (qs:List Nat) (a:Mc) (c:Cal):Prop :=
 ∃vc vo vx vs l,RXA s X wx w0 g w h qs a c vc vo vx vs l∧∀b,Y b→b<w.heap.size∧w0.heap.size≤b∧¬X b∧FarR g vc vo vx b∧FarC a vs b
def noY:Nat→Prop:=fun _=>False
theorem RX.y {s:Nat} {X:Nat→Prop} {wx w0 w:World} {g:Mg} {h:Hp} {qs:List Nat} {a:Mc} {c:Cal} (H:RX s X wx w0 g w h qs a c):RXY s X noY wx w0 g w h qs a c:=by
 obtain ⟨vc,vo,vx,vs,l,H⟩:=H
 exact ⟨vc,vo,vx,vs,l,H,fun b hb=>absurd hb (fun x=>x)⟩
theorem RXY.x {s:Nat} {X Y:Nat→Prop} {wx w0 w:World} {g:Mg} {h:Hp} {qs:List Nat} {a:Mc} {c:Cal} (H:RXY s X Y wx w0 g w h qs a c):RX s X wx w0 g w h qs a c:=by
 obtain ⟨vc,vo,vx,vs,l,H,-⟩:=H
 exact ⟨vc,vo,vx,vs,l,H⟩
theorem RXY.size {s:Nat} {X Y:Nat→Prop} {wx w0 w:World} {g:Mg} {h:Hp} {qs:List Nat} {a:Mc} {c:Cal} (H:RXY s X Y wx w0 g w h qs a c):w0.heap.size≤w.heap.size:=by
 obtain ⟨vc,vo,vx,vs,l,H,-⟩:=H
 exact H.rh.bl.size
theorem RX.size {s:Nat} {X:Nat→Prop} {wx w0 w:World} {g:Mg} {h:Hp} {qs:List Nat} {a:Mc} {c:Cal} (H:RX s X wx w0 g w h qs a c):w0.heap.size≤w.heap.size:=H.y.size
theorem RXY.bl {s:Nat} {X Y:Nat→Prop} {wx w0 w w':World} {g:Mg} {h:Hp} {qs:List Nat} {a:Mc} {c:Cal} (H:RXY s X Y wx w0 g w h qs a c) (hb:Bl w w'):RXY s X (Xp Y w.heap.size w'.heap.size) wx w0 g w' h qs a c:=by
 have hs:=H.size
 obtain ⟨vc,vo,vx,vs,l,H,F⟩:=H
 refine ⟨vc,vo,vx,vs,l,H.bl hb,fun b hy=>?_⟩
 have hsz:=hb.size
 rcases hy with hy|hy
 ·obtain ⟨h1,h2,h3,h4,h5⟩:=F b hy
  exact ⟨by omega,h2,h3,h4,h5⟩
 ·refine ⟨hy.2,by omega,fun hx=>?_,H.rh.farNew hy.1,H.ca.farNew hy.1⟩
  have:=(H.kept.blk b hx).1
  have:=H.kept.size
  omega
theorem RXY.less {s:Nat} {X Y Z:Nat→Prop} {wx w0 w:World} {g:Mg} {h:Hp} {qs:List Nat} {a:Mc} {c:Cal} (H:RXY s X Y wx w0 g w h qs a c) (hz:∀b,Z b→Y b):RXY s X Z wx w0 g w h qs a c:=by
 obtain ⟨vc,vo,vx,vs,l,H,F⟩:=H
 exact ⟨vc,vo,vx,vs,l,H,fun b hb=>F b (hz b hb)⟩
theorem RXY.set {s:Nat} {X Y:Nat→Prop} {wx w0 w:World} {g:Mg} {h:Hp} {qs:List Nat} {a:Mc} {c:Cal} (H:RXY s X Y wx w0 g w h qs a c) {b:Nat} (hb:Y b) (i:Nat) (v:Value):RXY s X Y wx w0 g (w.setCell ⟨b,i,none⟩ v) h qs a c:=by
 obtain ⟨vc,vo,vx,vs,l,H,F⟩:=H
 obtain ⟨h1,h2,h3,h4,h5⟩:=F b hb
 have hg:=grown_set (w:=w) b i v
 refine ⟨vc,vo,vx,vs,l,⟨H.rh.kept hg (fun x e=>?_),H.ca.kept hg (fun x e=>?_),H.farr,H.farc,H.kept.kept hg (fun x e hx=>?_)⟩,fun x hx=>?_⟩
 ·cases e;exact ⟨h2,h4⟩
 ·cases e;exact h5
 ·cases e;exact h3 hx
 ·obtain ⟨y1,y2⟩:=F x hx
  exact ⟨by simpa [World.setCell] using y1,y2⟩
structure KpY (Y:Nat→Prop) (w w':World):Prop where
 size:w.heap.size≤w'.heap.size
 blk:∀b,Y b→w'.heap[b]?=w.heap[b]?
theorem KpY.at {Y:Nat→Prop} {w w':World} (h:KpY Y w w') {b:Nat} {o:Obj} (hb:Y b) (ho:w.heap[b]?=some o):w'.heap[b]?=some o:=(h.blk b hb).trans ho
theorem KpY.to {Y:Nat→Prop} {w w' w2:World} (h:KpY Y w w') (hb:Bl w' w2) (hs:∀b,Y b→b<w.heap.size):KpY Y w w2 :=
 ⟨Nat.le_trans h.size hb.size,fun b hy=>(hb.block b (Nat.lt_of_lt_of_le (hs b hy) h.size)).trans (h.blk b hy)⟩
theorem RXY.wide {s:Nat} {X Y:Nat→Prop} {wx w0 w w':World} {g:Mg} {h:Hp} {qs:List Nat} {a:Mc} {c:Cal} (H:RXY s X Y wx w0 g w h qs a c) (hb:Bl w w'):RX s (fun b=>X b∨Xp Y w.heap.size w'.heap.size b) w' w0 g w' h qs a c:=by
 obtain ⟨vc,vo,vx,vs,l,H,F⟩:=H.bl hb
 refine ⟨vc,vo,vx,vs,l,H.rh,H.ca,?_,?_,Nat.le_refl _,fun b hx=>⟨?_,rfl⟩⟩
 ·rintro b (hx|hx)
  ·exact H.farr b hx
  ·exact (F b hx).2.2.2.1
 ·rintro b (hx|hx)
  ·exact H.farc b hx
  ·exact (F b hx).2.2.2.2
 ·rcases hx with hx|hx
  ·have:=(H.kept.blk b hx).1;have:=H.kept.size;omega
  ·exact (F b hx).1
theorem RXY.back {s s':Nat} {X Y:Nat→Prop} {wx w0 w w' w2:World} {g:Mg} {h h':Hp} {qs qs':List Nat} {a a':Mc} {c c':Cal} (H:RXY s X Y wx w0 g w h qs a c) (hb:Bl w w') (H2:RX s' (fun b=>X b∨Xp Y w.heap.size w'.heap.size b) w' w0 g w2 h' qs' a' c') :
  RXY s' X (Xp Y w.heap.size w'.heap.size) wx w0 g w2 h' qs' a' c'∧KpY (Xp Y w.heap.size w'.heap.size) w' w2:=by
 obtain ⟨vc,vo,vx,vs,l,H,F⟩:=H.bl hb
 obtain ⟨vc',vo',vx',vs',l',H2⟩:=H2
 refine ⟨⟨vc',vo',vx',vs',l',⟨H2.rh,H2.ca,fun b hx=>H2.farr b (Or.inl hx),fun b hx=>H2.farc b (Or.inl hx),Nat.le_trans H.kept.size H2.kept.size,fun b hx=>⟨(H.kept.blk b hx).1,?_⟩⟩,fun b hy=>?_⟩,H2.kept.size,fun b hy=>(H2.kept.blk b (Or.inr hy)).2⟩
 ·rw [(H2.kept.blk b (Or.inl hx)).2]
  exact (H.kept.blk b hx).2
 ·obtain ⟨h1,h2,h3,h4,h5⟩:=F b hy
  exact ⟨Nat.lt_of_lt_of_le h1 H2.kept.size,h2,h3,H2.farr b (Or.inr hy),H2.farc b (Or.inr hy)⟩
def RS (s:Nat) (X:Nat→Prop) (wx w0:World) (g:Mg) (w:World) (h:Hp) (qs:List Nat) (a:Mc) (c:Cal):Prop:=∃c':Cal,c'.m=c.m∧(c'.pc=c.pc∧c'.locs=c.locs)∧RX s X wx w0 g w h qs a c'
theorem RX.rs {s:Nat} {X:Nat→Prop} {wx w0 w:World} {g:Mg} {h:Hp} {qs:List Nat} {a:Mc} {c:Cal} (H:RX s X wx w0 g w h qs a c):RS s X wx w0 g w h qs a c:=⟨c,rfl,⟨rfl,rfl⟩,H⟩
theorem RXY.rs {s:Nat} {X Y:Nat→Prop} {wx w0 w:World} {g:Mg} {h:Hp} {qs:List Nat} {a:Mc} {c:Cal} (H:RXY s X Y wx w0 g w h qs a c):RS s X wx w0 g w h qs a c:=H.x.rs
theorem RS.of {s:Nat} {X:Nat→Prop} {wx w0 w:World} {g:Mg} {h:Hp} {qs:List Nat} {a:Mc} {c c':Cal} (H:RS s X wx w0 g w h qs a c) (h1:c.m=c'.m) (h2:c.pc=c'.pc∧c.locs=c'.locs):RS s X wx w0 g w h qs a c':=by
 obtain ⟨d,e1,e2,H⟩:=H
 exact ⟨d,e1.trans h1,⟨e2.1.trans h2.1,e2.2.trans h2.2⟩,H⟩
theorem RS.bl {s:Nat} {X:Nat→Prop} {wx w0 w w':World} {g:Mg} {h:Hp} {qs:List Nat} {a:Mc} {c:Cal} (H:RS s X wx w0 g w h qs a c) (hb:Bl w w'):RS s X wx w0 g w' h qs a c:=by
 obtain ⟨d,e1,e2,H⟩:=H
 exact ⟨d,e1,e2,H.bl hb⟩
theorem RXY.useY {s:Nat} {X Y:Nat→Prop} {wx w0 w w':World} {g:Mg} {h:Hp} {qs:List Nat} {a:Mc} {c:Cal} (H:RXY s X Y wx w0 g w h qs a c) (hb:Bl w w') {f:FuncId} {args:Array Value} {E:Ending} {s':Nat} {h':Hp} {qs':List Nat} {a':Mc} {c':Cal}
  (hc:∀X wx w,RX s X wx w0 g w h qs a c→Calls Try.prog f args w fun e w2=>e=E∧RX s' X wx w0 g w2 h' qs' a' c') :
  Calls Try.prog f args w' fun e w2=>e=E∧RXY s' X (Xp Y w.heap.size w'.heap.size) wx w0 g w2 h' qs' a' c'∧KpY (Xp Y w.heap.size w'.heap.size) w' w2:=by
 refine (hc _ _ _ (H.wide hb)).mono ?_
 rintro e w2 ⟨he,H2⟩
 obtain ⟨h3,h4⟩:=H.back hb H2
 exact ⟨he,h3,h4⟩
theorem RXY.useN {s:Nat} {X Y:Nat→Prop} {wx w0 w w':World} {g:Mg} {h:Hp} {qs:List Nat} {a:Mc} {c:Cal} (H:RXY s X Y wx w0 g w h qs a c) (hb:Bl w w') {f:FuncId} {args:Array Value} {E:Ending} {s':Nat} {h':Hp} {qs':List Nat} {a':Mc} {c':Cal}
  (hc:∀X wx w,RX s X wx w0 g w h qs a c→Calls Try.prog f args w fun e w2=>e=E∧RS s' X wx w0 g w2 h' qs' a' c') :
  Calls Try.prog f args w' fun e w2=>e=E∧RS s' X wx w0 g w2 h' qs' a' c':=by
 refine (hc _ _ _ (H.wide hb)).mono ?_
 rintro e w2 ⟨he,d,e1,e2,H2⟩
 exact ⟨he,d,e1,e2,(H.back hb H2).1.x⟩
theorem Xp.new {Y:Nat→Prop} {n m b:Nat} (h1:n≤b) (h2:b<m):Xp Y n m b:=Or.inr ⟨h1,h2⟩
theorem Xp.old {Y:Nat→Prop} {n m b:Nat} (h:Y b):Xp Y n m b:=Or.inl h
set_option maxRecDepth 100000 in
theorem takeKind_yes (s:Nat) (X:Nat→Prop) (wx w0:World) (g:Mg) (h:Hp) (qs:List Nat) (a:Mc) (c:Cal) (l:List Va) (v:Va) (k:Int) (w:World) (H:RX s X wx w0 g w h qs a c) (hs:c.stk=l++[v]) (hk:v.kind=k) :
  Calls Try.prog 88 #[.pointer (some ⟨a.q,0,none⟩),.int .i64 k] w fun e w'=>e=.returned (mvV (im v))∧RX s X wx w0 g w' h qs a { c with stk:=l }:=by
 have HH:Hid (RX s X wx w0 g w h qs a c):=H
 have HS:Hid (c.stk=l++[v]):=hs
 have HK:Hid ((im v).kind=k):=hk
 clear H hs hk
 go_enter Try.func88,Try.ntmps88
 go_wp2_with (first
  | (go_at_call 110;refine (HH.out.y.useY ((Bl.refl w).alloc _) (fun X wx w H=>mtake_yes s X wx w0 g h qs a c l v w H HS.out)).mono ?_;rintro e w1 ⟨rfl,H1,K1⟩;have H1:=hid H1;have q0:=K1.at (Xp.new (Nat.le_refl _) (by simp)) (blk_new w _ _);have K1:=hid K1)
  | (go_at_call 111;refine (mustbe_yes (im v) k _ HK.out).mono ?_;rintro e w2 ⟨rfl,b2⟩;replace q0:=bl_blk b2 q0;have c4:=c0_of q0;have c5:=c1_of q0;have fz:=free_blk q0;have b2:=hid b2;replace q0:=hid q0))
 refine bodyPost_ret (results_cell_row rfl _ _ w.heap.size _ _ _ _ rfl (set_two q0.out) Try.underlying110 rfl info_mv) rfl ?_
 refine ⟨rfl,RXY.x (RXY.set (RXY.set (H1.out.bl b2.out) ?_ 0 _) ?_ 1 _)⟩<;>exact Xp.old (Xp.new (Nat.le_refl _) (by simp))
set_option maxRecDepth 100000 in
theorem takeKind_no (s:Nat) (X:Nat→Prop) (wx w0:World) (g:Mg) (h:Hp) (qs:List Nat) (a:Mc) (c:Cal) (k:Int) (w:World) (H:RX s X wx w0 g w h qs a c) (hs:c.stk=[]∨∃l v,c.stk=l++[v]∧v.kind≠k) :
  Calls Try.prog 88 #[.pointer (some ⟨a.q,0,none⟩),.int .i64 k] w fun e w'=>e=stopE 6 0 0∧RS s X wx w0 g w' h qs a c:=by
 have HH:Hid (RX s X wx w0 g w h qs a c):=H
 clear H
 rcases hs with hs|⟨l,v,hs,hk⟩
 ·have HS:Hid (c.stk=[]):=hs
  clear hs
  go_enter Try.func88,Try.ntmps88
  go_wp2_with (go_at_call 110;refine (HH.out.y.useY ((Bl.refl w).alloc _) (fun X wx w H=>mtake_no s X wx w0 g h qs a c w H HS.out)).mono ?_;rintro e w1 ⟨rfl,H1,K1⟩)
  exact ⟨rfl,rfl,H1.rs⟩
 ·have HS:Hid (c.stk=l++[v]):=hs
  have HK:Hid ((im v).kind≠k):=hk
  clear hs hk
  go_enter Try.func88,Try.ntmps88
  go_wp2_with (first
   | (go_at_call 110;refine (HH.out.y.useY ((Bl.refl w).alloc _) (fun X wx w H=>mtake_yes s X wx w0 g h qs a c l v w H HS.out)).mono ?_;rintro e w1 ⟨rfl,H1,K1⟩;have H1:=hid H1;have K1:=hid K1)
   | (go_at_call 111;refine (mustbe_no (im v) k _ HK.out).mono ?_;rintro e w2 ⟨rfl,b2⟩;have b2:=hid b2))
  exact ⟨rfl,rfl,(H1.out.bl b2.out).rs.of rfl ⟨rfl,rfl⟩⟩
theorem takeH {P:Program} {md:Region.Mode} {ops:Array Oper} {Q:Exit→Act→World→Prop} {S:World→Prop} {i:Nat} {oi:Oper} {d:Option Tmp} {v:Value} {fuel:Nat} {listed:Array Bool} {a:Act} {w:World} (hi:ops[i]?=some oi) (hd:oi.dst=d)
  (hs:Region.noSelect ops=true) (hf:Region.free md ops listed i=true) (hr:(Region.ready md ops listed).contains i=true)
  (hQ:∀c a w,Q (.panic c) (a.put oi.dst v) w→Q (.panic c) a w) (hw:Region.wanted oi (yielded ops a.tmps)=true) (hy:∀w,S w→(execOp a.eval oi).run P w=.ok (.value v) w) (hS:S w)
  (h:wpAnyH P md ops Q S fuel (listed.setIfInBounds i true) (a.put d v) w):wpAnyH P md ops Q S (fuel+1) listed a w :=
 wpAnyH_take hi hs hf hr hQ (Or.inl ⟨hw,hy⟩) hS (hd▸h)
def qOp:Op→Bool
 | .call c=>match c.callee with | .builtin .len=>true|_=>false
 | .move _ | .assign _ | .fieldAddr .. | .nilCheck _ | .load .. | .binOp .. | .unOp .. | .indexAddr .. | .build .. | .slice .. | .index .. | .extract .. | .convert .. | .field .. | .pick .. | .lookup ..=>true
 | _=>false
def nxA (md:Region.Mode) (l:List Bool):List Edge→Bool
 | []=>true
 | e::es=>(!Region.binds md e||l.getD e.on false)&&nxA md l es
def nxL (md:Region.Mode) (l:List Bool) (k:Nat):List Oper→List Bool→Option Nat
 | o::os,b::bs=>match !b&&(qOp o.op&&nxA md l o.after.toList) with
  | true=>some k
  | false=>nxL md l (k+1) os bs
 | _,_=>none
theorem tn {P:Program} {md:Region.Mode} {ops:Array Oper} {Q:Exit→Act→World→Prop} {S:World→Prop} {i:Nat} {oi:Oper} {d:Option Tmp} {v:Value} {fuel:Nat} {listed:Array Bool} {a:Act} {w:World} (hn:nxL md listed.toList 0 ops.toList listed.toList=some i) (hi:ops[i]?=some oi) (hd:oi.dst=d)
  (hr:(Region.noSelect ops&&(Region.free md ops listed i&&(Region.ready md ops listed).contains i))=true)
  (hQ:∀c a w,Q (.panic c) (a.put oi.dst v) w→Q (.panic c) a w) (hw:Region.wanted oi (yielded ops a.tmps)=true) (hy:∀w,S w→(execOp a.eval oi).run P w=.ok (.value v) w) (hS:S w)
  (h:wpAnyH P md ops Q S fuel (listed.setIfInBounds i true) (a.put d v) w):wpAnyH P md ops Q S (fuel+1) listed a w:=by
 rw [Bool.and_eq_true,Bool.and_eq_true] at hr
 exact takeH hi hd hr.1 hr.2.1 hr.2.2 hQ hw hy hS h
theorem tk {P:Program} {md:Region.Mode} {ops:Array Oper} {Q:Exit→Act→World→Prop} {S:World→Prop} {i:Nat} {oi:Oper} {d:Option Tmp} {v:Value} {fuel:Nat} {listed:Array Bool} {a:Act} {w:World} (hi:ops[i]?=some oi) (hd:oi.dst=d)
  (hr:(Region.noSelect ops&&(Region.free md ops listed i&&(Region.ready md ops listed).contains i))=true)
  (hQ:∀c a w,Q (.panic c) (a.put oi.dst v) w→Q (.panic c) a w) (hw:Region.wanted oi (yielded ops a.tmps)=true) (hy:∀w,S w→(execOp a.eval oi).run P w=.ok (.value v) w) (hS:S w)
  (h:wpAnyH P md ops Q S fuel (listed.setIfInBounds i true) (a.put d v) w):wpAnyH P md ops Q S (fuel+1) listed a w:=by
 rw [Bool.and_eq_true,Bool.and_eq_true] at hr
 exact takeH hi hd hr.1 hr.2.1 hr.2.2 hQ hw hy hS h
theorem rd1 {P:Program} {md:Region.Mode} {ops:Array Oper} {Q:Exit→Act→World→Prop} {S:World→Prop} {fuel:Nat} {listed:Array Bool} {a:Act} {w:World} {i:Nat} {o:Oper} (hr:Region.ready md ops listed=[i]) (ho:ops[i]?=some o)
  (h:∀K':Act→World→Prop,Shut (∀a w,S w→(S w→wpAnyH P md ops Q S fuel (listed.setIfInBounds i true) a w)→K' a w)→if Region.wanted o (yielded ops a.tmps)=true then Oper.wp P o a w K' Q else K' (a.put o.dst undef) w):wpAnyH P md ops Q S (fuel+1) listed a w :=
 wpAnyH_ready hr (by simp) (AllReadyH.cons ho h AllReadyH.nil)
theorem aS (a:Act) (t:Tmp) (v:Value):a.put (some t) v={ a with tmps:=a.tmps.setIfInBounds t v }:=rfl
theorem aN (a:Act) (v:Value):a.put none v=a:=rfl
theorem aT {α:Type} (l:List α) (i:Nat) (x:α):l.toArray.setIfInBounds i x=(l.set i x).toArray:=List.setIfInBounds_toArray ..
theorem a0 {α:Type} (x y:α) (l:List α):(x::l).set 0 y=y::l:=rfl
theorem a1 {α:Type} (x y:α) (l:List α) (n:Nat):(x::l).set (n+1) y=x::l.set n y:=rfl
end Go.Proofs.Ytimjmdfokicbkaa
