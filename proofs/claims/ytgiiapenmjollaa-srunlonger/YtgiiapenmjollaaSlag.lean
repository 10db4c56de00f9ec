import Derived.Test.YtgiiapenmjollaaSlaf
import Derived.BigQuiet
import Derived.Laws.StructEq
import Derived.Deep.RegionHeld3
namespace Go.Proofs.Ytgiiapenmjollaa
set_option linter.all false
set_option maxHeartbeats 40000000
open Go.RowKit
structure HRd (w:World) (g:Mg) (h:Hp):Prop where
 A:w.cell? ⟨g.hb,0,none⟩=some (.slice g.A h.file.classes.length g.a)
 O:h.objs.length=0∨∃gb cap,w.cell? ⟨g.hb,1,none⟩=some (.slice (some ⟨gb,0,none⟩) h.objs.length cap)∧∀i,i<h.objs.length→w.cell? ⟨gb,i,none⟩=some (.int .i64 (nth ob0 h.objs i).cls)
 cls:ClsAt w g.A h.file.classes
 may:mayB h.file.classes=true
 few:h.objs.length≤100
theorem HRd.bl {w w':World} {g:Mg} {h:Hp} (H:HRd w g h) (hb:Bl w w'):HRd w' g h:=by
 refine ⟨hb.cell H.A,?_,H.cls.bl hb,H.may,H.few⟩
 rcases H.O with h0|⟨gb,cap,h1,h2⟩
 ·exact Or.inl h0
 ·exact Or.inr ⟨gb,cap,hb.cell h1,fun i hi=>hb.cell (h2 i hi)⟩
structure Fix (w0:World) (g:Mg) (h:Hp):Prop where
 cls:ClsAt w0 g.A h.file.classes
 mes:MesAt w0 g.M h.file.methods
 inp:IntsAt w0 g.I h.input
 may:mayB h.file.classes=true
theorem RH.rd {s:Nat} {w0 w:World} {g:Mg} {h:Hp} {qs:List Nat} {vc vo vx:Value} (H:RH s w0 g w h qs vc vo vx) (F:Fix w0 g h) (hf:h.objs.length≤100):HRd w g h:=by
 refine ⟨by rw [cell_blk H.hp];rfl,?_,F.cls.bl H.bl,F.may,hf⟩
 rcases H.obs.2 with ⟨h1,h0⟩|⟨gb,cap,cur,rfl,h2,h3,h4,h5,h6,h7⟩
 ·exact Or.inl h0
 ·refine Or.inr ⟨gb,cap,by rw [cell_blk H.hp];rfl,fun i hi=>?_⟩
  have e:(h.objs.map (fun o=>Value.int .i64 o.cls))[i]?=some (.int .i64 (nth ob0 h.objs i).cls):=by
   rw [List.getElem?_map,List.getElem?_eq_getElem hi,nth_get hi];rfl
  rw [←h7,List.getElem?_take,if_pos (by omega)] at e
  rw [cell_blk h3]
  simpa using e
theorem RX.rd {s:Nat} {X:Nat→Prop} {wx w0 w:World} {g:Mg} {h:Hp} {qs:List Nat} {a:Mc} {c:Cal} (H:RX s X wx w0 g w h qs a c) (F:Fix w0 g h) (hf:h.objs.length≤100):HRd w g h:=by
 obtain ⟨vc,vo,vx,vs,l,H⟩:=H
 exact H.rh.rd F hf
theorem nothing_any (w:World):Calls Try.prog 113 #[] w fun e w'=>e=.returned (mvV ⟨3,0⟩)∧Bl w w':=by
 go_enter Try.func113,Try.ntmps113
 go_wp2
 refine bodyPost_ret (results_cell_row rfl _ _ w.heap.size _ _ _ _ rfl (blk_new _ _ _) Try.underlying109 rfl info_mv) rfl ?_
 exact ⟨rfl,(Bl.refl w).alloc _⟩
def isN (u:Va):Bool:=decide (u.kind=3)&&decide (u.n=0)
theorem mv_fields:Try.prog.underlying 109=some (.struct (Try.prog.fieldsOf 109)):=by kernel_rfl
theorem mv_held:Try.prog.stoodInHeld 109=false:=by kernel_rfl
theorem eql_mv (a b c d:Int) (w:World):(binOp .eql 109 (.agg #[.int .i64 a,.int .i64 b]) (.agg #[.int .i64 c,.int .i64 d])).run Try.prog w=.ok (.bool (decide (a=c)&&decide (b=d))) w:=by
 rw [run_eql_struct,run_equalIn_agg w 9999 _ _ _ mv_fields mv_held]
 simp [go_sem,Try.underlying109,Try.underlying3,Try.underlying2]
 by_cases h1:a=c<;>by_cases h2:b=d<;>simp [h1,h2]
theorem isNothing_any (u:Va) (w:World):Calls Try.prog 90 #[mvV u] w fun e w'=>e=.returned (.bool (isN u))∧Bl w w':=by
 have HB:Hid (Bl w (w.alloc (.cells #[.int .i64 u.kind,.int .i64 u.n] 109))):=(Bl.refl w).alloc _
 have hq:=fun w=>eql_mv u.kind u.n 3 0 w
 go_enter Try.func90,Try.ntmps90
 go_wp2
 have x0:∀x:Fut (w.alloc (.cells #[.int .i64 u.kind,.int .i64 u.n] 109)),x.to.cell? ⟨w.heap.size,0,none⟩=some (.int .i64 u.kind):=fut_cell (cell_of_new rfl)
 have x1:∀x:Fut (w.alloc (.cells #[.int .i64 u.kind,.int .i64 u.n] 109)),x.to.cell? ⟨w.heap.size,1,none⟩=some (.int .i64 u.n):=fut_cell (cell_of_new rfl)
 refine wp_region_fut (by kernel_rfl) (by kernel_rfl) fun hne=>?_
 repeat (go_big_quiet_step ((go_at_call 113;exact Calls.fut_eq _ (nothing_any _) rfl)))
 refine wpQuiet_nil ?_
 rintro _ ⟨⟨w2,hw2⟩,rfl⟩
 clear x0 x1 hne
 go_wp2
 go_ret
 exact ⟨rfl,HB.out.trans hw2⟩
theorem classOf_any (g:Mg) (h:Hp) (n:Nat) (w:World) (R:HRd w g h) (hn:n<h.objs.length) :
  Calls Try.prog 101 #[.pointer (some ⟨g.hb,0,none⟩),mvV ⟨3,(n:Int)+1⟩] w fun e w'=>e=.returned (.int .i64 (nth ob0 h.objs n).cls)∧Bl w w':=by
 rcases R.O with h0|⟨gb,cap,h1,h2⟩
 ·omega
 have h3:=h2 n hn
 have hf:=R.few
 have hq:=cell_lt h1
 have hgb:=cell_lt h3
 have hw:IntKind.i64.wrap (n:Int)=(n:Int):=by rw [IntKind.wrap_i64];omega
 have hs:((n:Int)+1-1)=(n:Int):=by omega
 have hn0:(0:Int)≤(n:Int):=by omega
 have hn1:(n:Int)<(h.objs.length:Int):=by omega
 clear R h2
 go_enter Try.func101,Try.ntmps101
 go_wp2
 go_quiet (fail)
 go_wp2
 go_ret
 exact ⟨rfl,by repeat (first|exact Bl.refl _|apply Bl.drew|apply bl_drewN|apply Bl.alloc)⟩
theorem isN_yes {v:Va} (hk:v.kind=3) (hv:v.n=-1):isN (im v)=true:=by rw [im_ref hk,hv];rfl
theorem isN_no {v:Va} (hk:v.kind=3) (hv:0≤v.n):isN (im v)=false:=by
 rw [im_ref hk]
 have:¬v.n+1=0:=by omega
 simp [isN,this]
theorem belI_V {l:List Cl} (h:mayB l=true) (x y:Int):belV l x y=belI l x y:=by unfold belV belI;rw [h,Bool.true_and]
set_option maxRecDepth 100000 in
theorem mbelow_yes (g:Mg) (h:Hp) (v:Va) (c:Int) (w:World) (R:HRd w g h) (hk:v.kind=3) (hv:0≤v.n) (hn:v.n<h.objs.length) :
  Calls Try.prog 122 #[.pointer (some ⟨g.hb,0,none⟩),mvV (im v),.int .i64 c] w fun e w'=>e=.returned (.bool (belI h.file.classes (h.obj v.n).cls c))∧Bl w w':=by
 have HN:Hid (isN (im v)=false):=isN_no hk hv
 obtain ⟨n,hn'⟩:∃n:Nat,v.n=n:=⟨v.n.toNat,by omega⟩
 have hnl:n<h.objs.length:=by omega
 have ho:h.obj v.n=nth ob0 h.objs n:=by unfold Hp.obj;rw [hn',Int.toNat_natCast]
 have e:im v=⟨3,(n:Int)+1⟩:=by rw [im_ref hk,hn']
 rw [ho]
 rw [e] at HN ⊢
 generalize hU:(n:Int)+1=u at HN
 have HB:Hid (Bl w (w.alloc (.cells #[.int .i64 3,.int .i64 u] 109))):=(Bl.refl w).alloc _
 have HR:Hid (HRd (w.alloc (.cells #[.int .i64 3,.int .i64 u] 109)) g h):=R.bl HB.out
 have x2:∀x:Fut (w.alloc (.cells #[.int .i64 3,.int .i64 u] 109)),x.to.cell? ⟨g.hb,0,none⟩=some (.slice g.A h.file.classes.length g.a):=fut_cell HR.out.A
 have HU:Hid ((n:Int)+1=u):=hU
 obtain ⟨O,hO⟩:∃O,(nth ob0 h.objs n).cls=O:=⟨_,rfl⟩
 have HO:Hid ((nth ob0 h.objs n).cls=O):=hO
 rw [hO]
 have HV:Hid (belV h.file.classes O c=belI h.file.classes O c):=belI_V R.may O c
 obtain ⟨z,hz⟩:∃z,belI h.file.classes O c=z:=⟨_,rfl⟩
 rw [hz] at HV ⊢
 clear R hk hv hn hn' ho e hU hO hz
 go_enter Try.func122,Try.ntmps122
 go_wp2
 have x0:∀x:Fut (w.alloc (.cells #[.int .i64 3,.int .i64 u] 109)),x.to.cell? ⟨w.heap.size,0,none⟩=some (.int .i64 3):=fut_cell (cell_of_new rfl)
 have x1:∀x:Fut (w.alloc (.cells #[.int .i64 3,.int .i64 u] 109)),x.to.cell? ⟨w.heap.size,1,none⟩=some (.int .i64 u):=fut_cell (cell_of_new rfl)
 refine wp_region_fut (by kernel_rfl) (by kernel_rfl) fun hne=>?_
 repeat (go_big_quiet_step ((first
  | (go_at_call 90;exact Calls.fut_eq _ (isNothing_any ⟨3,u⟩ _) (congrArg Value.bool HN.out))
  | (go_at_call 101;rename_i xx;have hcc:=classOf_any g h n xx.to (HR.out.bl xx.is) hnl;rw [HU.out,HO.out] at hcc;exact Calls.fut_eq _ hcc rfl)
  | (go_at_call 22;rename_i xx;exact Calls.fut_eq _ (hbelow_any _ _ _ _ _ _ (HR.out.cls.bl xx.is)) (congrArg Value.bool HV.out)))))
 refine wpQuiet_nil ?_
 rintro _ ⟨⟨w2,hw2⟩,rfl⟩
 clear x0 x1 x2 hne
 go_wp2
 go_ret
 exact ⟨rfl,HB.out.trans hw2⟩
set_option maxRecDepth 100000 in
theorem mbelow_no (g:Mg) (h:Hp) (v:Va) (c:Int) (w:World) (hk:v.kind=3) (hv:v.n=-1) :
  Calls Try.prog 122 #[.pointer (some ⟨g.hb,0,none⟩),mvV (im v),.int .i64 c] w fun e w'=>e=.returned (.bool false)∧Bl w w':=by
 have HN:Hid (isN (im v)=true):=isN_yes hk hv
 have e:im v=⟨3,0⟩:=by rw [im_ref hk,hv];rfl
 rw [e] at HN ⊢
 have HB:Hid (Bl w (w.alloc (.cells #[.int .i64 3,.int .i64 0] 109))):=(Bl.refl w).alloc _
 clear hk hv e
 go_enter Try.func122,Try.ntmps122
 go_wp2
 have x0:∀x:Fut (w.alloc (.cells #[.int .i64 3,.int .i64 0] 109)),x.to.cell? ⟨w.heap.size,0,none⟩=some (.int .i64 3):=fut_cell (cell_of_new rfl)
 have x1:∀x:Fut (w.alloc (.cells #[.int .i64 3,.int .i64 0] 109)),x.to.cell? ⟨w.heap.size,1,none⟩=some (.int .i64 0):=fut_cell (cell_of_new rfl)
 refine wp_region_fut (by kernel_rfl) (by kernel_rfl) fun hne=>?_
 repeat (go_big_quiet_step ((go_at_call 90;exact Calls.fut_eq _ (isNothing_any ⟨3,0⟩ _) (congrArg Value.bool HN.out))))
 refine wpQuiet_nil ?_
 rintro _ ⟨⟨w2,hw2⟩,rfl⟩
 clear x0 x1 hne
 go_wp2
 go_ret
 exact ⟨rfl,HB.out.trans hw2⟩
theorem mbelow_any (g:Mg) (h:Hp) (v:Va) (c:Int) (w:World) (R:HRd w g h) (hk:v.kind=3) (hv:-1≤v.n) (hn:v.n<h.objs.length) :
  Calls Try.prog 122 #[.pointer (some ⟨g.hb,0,none⟩),mvV (im v),.int .i64 c] w fun e w'=>e=.returned (.bool (decide (0≤v.n)&&belI h.file.classes (h.obj v.n).cls c))∧Bl w w':=by
 by_cases h0:0≤v.n
 ·rw [decide_eq_true h0,Bool.true_and]
  exact mbelow_yes g h v c w R hk h0 hn
 ·rw [decide_eq_false h0,Bool.false_and]
  exact mbelow_no g h v c w hk (by omega)
set_option maxRecDepth 100000 in
theorem mfit_num (g:Mg) (h:Hp) (v:Va) (t:Ty) (w:World) (R:HRd w g h) (hk:v.kind=t.kind) (h3:t.kind≠3) :
  Calls Try.prog 133 #[.pointer (some ⟨g.hb,0,none⟩),mvV (im v),tyMV t] w fun e w'=>e=.returned (mvV (im v))∧Bl w w':=by
 obtain ⟨L0,L1,L2⟩:=three_lie w #[.int .i64 (im v).kind,.int .i64 (im v).n] #[.int .i64 t.kind,.int .i64 t.cls] #[.int .i64 0,.int .i64 0] 109 54 109
 have HB:Hid (Bl w (((w.alloc (mvO (im v))).alloc (tyMO t)).alloc mvZ)):=(((Bl.refl w).alloc _).alloc _).alloc _
 have HR:Hid (HRd w g h):=R
 obtain ⟨W,hW⟩:∃W,W=(((w.alloc (mvO (im v))).alloc (tyMO t)).alloc mvZ):=⟨_,rfl⟩
 rw [←hW] at HB L0 L1 L2
 have HW:Hid (W=(((w.alloc (mvO (im v))).alloc (tyMO t)).alloc mvZ)):=hW
 have HL0:Hid (W.heap[w.heap.size]?=some (.cells #[.int .i64 (im v).kind,.int .i64 (im v).n] 109 (0,0))):=L0
 have HL1:Hid (W.heap[w.heap.size+1]?=some (.cells #[.int .i64 t.kind,.int .i64 t.cls] 54 (0,0))):=L1
 have HL2:Hid (W.heap[w.heap.size+1+1]?=some (.cells #[.int .i64 0,.int .i64 0] 109 (0,0))):=L2
 clear R L0 L1 L2 hW
 have Hk:Hid ((im v).kind=t.kind):=hk
 have hd:decide (t.kind=3)=false:=decide_eq_false h3
 have hb:(t.kind==3)=false:=by simpa using h3
 clear hk h3
 go_enter Try.func133,Try.ntmps133
 go_wp2_with (go_at_call 112;rw [←HW.out];refine (mustbe_yes (im v) t.kind _ Hk.out).mono ?_;rintro e w1 ⟨rfl,b1⟩;have q0:=bl_blk b1 HL0.out;have q1:=bl_blk b1 HL1.out;have q2:=bl_blk b1 HL2.out;have c0:=c0_of q0;have c1:=c1_of q0;have c2:=c0_of q1;have c3:=c1_of q1;have c4:=c0_of q2;have c5:=c1_of q2;have fz:=free_blk q2;replace q0:=hid q0;replace q1:=hid q1;replace q2:=hid q2;replace b1:=hid b1)
 refine bodyPost_ret (results_cell_row rfl _ _ (w.heap.size+1+1) _ _ _ _ rfl (set_two q2.out) Try.underlying109 rfl info_mv) rfl ?_
 exact ⟨rfl,bl_two (HB.out.trans b1.out) (by omega) _ _⟩
set_option maxRecDepth 100000 in
theorem mfit_nil (g:Mg) (h:Hp) (v:Va) (t:Ty) (w:World) (R:HRd w g h) (hk:v.kind=3) (h3:t.kind=3) (hv:v.n=-1) :
  Calls Try.prog 133 #[.pointer (some ⟨g.hb,0,none⟩),mvV (im v),tyMV t] w fun e w'=>e=.returned (mvV (im v))∧Bl w w':=by
 obtain ⟨L0,L1,L2⟩:=three_lie w #[.int .i64 (im v).kind,.int .i64 (im v).n] #[.int .i64 t.kind,.int .i64 t.cls] #[.int .i64 0,.int .i64 0] 109 54 109
 have HB:Hid (Bl w (((w.alloc (mvO (im v))).alloc (tyMO t)).alloc mvZ)):=(((Bl.refl w).alloc _).alloc _).alloc _
 have HR:Hid (HRd w g h):=R
 obtain ⟨W,hW⟩:∃W,W=(((w.alloc (mvO (im v))).alloc (tyMO t)).alloc mvZ):=⟨_,rfl⟩
 rw [←hW] at HB L0 L1 L2
 have HW:Hid (W=(((w.alloc (mvO (im v))).alloc (tyMO t)).alloc mvZ)):=hW
 have HL0:Hid (W.heap[w.heap.size]?=some (.cells #[.int .i64 (im v).kind,.int .i64 (im v).n] 109 (0,0))):=L0
 have HL1:Hid (W.heap[w.heap.size+1]?=some (.cells #[.int .i64 t.kind,.int .i64 t.cls] 54 (0,0))):=L1
 have HL2:Hid (W.heap[w.heap.size+1+1]?=some (.cells #[.int .i64 0,.int .i64 0] 109 (0,0))):=L2
 clear R L0 L1 L2 hW
 have Hk:Hid ((im v).kind=t.kind):=by rw [h3];exact hk
 have HN:Hid (isN (im v)=true):=isN_yes hk hv
 have hd:decide (t.kind=3)=true:=decide_eq_true h3
 have hb:(t.kind==3)=true:=by simpa using h3
 clear hk h3
 go_enter Try.func133,Try.ntmps133
 go_wp2_with (first|(go_at_call 112;rw [←HW.out];refine (mustbe_yes (im v) t.kind _ Hk.out).mono ?_;rintro e w1 ⟨rfl,b1⟩;have q0:=bl_blk b1 HL0.out;have q1:=bl_blk b1 HL1.out;have q2:=bl_blk b1 HL2.out;have c0:=c0_of q0;have c1:=c1_of q0;have c2:=c0_of q1;have c3:=c1_of q1;have c4:=c0_of q2;have c5:=c1_of q2;have fz:=free_blk q2;replace q0:=hid q0;replace q1:=hid q1;replace q2:=hid q2;replace b1:=hid b1)|(go_at_call 90;refine (isNothing_any (im v) _).mono ?_;rintro e w2 ⟨he,b2⟩;rw [HN.out] at he;subst he;replace q0:=hid (bl_blk b2 q0.out);replace q1:=hid (bl_blk b2 q1.out);replace q2:=hid (bl_blk b2 q2.out);replace b1:=hid (b1.out.trans b2);clear c0 c1 c2 c3 c4 c5 fz;have c0:=c0_of q0.out;have c1:=c1_of q0.out;have c2:=c0_of q1.out;have c3:=c1_of q1.out;have c4:=c0_of q2.out;have c5:=c1_of q2.out;have fz:=free_blk q2.out))
 refine bodyPost_ret (results_cell_row rfl _ _ (w.heap.size+1+1) _ _ _ _ rfl (set_two q2.out) Try.underlying109 rfl info_mv) rfl ?_
 exact ⟨rfl,bl_two (HB.out.trans b1.out) (by omega) _ _⟩
set_option maxRecDepth 100000 in
theorem mfit_ref (g:Mg) (h:Hp) (v:Va) (t:Ty) (w:World) (R:HRd w g h) (hk:v.kind=3) (h3:t.kind=3) (hv:0≤v.n) (hn:v.n<h.objs.length) (hz:belI h.file.classes (h.obj v.n).cls t.cls=true) :
  Calls Try.prog 133 #[.pointer (some ⟨g.hb,0,none⟩),mvV (im v),tyMV t] w fun e w'=>e=.returned (mvV (im v))∧Bl w w':=by
 obtain ⟨L0,L1,L2⟩:=three_lie w #[.int .i64 (im v).kind,.int .i64 (im v).n] #[.int .i64 t.kind,.int .i64 t.cls] #[.int .i64 0,.int .i64 0] 109 54 109
 have HB:Hid (Bl w (((w.alloc (mvO (im v))).alloc (tyMO t)).alloc mvZ)):=(((Bl.refl w).alloc _).alloc _).alloc _
 have HR:Hid (HRd w g h):=R
 obtain ⟨W,hW⟩:∃W,W=(((w.alloc (mvO (im v))).alloc (tyMO t)).alloc mvZ):=⟨_,rfl⟩
 rw [←hW] at HB L0 L1 L2
 have HW:Hid (W=(((w.alloc (mvO (im v))).alloc (tyMO t)).alloc mvZ)):=hW
 have HL0:Hid (W.heap[w.heap.size]?=some (.cells #[.int .i64 (im v).kind,.int .i64 (im v).n] 109 (0,0))):=L0
 have HL1:Hid (W.heap[w.heap.size+1]?=some (.cells #[.int .i64 t.kind,.int .i64 t.cls] 54 (0,0))):=L1
 have HL2:Hid (W.heap[w.heap.size+1+1]?=some (.cells #[.int .i64 0,.int .i64 0] 109 (0,0))):=L2
 clear R L0 L1 L2 hW
 have Hk:Hid ((im v).kind=t.kind):=by rw [h3];exact hk
 have HV:Hid (v.kind=3∧0≤v.n∧v.n<h.objs.length):=⟨hk,hv,hn⟩
 have HN:Hid (isN (im v)=false):=isN_no hk hv
 have HZ:Hid (belI h.file.classes (h.obj v.n).cls t.cls=true):=hz
 have hd:decide (t.kind=3)=true:=decide_eq_true h3
 have hb:(t.kind==3)=true:=by simpa using h3
 clear hk h3 hv hn hz
 go_enter Try.func133,Try.ntmps133
 go_wp2_with (first|(go_at_call 112;rw [←HW.out];refine (mustbe_yes (im v) t.kind _ Hk.out).mono ?_;rintro e w1 ⟨rfl,b1⟩;have q0:=bl_blk b1 HL0.out;have q1:=bl_blk b1 HL1.out;have q2:=bl_blk b1 HL2.out;have c0:=c0_of q0;have c1:=c1_of q0;have c2:=c0_of q1;have c3:=c1_of q1;have c4:=c0_of q2;have c5:=c1_of q2;have fz:=free_blk q2;replace q0:=hid q0;replace q1:=hid q1;replace q2:=hid q2;replace b1:=hid b1)|(go_at_call 90;refine (isNothing_any (im v) _).mono ?_;rintro e w2 ⟨he,b2⟩;rw [HN.out] at he;subst he;replace q0:=hid (bl_blk b2 q0.out);replace q1:=hid (bl_blk b2 q1.out);replace q2:=hid (bl_blk b2 q2.out);replace b1:=hid (b1.out.trans b2);clear c0 c1 c2 c3 c4 c5 fz;have c0:=c0_of q0.out;have c1:=c1_of q0.out;have c2:=c0_of q1.out;have c3:=c1_of q1.out;have c4:=c0_of q2.out;have c5:=c1_of q2.out;have fz:=free_blk q2.out)|(go_at_call 122;refine (mbelow_yes g h v t.cls _ (HR.out.bl (HB.out.trans b1.out)) HV.out.1 HV.out.2.1 HV.out.2.2).mono ?_;rintro e w3 ⟨he,b3⟩;rw [HZ.out] at he;subst he;replace q0:=hid (bl_blk b3 q0.out);replace q1:=hid (bl_blk b3 q1.out);replace q2:=hid (bl_blk b3 q2.out);replace b1:=hid (b1.out.trans b3);clear c0 c1 c2 c3 c4 c5 fz;have c0:=c0_of q0.out;have c1:=c1_of q0.out;have c2:=c0_of q1.out;have c3:=c1_of q1.out;have c4:=c0_of q2.out;have c5:=c1_of q2.out;have fz:=free_blk q2.out))
 refine bodyPost_ret (results_cell_row rfl _ _ (w.heap.size+1+1) _ _ _ _ rfl (set_two q2.out) Try.underlying109 rfl info_mv) rfl ?_
 exact ⟨rfl,bl_two (HB.out.trans b1.out) (by omega) _ _⟩
set_option maxRecDepth 100000 in
theorem mfit_bad (g:Mg) (h:Hp) (v:Va) (t:Ty) (w:World) (R:HRd w g h) (hk:v.kind=3) (h3:t.kind=3) (hv:0≤v.n) (hn:v.n<h.objs.length) (hz:belI h.file.classes (h.obj v.n).cls t.cls=false) :
  Calls Try.prog 133 #[.pointer (some ⟨g.hb,0,none⟩),mvV (im v),tyMV t] w fun e w'=>e=stopE 6 0 0∧Bl w w':=by
 obtain ⟨L0,L1,L2⟩:=three_lie w #[.int .i64 (im v).kind,.int .i64 (im v).n] #[.int .i64 t.kind,.int .i64 t.cls] #[.int .i64 0,.int .i64 0] 109 54 109
 have HB:Hid (Bl w (((w.alloc (mvO (im v))).alloc (tyMO t)).alloc mvZ)):=(((Bl.refl w).alloc _).alloc _).alloc _
 have HR:Hid (HRd w g h):=R
 obtain ⟨W,hW⟩:∃W,W=(((w.alloc (mvO (im v))).alloc (tyMO t)).alloc mvZ):=⟨_,rfl⟩
 rw [←hW] at HB L0 L1 L2
 have HW:Hid (W=(((w.alloc (mvO (im v))).alloc (tyMO t)).alloc mvZ)):=hW
 have HL0:Hid (W.heap[w.heap.size]?=some (.cells #[.int .i64 (im v).kind,.int .i64 (im v).n] 109 (0,0))):=L0
 have HL1:Hid (W.heap[w.heap.size+1]?=some (.cells #[.int .i64 t.kind,.int .i64 t.cls] 54 (0,0))):=L1
 have HL2:Hid (W.heap[w.heap.size+1+1]?=some (.cells #[.int .i64 0,.int .i64 0] 109 (0,0))):=L2
 clear R L0 L1 L2 hW
 have Hk:Hid ((im v).kind=t.kind):=by rw [h3];exact hk
 have HV:Hid (v.kind=3∧0≤v.n∧v.n<h.objs.length):=⟨hk,hv,hn⟩
 have HN:Hid (isN (im v)=false):=isN_no hk hv
 have HZ:Hid (belI h.file.classes (h.obj v.n).cls t.cls=false):=hz
 have hd:decide (t.kind=3)=true:=decide_eq_true h3
 have hb:(t.kind==3)=true:=by simpa using h3
 clear hk h3 hv hn hz
 go_enter Try.func133,Try.ntmps133
 go_wp2_with (first|(go_at_call 112;rw [←HW.out];refine (mustbe_yes (im v) t.kind _ Hk.out).mono ?_;rintro e w1 ⟨rfl,b1⟩;have q0:=bl_blk b1 HL0.out;have q1:=bl_blk b1 HL1.out;have q2:=bl_blk b1 HL2.out;have c0:=c0_of q0;have c1:=c1_of q0;have c2:=c0_of q1;have c3:=c1_of q1;have c4:=c0_of q2;have c5:=c1_of q2;have fz:=free_blk q2;replace q0:=hid q0;replace q1:=hid q1;replace q2:=hid q2;replace b1:=hid b1)|(go_at_call 90;refine (isNothing_any (im v) _).mono ?_;rintro e w2 ⟨he,b2⟩;rw [HN.out] at he;subst he;replace q0:=hid (bl_blk b2 q0.out);replace q1:=hid (bl_blk b2 q1.out);replace q2:=hid (bl_blk b2 q2.out);replace b1:=hid (b1.out.trans b2);clear c0 c1 c2 c3 c4 c5 fz;have c0:=c0_of q0.out;have c1:=c1_of q0.out;have c2:=c0_of q1.out;have c3:=c1_of q1.out;have c4:=c0_of q2.out;have c5:=c1_of q2.out;have fz:=free_blk q2.out)|(go_at_call 122;refine (mbelow_yes g h v t.cls _ (HR.out.bl (HB.out.trans b1.out)) HV.out.1 HV.out.2.1 HV.out.2.2).mono ?_;rintro e w3 ⟨he,b3⟩;rw [HZ.out] at he;subst he;replace q0:=hid (bl_blk b3 q0.out);replace q1:=hid (bl_blk b3 q1.out);replace q2:=hid (bl_blk b3 q2.out);replace b1:=hid (b1.out.trans b3);clear c0 c1 c2 c3 c4 c5 fz;have c0:=c0_of q0.out;have c1:=c1_of q0.out;have c2:=c0_of q1.out;have c3:=c1_of q1.out;have c4:=c0_of q2.out;have c5:=c1_of q2.out;have fz:=free_blk q2.out)|(go_at_call 87;refine (mstuck_any _).mono ?_;rintro e w4 ⟨rfl,hw⟩;rw [hw];clear hw w4))
 exact ⟨rfl,rfl,HB.out.trans b1.out⟩
set_option maxRecDepth 100000 in
theorem mfit_kind (g:Mg) (h:Hp) (v:Va) (t:Ty) (w:World) (R:HRd w g h) (hk:v.kind≠t.kind) :
  Calls Try.prog 133 #[.pointer (some ⟨g.hb,0,none⟩),mvV (im v),tyMV t] w fun e w'=>e=stopE 6 0 0∧Bl w w':=by
 obtain ⟨L0,L1,L2⟩:=three_lie w #[.int .i64 (im v).kind,.int .i64 (im v).n] #[.int .i64 t.kind,.int .i64 t.cls] #[.int .i64 0,.int .i64 0] 109 54 109
 have HB:Hid (Bl w (((w.alloc (mvO (im v))).alloc (tyMO t)).alloc mvZ)):=(((Bl.refl w).alloc _).alloc _).alloc _
 have HR:Hid (HRd w g h):=R
 obtain ⟨W,hW⟩:∃W,W=(((w.alloc (mvO (im v))).alloc (tyMO t)).alloc mvZ):=⟨_,rfl⟩
 rw [←hW] at HB L0 L1 L2
 have HW:Hid (W=(((w.alloc (mvO (im v))).alloc (tyMO t)).alloc mvZ)):=hW
 have HL0:Hid (W.heap[w.heap.size]?=some (.cells #[.int .i64 (im v).kind,.int .i64 (im v).n] 109 (0,0))):=L0
 have HL1:Hid (W.heap[w.heap.size+1]?=some (.cells #[.int .i64 t.kind,.int .i64 t.cls] 54 (0,0))):=L1
 have HL2:Hid (W.heap[w.heap.size+1+1]?=some (.cells #[.int .i64 0,.int .i64 0] 109 (0,0))):=L2
 clear R L0 L1 L2 hW
 have Hk:Hid ((im v).kind≠t.kind):=hk
 clear hk
 go_enter Try.func133,Try.ntmps133
 go_wp2_with (go_at_call 112;rw [←HW.out];refine (mustbe_no (im v) t.kind _ Hk.out).mono ?_;rintro e w1 ⟨rfl,b1⟩;have q0:=bl_blk b1 HL0.out;have q1:=bl_blk b1 HL1.out;have q2:=bl_blk b1 HL2.out;have c0:=c0_of q0;have c1:=c1_of q0;have c2:=c0_of q1;have c3:=c1_of q1;have c4:=c0_of q2;have c5:=c1_of q2;have fz:=free_blk q2;replace q0:=hid q0;replace q1:=hid q1;replace q2:=hid q2;replace b1:=hid b1)
 exact ⟨rfl,rfl,HB.out.trans b1.out⟩
theorem mfit_yes (g:Mg) (h:Hp) (v:Va) (t:Ty) (w:World) (R:HRd w g h) (hv:v.kind=3→-1≤v.n∧v.n<h.objs.length) (ho:h.of v t=true) :
  Calls Try.prog 133 #[.pointer (some ⟨g.hb,0,none⟩),mvV (im v),tyMV t] w fun e w'=>e=.returned (mvV (im v))∧Bl w w':=by
 unfold Hp.of at ho
 rw [Bool.and_eq_true,Bool.or_eq_true,Bool.or_eq_true] at ho
 obtain ⟨h1,h2⟩:=ho
 have hk:=of_decide_eq_true h1
 by_cases h3:t.kind=3
 ·have hk3:v.kind=3:=hk.trans h3
  obtain ⟨v1,v2⟩:=hv hk3
  by_cases hn:v.n=-1
  ·exact mfit_nil g h v t w R hk3 h3 hn
  ·refine mfit_ref g h v t w R hk3 h3 (by omega) v2 ?_
   rcases h2 with h2|h2|h2
   ·exact absurd h3 (of_decide_eq_true h2)
   ·have:=of_decide_eq_true h2;omega
   ·exact h2
 ·exact mfit_num g h v t w R hk h3
theorem mfit_no (g:Mg) (h:Hp) (v:Va) (t:Ty) (w:World) (R:HRd w g h) (hv:v.kind=3→-1≤v.n∧v.n<h.objs.length) (ho:h.of v t=false) :
  Calls Try.prog 133 #[.pointer (some ⟨g.hb,0,none⟩),mvV (im v),tyMV t] w fun e w'=>e=stopE 6 0 0∧Bl w w':=by
 by_cases hk:v.kind=t.kind
 ·unfold Hp.of at ho
  rw [decide_eq_true hk,Bool.true_and,Bool.or_eq_false_iff,Bool.or_eq_false_iff] at ho
  obtain ⟨h1,h2,h3⟩:=ho
  have ht:t.kind=3:=by simpa using h1
  have hk3:v.kind=3:=hk.trans ht
  have hn:¬v.n<0:=of_decide_eq_false h2
  exact mfit_bad g h v t w R hk3 ht (by omega) (hv hk3).2 h3
 ·exact mfit_kind g h v t w R hk
end Go.Proofs.Ytgiiapenmjollaa
