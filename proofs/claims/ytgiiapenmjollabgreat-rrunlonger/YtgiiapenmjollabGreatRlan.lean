import Derived.Test.YtgiiapenmjollabGreatRlai
import Derived.Test.YtgiiapenmjollabGreatRlal
namespace Go.Proofs.YtgiiapenmjollabGreat
set_option linter.all false
set_option maxHeartbeats 40000000
set_option maxRecDepth 100000
open Go.RowKit
structure InTwo (cs:List Cl) (ms:List Me) (regs ret:Int) (i:In):Prop where
 b2:(i.op=4∧i.c=2)∨i.op=6∨i.op=8∨i.op=9→i.b+1<regs
 c2:i.op=6∨i.op=9→i.c+1<regs
 a2:(i.op=15∧(nth ty0 (nth cl0 cs i.c.toNat).fields i.n.toNat).kind=2)∨(i.op=23∧i.b=2)→i.a+1<regs
 g2:i.op=18→∀k,k<i.args.length→(nth ty0 (nth me0 ms i.a.toNat).params k).kind=2→nth (0:Int) i.args k+1<regs
 r2:i.op=20→ret=2→i.a+1<regs
theorem rin_two {cs:List Cl} {ms:List Me} {ncode:Nat} {regs ret:Int} {i:In} (h:rinB cs ms ncode regs ret i=true):InTwo cs ms regs ret i:=by
 have hop:=rin_op h
 unfold rinB at h
 rcases (by omega:i.op=1∨i.op=2∨i.op=3∨i.op=4∨i.op=5∨i.op=6∨i.op=7∨i.op=8∨i.op=9∨i.op=10∨i.op=11∨i.op=12∨i.op=13∨i.op=14∨i.op=15∨i.op=16∨i.op=17∨i.op=18∨i.op=19∨i.op=20∨i.op=21∨i.op=22∨i.op=23∨i.op=24) with e|e|e|e|e|e|e|e|e|e|e|e|e|e|e|e|e|e|e|e|e|e|e|e
 all_goals
  simp only [e,kindsOf,rfldB,rrestB,regB_ok,true_implies,false_implies,if_true,if_false,Int.reduceEq,Int.reduceLT,Int.reduceNeg,or_true,true_or,or_false,false_or,or_self,Bool.and_eq_true,decide_eq_true_eq,List.all_eq_true,List.mem_range,Bool.true_and,decide_true] at h
 all_goals
  constructor
  all_goals intros
  all_goals first|omega|(exact (h.2.2.2 _ ‹_›).2.2 ‹_›)|(have h':=h.2.2.2;rw [if_neg (by omega),regB_ok] at h';omega)
def valH (h:Hp) (c:Cal) (i:In):Hp:=if i.op=19 then h.must (decide (c.giv.kind=i.b)) else if i.op=22 then h.must (isRef c.cau) else givesH h c i
def valV (h:Hp) (c:Cal) (i:In):Va:=if i.op=19 then c.giv else if i.op=22 then c.cau else givesV h c i
theorem stops_not {h:Hp} (hs:h.stops=false):h.over=false∧¬0≤h.thrown:=by
 unfold Hp.stops at hs
 rw [Bool.or_eq_false_iff] at hs
 exact ⟨hs.1,by simpa using hs.2⟩
theorem must_wr {h:Hp} (hs:h.stops=false) (b:Bool) (c:Cal) (a:Int) (v:Va):(if h.mustB b=true then wrP h c a v else c)=wrP (h.must b) c a v:=by
 obtain ⟨ho,-⟩:=stops_not hs
 unfold Hp.mustB Hp.must
 cases b with
 | true=>simp [ho]
 | false =>
  have:(h.fin 6).stops=true:=by unfold Hp.stops;rw [fin_over ho];rfl
  simp [wrP,this]
theorem does_val {h:Hp} (c:Cal) {i:In} (hs:h.stops=false) (hop:i.op≤9∨i.op=13∨i.op=14∨i.op=17∨i.op=19∨i.op=22∨i.op=24) :
  doesP h c i=⟨valH h c i,wrP (valH h c i) c.clr i.a (valV h c i),c.pc+1⟩:=by
 unfold doesP valH valV
 by_cases h19:i.op=19
 ·simp only [h19,Int.reduceEq,if_true,if_false]
  unfold resP
  rw [must_wr hs]
 ·by_cases h22:i.op=22
  ·simp only [h22,Int.reduceEq,if_true,if_false]
   unfold cauP
   rw [must_wr hs]
  ·rw [if_neg (by omega),if_neg (by omega),if_neg (by omega),if_neg (by omega),if_neg (by omega),if_neg (by omega),if_neg (by omega),if_neg (by omega),if_neg (by omega),if_neg h19,if_neg h22,if_neg h19,if_neg h22]
   rfl
theorem val_ok {s:Nat} {h:Hp} {c:Cal} {i:In} {ms:List Me} {n:Nat} {rt:Int} (g:Gh s h) (kd:Kd h) (gc:Gc h c) (hs0:h.stops=false) (mc:MayC h.file.classes) (ok:InOk h.file.classes ms n c.m.regs rt i) (iok:i.ok)
  (hop:i.op≤9∨i.op=13∨i.op=14∨i.op=17∨i.op=19∨i.op=22∨i.op=24) (hs:(valH h c i).stops=false):(valV h c i).kind≠9∧((valV h c i).kind=2→i.a+1<c.m.regs):=by
 obtain ⟨ho,ht⟩:=stops_not hs0
 have hth:h.thrown=-1:=by have:=g.thr;omega
 unfold valH at hs
 unfold valV
 by_cases h19:i.op=19
 ·rw [if_pos h19] at hs ⊢
  have hk:=ok.res h19
  have:=of_decide_eq_true (must_go (stops_not hs).1).1
  exact ⟨by omega,fun x=>ok.two (by omega)⟩
 rw [if_neg h19] at hs ⊢
 by_cases h22:i.op=22
 ·rw [if_pos h22] at hs ⊢
  have:=of_decide_eq_true (must_go (stops_not hs).1).1
  exact ⟨by omega,fun x=>by omega⟩
 rw [if_neg h22] at hs ⊢
 exact (givesV_ok g kd gc ho hth mc ok iok (by omega) hs).2
theorem rd_yes (s:Nat) (X:Nat→Prop) (wx w0:World) (g:Mg) (h:Hp) (qs:List Qb) (a:Mc) (c:Cal) (n k:Int) (w:World) (H:RX s X wx w0 g w h qs a c) (hn:0≤n∧n<c.locs.length) (hk:1≤k∧k≤3) (h2:k=2→n+1<c.locs.length) (hv:(c.rd n).kind=k) :
  Calls Tryz.prog 137 #[.pointer (some ⟨a.q,0,none⟩),.int .i64 n,.int .i64 k] w fun e w'=>e=.returned (mvV (im (c.rd n)))∧Bl w w':=by
 obtain ⟨m,rfl⟩:∃m:Nat,n=m:=⟨n.toNat,by omega⟩
 have er:c.rd (m:Int)=nth va0 c.locs m:=by unfold Cal.rd;rw [Int.toNat_natCast]
 rw [er] at hv ⊢
 obtain ⟨vc,vo,vx,vs,l,H⟩:=H
 have HB:Hid (Bl w (w.alloc mvZ)):=(Bl.refl w).alloc _
 have C:=H.ca.kept (grown_bl HB.out none) (fun b e=>by cases e)
 have c10:=C.cells.c10
 have HR:=hid (read_yes C m k (by omega) hk (fun e=>by have:=h2 e;omega) hv)
 have HQ:=hid (blk_new w #[.int .i64 0,.int .i64 0] 115)
 have hq:a.q<w.heap.size:=lt_some H.ca.blk
 clear H C hn hk h2 hv er
 go_enter Tryz.func137,Tryz.ntmps137
 go_wp2_with (go_at_call 199;refine HR.out.mono ?_;rintro e w1 ⟨rfl,b1⟩;have q1:=bl_blk b1 HQ.out;have c4:=c0_of q1;have c5:=c1_of q1;have fz:=free_blk q1;replace q1:=hid q1;replace b1:=hid b1)
 refine bodyPost_ret (results_cell_row rfl _ _ w.heap.size _ _ _ _ rfl (set_two q1.out) Tryz.underlying115 rfl info_mv) rfl ?_
 exact ⟨rfl,bl_two (HB.out.trans b1.out) (by omega) _ _⟩
theorem rd_no (s:Nat) (X:Nat→Prop) (wx w0:World) (g:Mg) (h:Hp) (qs:List Qb) (a:Mc) (c:Cal) (n k:Int) (w:World) (H:RX s X wx w0 g w h qs a c) (hn:0≤n∧n<c.locs.length) (hk:1≤k∧k≤3) (h2:k=2→n+1<c.locs.length) (hv:(c.rd n).kind≠k) :
  Calls Tryz.prog 137 #[.pointer (some ⟨a.q,0,none⟩),.int .i64 n,.int .i64 k] w fun e w'=>e=stopE 6 0 0∧Bl w w':=by
 obtain ⟨m,rfl⟩:∃m:Nat,n=m:=⟨n.toNat,by omega⟩
 have er:c.rd (m:Int)=nth va0 c.locs m:=by unfold Cal.rd;rw [Int.toNat_natCast]
 rw [er] at hv
 obtain ⟨vc,vo,vx,vs,l,H⟩:=H
 have HB:Hid (Bl w (w.alloc mvZ)):=(Bl.refl w).alloc _
 have C:=H.ca.kept (grown_bl HB.out none) (fun b e=>by cases e)
 have c10:=C.cells.c10
 have HR:=hid (read_no C m k (by omega) hk (fun e=>by have:=h2 e;omega) hv)
 have HQ:=hid (blk_new w #[.int .i64 0,.int .i64 0] 115)
 have hq:a.q<w.heap.size:=lt_some H.ca.blk
 clear H C hn hk h2 hv er
 go_enter Tryz.func137,Tryz.ntmps137
 go_wp2_with (go_at_call 199;refine HR.out.mono ?_;rintro e w1 ⟨rfl,b1⟩;have q1:=bl_blk b1 HQ.out;have c4:=c0_of q1;have c5:=c1_of q1;have fz:=free_blk q1;replace q1:=hid q1;replace b1:=hid b1)
 exact ⟨rfl,rfl,HB.out.trans b1.out⟩
theorem rdT_yes (s:Nat) (X:Nat→Prop) (wx w0:World) (g:Mg) (h:Hp) (qs:List Qb) (a:Mc) (c:Cal) (n:Int) (t:Ty) (w:World) (H:RX s X wx w0 g w h qs a c) (F:Fix w0 g h) (hf:h.objs.length≤100) (hn:0≤n∧n<c.locs.length) (hk:1≤t.kind∧t.kind≤3) (h2:t.kind=2→n+1<c.locs.length) (hv:(c.rd n).kind=3→-1≤(c.rd n).n∧(c.rd n).n<h.objs.length) (ho:h.of (c.rd n) t=true) :
  Calls Tryz.prog 201 #[.pointer (some ⟨a.q,0,none⟩),.int .i64 n,tyMV t] w fun e w'=>e=.returned (mvV (im (c.rd n)))∧Bl w w':=by
 have hkd:(c.rd n).kind=t.kind:=by unfold Hp.of at ho;rw [Bool.and_eq_true] at ho;exact of_decide_eq_true ho.1
 have HH:=hid H
 have hq:=H.qlt
 have HF:Hid (Fix w0 g h∧h.objs.length≤100):=⟨F,hf⟩
 obtain ⟨L0,L1⟩:=two_lie w #[.int .i64 t.kind,.int .i64 t.cls] #[.int .i64 0,.int .i64 0] 46 115
 have B0:Bl w ((w.alloc (tyMO t)).alloc mvZ):=((Bl.refl w).alloc _).alloc _
 have z0:=hid (H.y.bl B0).hb
 have z1:=hid (c0_of L0)
 have z2:=hid (c1_of L0)
 have HB:Hid (Bl w ((w.alloc (tyMO t)).alloc mvZ)):=B0
 have HL0:=hid L0
 have HL1:=hid L1
 have HR:Hid (∀w',RX s X wx w0 g w' h qs a c→Calls Tryz.prog 137 #[.pointer (some ⟨a.q,0,none⟩),.int .i64 n,.int .i64 t.kind] w' fun e w2=>e=.returned (mvV (im (c.rd n)))∧Bl w' w2):=fun w' H=>rd_yes s X wx w0 g h qs a c n t.kind w' H hn hk h2 hkd
 have HO:Hid (((c.rd n).kind=3→-1≤(c.rd n).n∧(c.rd n).n<h.objs.length)∧h.of (c.rd n) t=true):=⟨hv,ho⟩
 have hn0:w.heap.size≠a.q:=by omega
 have hn1:w.heap.size+1≠a.q:=by omega
 have z0:=z0.out
 have z1:=z1.out
 have z2:=z2.out
 clear H F hf hv ho L0 L1 B0 hn hk h2 hkd
 go_enter Tryz.func201,Tryz.ntmps201
 go_wp2
 go_region_held3 (fun w'=>w'.cell? ⟨a.q,0,none⟩=some (.pointer (some ⟨g.hb,0,none⟩))∧w'.cell? ⟨w.heap.size,0,none⟩=some (.int .i64 t.kind)∧w'.cell? ⟨w.heap.size,1,none⟩=some (.int .i64 t.cls))
  (go_keep)
  (first
   | (go_at_call 137;refine (HR.out _ (HH.out.bl (by first|exact HB.out.drew|exact HB.out))).mono ?_;rintro e w1 ⟨rfl,b1⟩;have d0:=b1.cell z0;have d1:=b1.cell z1;have d2:=b1.cell z2;have q1:=hid (bl_blk b1 HL1.out);have b1:=hid b1)
   | (go_at_call 262;refine (mfit_yes g h (c.rd n) t _ ((HH.out.bl ((by first|exact HB.out.drew.trans b1.out|exact HB.out.trans b1.out))).rd HF.out.1 HF.out.2) HO.out.1 HO.out.2).mono ?_;rintro e w2 ⟨rfl,b2⟩;have e0:=b2.cell d0;have e1:=b2.cell d1;have e2:=b2.cell d2;have q2:=bl_blk b2 q1.out;have f4:=c0_of q2;have f5:=c1_of q2;have fz:=free_blk q2;have b2:=hid b2;have q2:=hid q2))
 go_wp2
 refine bodyPost_ret (results_cell_row rfl _ _ (w.heap.size+1) _ _ _ _ rfl (set_two q2.out) Tryz.underlying115 rfl info_mv) rfl ?_
 exact ⟨rfl,bl_two (by first|exact (HB.out.drew.trans b1.out).trans b2.out|exact (HB.out.trans b1.out).trans b2.out) (by omega) _ _⟩
theorem rdT_kind (s:Nat) (X:Nat→Prop) (wx w0:World) (g:Mg) (h:Hp) (qs:List Qb) (a:Mc) (c:Cal) (n:Int) (t:Ty) (w:World) (H:RX s X wx w0 g w h qs a c) (F:Fix w0 g h) (hf:h.objs.length≤100) (hn:0≤n∧n<c.locs.length) (hk:1≤t.kind∧t.kind≤3) (h2:t.kind=2→n+1<c.locs.length) (hkd:(c.rd n).kind≠t.kind) :
  Calls Tryz.prog 201 #[.pointer (some ⟨a.q,0,none⟩),.int .i64 n,tyMV t] w fun e w'=>e=stopE 6 0 0∧Bl w w':=by
 have HH:=hid H
 have hq:=H.qlt
 have HF:Hid (Fix w0 g h∧h.objs.length≤100):=⟨F,hf⟩
 obtain ⟨L0,L1⟩:=two_lie w #[.int .i64 t.kind,.int .i64 t.cls] #[.int .i64 0,.int .i64 0] 46 115
 have B0:Bl w ((w.alloc (tyMO t)).alloc mvZ):=((Bl.refl w).alloc _).alloc _
 have z0:=hid (H.y.bl B0).hb
 have z1:=hid (c0_of L0)
 have z2:=hid (c1_of L0)
 have HB:Hid (Bl w ((w.alloc (tyMO t)).alloc mvZ)):=B0
 have HL0:=hid L0
 have HL1:=hid L1
 have HR:Hid (∀w',RX s X wx w0 g w' h qs a c→Calls Tryz.prog 137 #[.pointer (some ⟨a.q,0,none⟩),.int .i64 n,.int .i64 t.kind] w' fun e w2=>e=stopE 6 0 0∧Bl w' w2):=fun w' H=>rd_no s X wx w0 g h qs a c n t.kind w' H hn hk h2 hkd
 clear H F hf L0 L1 B0 hn hk h2 hkd
 go_enter Tryz.func201,Tryz.ntmps201
 go_wp2
 refine wp_region_held_drew (S:=fun w'=>w'.cell? ⟨a.q,0,none⟩=some (.pointer (some ⟨g.hb,0,none⟩))∧w'.cell? ⟨w.heap.size,0,none⟩=some (.int .i64 t.kind)∧w'.cell? ⟨w.heap.size,1,none⟩=some (.int .i64 t.cls)) (by kernel_rfl) ?_ (fun hHeld0=>?_)
 ·exact ⟨z0.out,z1.out,z2.out⟩
 refine tk (i:=0) (d:=some 7) rfl rfl (by kernel_rfl) (fun _ _ _ h=>h) (by rfl) (by intro _ h;(try dsimp only at h);go_split_ands;go_simp<;>with_reducible rfl) hHeld0 ?_
 try simp only [aS,aN,aT,a0,a1]
 refine tk (i:=1) (d:=some 8) rfl rfl (by kernel_rfl) (fun _ _ _ h=>h) (by rfl) (by intro _ h;(try dsimp only at h);go_split_ands;go_simp<;>with_reducible rfl) hHeld0 ?_
 try simp only [aS,aN,aT,a0,a1]
 refine tk (i:=2) (d:=some 9) rfl rfl (by kernel_rfl) (fun _ _ _ h=>h) (by rfl) (by intro _ h;(try dsimp only at h);go_split_ands;go_simp<;>with_reducible rfl) hHeld0 ?_
 try simp only [aS,aN,aT,a0,a1]
 refine tk (i:=3) (d:=some 10) rfl rfl (by kernel_rfl) (fun _ _ _ h=>h) (by rfl) (by intro _ h;(try dsimp only at h);go_split_ands;go_simp<;>with_reducible rfl) hHeld0 ?_
 try simp only [aS,aN,aT,a0,a1]
 refine tk (i:=4) (d:=some 11) rfl rfl (by kernel_rfl) (fun _ _ _ h=>h) (by rfl) (by intro _ h;(try dsimp only at h);go_split_ands;go_simp<;>with_reducible rfl) hHeld0 ?_
 try simp only [aS,aN,aT,a0,a1]
 refine tk (i:=5) (d:=some 12) rfl rfl (by kernel_rfl) (fun _ _ _ h=>h) (by rfl) (by intro _ h;(try dsimp only at h);go_split_ands;go_simp<;>with_reducible rfl) hHeld0 ?_
 try simp only [aS,aN,aT,a0,a1]
 refine tk (i:=6) (d:=some 13) rfl rfl (by kernel_rfl) (fun _ _ _ h=>h) (by rfl) (by intro _ h;(try dsimp only at h);go_split_ands;go_simp<;>with_reducible rfl) hHeld0 ?_
 try simp only [aS,aN,aT,a0,a1]
 refine tk (i:=7) (d:=some 14) rfl rfl (by kernel_rfl) (fun _ _ _ h=>h) (by rfl) (by intro _ h;(try dsimp only at h);go_split_ands;go_simp<;>with_reducible rfl) hHeld0 ?_
 try simp only [aS,aN,aT,a0,a1]
 refine tk (i:=9) (d:=some 16) rfl rfl (by kernel_rfl) (fun _ _ _ h=>h) (by rfl) (by intro _ h;(try dsimp only at h);go_split_ands;go_simp<;>with_reducible rfl) hHeld0 ?_
 try simp only [aS,aN,aT,a0,a1]
 refine rd1 (i:=8) (by kernel_rfl) rfl fun K hK=>?_
 go_simp
 go_at_call 137
 refine (HR.out _ (HH.out.bl HB.out.drew)).mono ?_
 rintro e w1 ⟨rfl,b1⟩
 exact ⟨rfl,rfl,HB.out.drew.trans b1⟩
theorem rdT_bad (s:Nat) (X:Nat→Prop) (wx w0:World) (g:Mg) (h:Hp) (qs:List Qb) (a:Mc) (c:Cal) (n:Int) (t:Ty) (w:World) (H:RX s X wx w0 g w h qs a c) (F:Fix w0 g h) (hf:h.objs.length≤100) (hn:0≤n∧n<c.locs.length) (hk:1≤t.kind∧t.kind≤3) (h2:t.kind=2→n+1<c.locs.length) (hkd:(c.rd n).kind=t.kind) (hv:(c.rd n).kind=3→-1≤(c.rd n).n∧(c.rd n).n<h.objs.length) (ho:h.of (c.rd n) t=false) :
  Calls Tryz.prog 201 #[.pointer (some ⟨a.q,0,none⟩),.int .i64 n,tyMV t] w fun e w'=>e=stopE 6 0 0∧Bl w w':=by
 have HH:=hid H
 have hq:=H.qlt
 have HF:Hid (Fix w0 g h∧h.objs.length≤100):=⟨F,hf⟩
 obtain ⟨L0,L1⟩:=two_lie w #[.int .i64 t.kind,.int .i64 t.cls] #[.int .i64 0,.int .i64 0] 46 115
 have B0:Bl w ((w.alloc (tyMO t)).alloc mvZ):=((Bl.refl w).alloc _).alloc _
 have z0:=hid (H.y.bl B0).hb
 have z1:=hid (c0_of L0)
 have z2:=hid (c1_of L0)
 have HB:Hid (Bl w ((w.alloc (tyMO t)).alloc mvZ)):=B0
 have HL0:=hid L0
 have HL1:=hid L1
 have HR:Hid (∀w',RX s X wx w0 g w' h qs a c→Calls Tryz.prog 137 #[.pointer (some ⟨a.q,0,none⟩),.int .i64 n,.int .i64 t.kind] w' fun e w2=>e=.returned (mvV (im (c.rd n)))∧Bl w' w2):=fun w' H=>rd_yes s X wx w0 g h qs a c n t.kind w' H hn hk h2 hkd
 have HO:Hid (((c.rd n).kind=3→-1≤(c.rd n).n∧(c.rd n).n<h.objs.length)∧h.of (c.rd n) t=false):=⟨hv,ho⟩
 clear H F hf L0 L1 B0 hn hk h2 hkd hv ho
 go_enter Tryz.func201,Tryz.ntmps201
 go_wp2
 refine wp_region_held_drew (S:=fun w'=>w'.cell? ⟨a.q,0,none⟩=some (.pointer (some ⟨g.hb,0,none⟩))∧w'.cell? ⟨w.heap.size,0,none⟩=some (.int .i64 t.kind)∧w'.cell? ⟨w.heap.size,1,none⟩=some (.int .i64 t.cls)) (by kernel_rfl) ?_ (fun hHeld0=>?_)
 ·exact ⟨z0.out,z1.out,z2.out⟩
 refine tk (i:=0) (d:=some 7) rfl rfl (by kernel_rfl) (fun _ _ _ h=>h) (by rfl) (by intro _ h;(try dsimp only at h);go_split_ands;go_simp<;>with_reducible rfl) hHeld0 ?_
 try simp only [aS,aN,aT,a0,a1]
 refine tk (i:=1) (d:=some 8) rfl rfl (by kernel_rfl) (fun _ _ _ h=>h) (by rfl) (by intro _ h;(try dsimp only at h);go_split_ands;go_simp<;>with_reducible rfl) hHeld0 ?_
 try simp only [aS,aN,aT,a0,a1]
 refine tk (i:=2) (d:=some 9) rfl rfl (by kernel_rfl) (fun _ _ _ h=>h) (by rfl) (by intro _ h;(try dsimp only at h);go_split_ands;go_simp<;>with_reducible rfl) hHeld0 ?_
 try simp only [aS,aN,aT,a0,a1]
 refine tk (i:=3) (d:=some 10) rfl rfl (by kernel_rfl) (fun _ _ _ h=>h) (by rfl) (by intro _ h;(try dsimp only at h);go_split_ands;go_simp<;>with_reducible rfl) hHeld0 ?_
 try simp only [aS,aN,aT,a0,a1]
 refine tk (i:=4) (d:=some 11) rfl rfl (by kernel_rfl) (fun _ _ _ h=>h) (by rfl) (by intro _ h;(try dsimp only at h);go_split_ands;go_simp<;>with_reducible rfl) hHeld0 ?_
 try simp only [aS,aN,aT,a0,a1]
 refine tk (i:=5) (d:=some 12) rfl rfl (by kernel_rfl) (fun _ _ _ h=>h) (by rfl) (by intro _ h;(try dsimp only at h);go_split_ands;go_simp<;>with_reducible rfl) hHeld0 ?_
 try simp only [aS,aN,aT,a0,a1]
 refine tk (i:=6) (d:=some 13) rfl rfl (by kernel_rfl) (fun _ _ _ h=>h) (by rfl) (by intro _ h;(try dsimp only at h);go_split_ands;go_simp<;>with_reducible rfl) hHeld0 ?_
 try simp only [aS,aN,aT,a0,a1]
 refine tk (i:=7) (d:=some 14) rfl rfl (by kernel_rfl) (fun _ _ _ h=>h) (by rfl) (by intro _ h;(try dsimp only at h);go_split_ands;go_simp<;>with_reducible rfl) hHeld0 ?_
 try simp only [aS,aN,aT,a0,a1]
 refine tk (i:=9) (d:=some 16) rfl rfl (by kernel_rfl) (fun _ _ _ h=>h) (by rfl) (by intro _ h;(try dsimp only at h);go_split_ands;go_simp<;>with_reducible rfl) hHeld0 ?_
 try simp only [aS,aN,aT,a0,a1]
 refine rd1 (i:=8) (by kernel_rfl) rfl fun K hK=>?_
 go_simp
 go_at_call 137
 refine (HR.out _ (HH.out.bl HB.out.drew)).mono ?_
 rintro e w1 ⟨rfl,b1⟩
 have d0:=hid (b1.cell z0.out)
 have d1:=hid (b1.cell z1.out)
 have d2:=hid (b1.cell z2.out)
 have b1:=hid b1
 go_wp2_with fail
 refine hK.out _ _ (⟨d0.out,d1.out,d2.out⟩) (fun hHeld1=>?_)
 try simp only [aS,aN,aT,a0,a1]
 refine rd1 (i:=10) (by kernel_rfl) rfl fun K hK=>?_
 go_simp
 go_at_call 262
 refine (mfit_no g h (c.rd n) t _ ((HH.out.bl (HB.out.drew.trans b1.out)).rd HF.out.1 HF.out.2) HO.out.1 HO.out.2).mono ?_
 rintro e w2 ⟨rfl,b2⟩
 exact ⟨rfl,rfl,(HB.out.drew.trans b1.out).trans b2⟩
theorem rdT_no (s:Nat) (X:Nat→Prop) (wx w0:World) (g:Mg) (h:Hp) (qs:List Qb) (a:Mc) (c:Cal) (n:Int) (t:Ty) (w:World) (H:RX s X wx w0 g w h qs a c) (F:Fix w0 g h) (hf:h.objs.length≤100) (hn:0≤n∧n<c.locs.length) (hk:1≤t.kind∧t.kind≤3) (h2:t.kind=2→n+1<c.locs.length) (hv:(c.rd n).kind=3→-1≤(c.rd n).n∧(c.rd n).n<h.objs.length) (ho:h.of (c.rd n) t=false) :
  Calls Tryz.prog 201 #[.pointer (some ⟨a.q,0,none⟩),.int .i64 n,tyMV t] w fun e w'=>e=stopE 6 0 0∧Bl w w':=by
 by_cases hkd:(c.rd n).kind=t.kind
 ·exact rdT_bad s X wx w0 g h qs a c n t w H F hf hn hk h2 hkd hv ho
 ·exact rdT_kind s X wx w0 g h qs a c n t w H F hf hn hk h2 hkd
def DidE (d:Did):Ending:=if d.h.over=true then stopE d.h.sh.fin 0 0 else if 0≤d.h.thrown then thrE d.h.thrown else .returned (.tuple #[])
structure DidQ (X:Nat→Prop) (wx w0:World) (g:Mg) (qs:List Qb) (a:Mc) (c:Cal) (d:Did) (e:Ending) (w':World):Prop where
 how:e=DidE d
 stop:d.h.stops=true→RS 0 X wx w0 g w' d.h qs a c
 go:d.h.stops=false→RX 0 X wx w0 g w' d.h qs a { c with locs:=d.c.locs }
theorem RH.less {w0 w:World} {g:Mg} {h:Hp} {qs:List Qb} {vc vo vx:Value} (H:RH 1 w0 g w h qs vc vo vx):RH 0 w0 g w h qs vc vo vx:=by
 obtain ⟨n,D,F⟩:=H.fld
 exact ⟨H.ownr,H.ownh,H.ownm,H.bl,H.run,H.hp,H.out,H.obs,H.calls,n,D,F.own,by have:=F.few;omega,F.hit,F.miss,F.new,F.ks,F.kd⟩
theorem RX.less {X:Nat→Prop} {wx w0 w:World} {g:Mg} {h:Hp} {qs:List Qb} {a:Mc} {c:Cal} (H:RX 1 X wx w0 g w h qs a c):RX 0 X wx w0 g w h qs a c:=by
 obtain ⟨vc,vo,vx,vs,l,H⟩:=H
 exact ⟨vc,vo,vx,vs,l,H.rh.less,H.ca,H.farr,H.farc,H.kept⟩
theorem RS.less {X:Nat→Prop} {wx w0 w:World} {g:Mg} {h:Hp} {qs:List Qb} {a:Mc} {c:Cal} (H:RS 1 X wx w0 g w h qs a c):RS 0 X wx w0 g w h qs a c:=by
 obtain ⟨d,e1,e2,H⟩:=H
 exact ⟨d,e1,e2,H.less⟩
theorem fin6 {h:Hp} (ho:h.over=false) (k:Int):(h.fin k).over=true∧(h.fin k).sh.fin=k:=by
 unfold Hp.fin;rw [if_neg (by rw [ho];decide)];exact ⟨rfl,rfl⟩
theorem fin_stops {h:Hp} (hs:h.stops=false) (k:Int):(h.fin k).stops=true:=by
 unfold Hp.stops;rw [(fin6 (stops_not hs).1 k).1];rfl
theorem raise_full {h:Hp} (k:Int) (ho:h.over=false) (hf:h.full=true):h.raise k=h.fin 4:=by
 unfold Hp.raise Hp.new
 rw [if_pos hf,if_pos (fin6 ho 4).1]
theorem raise_new {h:Hp} (k:Int) (ho:h.over=false) (hf:h.full=false):h.raise k={ h with objs:=h.objs++[⟨k,newHeld h.file.classes k.toNat⟩],thrown:=(h.objs.length:Nat) }:=by
 have hn:h.new k={ h with objs:=h.objs++[⟨k,newHeld h.file.classes k.toNat⟩] }:=by unfold Hp.new;rw [if_neg (by rw [hf];decide)]
 have hv:h.newV=⟨3,(h.objs.length:Nat)⟩:=by unfold Hp.newV;rw [if_neg (by rw [hf];decide)]
 unfold Hp.raise
 rw [hn,hv,if_neg (by simp [ho])]
def ValE (h':Hp) (v:Va):Ending:=if h'.over=true then stopE h'.sh.fin 0 0 else if 0≤h'.thrown then thrE h'.thrown else .returned (mvV (im v))
structure ValQ (X:Nat→Prop) (wx w0:World) (g:Mg) (qs:List Qb) (a:Mc) (c:Cal) (h':Hp) (v:Va) (e:Ending) (w':World):Prop where
 how:e=ValE h' v
 stop:h'.stops=true→RS 1 X wx w0 g w' h' qs a c
 go:h'.stops=false→RX 1 X wx w0 g w' h' qs a c
theorem val_go {X:Nat→Prop} {wx w0 w':World} {g:Mg} {h:Hp} {qs:List Qb} {a:Mc} {c:Cal} {v:Va} {e:Ending} (hs:h.stops=false) (he:e=.returned (mvV (im v))) (H:RX 1 X wx w0 g w' h qs a c):ValQ X wx w0 g qs a c h v e w':=by
 obtain ⟨ho,ht⟩:=stops_not hs
 exact ⟨by unfold ValE;rw [if_neg (by rw [ho];decide),if_neg ht];exact he,fun q=>by rw [hs] at q;exact absurd q (by decide),fun _=>H⟩
theorem val_fin {X:Nat→Prop} {wx w0 w':World} {g:Mg} {h h':Hp} {qs:List Qb} {a:Mc} {c:Cal} {v:Va} {k:Int} (ho:h.over=false) (e:h'=h.fin k) (H:RS 1 X wx w0 g w' h qs a c):ValQ X wx w0 g qs a c h' v (stopE k 0 0) w':=by
 subst e
 obtain ⟨h1,h2⟩:=fin6 ho k
 refine ⟨?_,fun _=>H.eqv (fin_eqv h k),fun q=>?_⟩
 ·unfold ValE;rw [if_pos h1,h2]
 ·simp [Hp.stops,h1] at q
theorem raise_how {h:Hp} (hs:h.stops=false) (k:Int) (v:Va):raiseE h=ValE (h.raise k) v∧(h.raise k).stops=true:=by
 obtain ⟨ho,-⟩:=stops_not hs
 cases hf:h.full with
 | true =>
  have e1:=raise_full k ho hf
  have h1:=fin6 ho 4
  refine ⟨?_,by rw [e1];exact fin_stops hs 4⟩
  unfold ValE raiseE
  rw [e1,if_pos hf,if_pos h1.1,h1.2]
 | false =>
  have e1:=raise_new k ho hf
  refine ⟨?_,by rw [e1];simp [Hp.stops]⟩
  unfold ValE raiseE
  rw [e1,if_neg (by rw [hf];decide)]
  dsimp only
  rw [if_neg (by rw [ho];decide),if_pos (by omega)]
theorem val_raise {X:Nat→Prop} {wx w0 w':World} {g:Mg} {h h':Hp} {qs:List Qb} {a:Mc} {c:Cal} {v:Va} {k:Int} (hs:h.stops=false) (e:h'=h.raise k) (H:RS 1 X wx w0 g w' (h.raise k) qs a c):ValQ X wx w0 g qs a c h' v (raiseE h) w':=by
 subst e
 obtain ⟨h1,h2⟩:=raise_how hs k v
 exact ⟨h1,fun _=>H,fun q=>by rw [h2] at q;exact absurd q (by decide)⟩
theorem raiseE_pan (h:Hp):∃ch,raiseE h=.panicked ch:=by unfold raiseE;split<;>exact ⟨_,rfl⟩
theorem did_fin {X:Nat→Prop} {wx w0 w':World} {g:Mg} {h h':Hp} {qs:List Qb} {a:Mc} {c c':Cal} {nx:Int} {k:Int} (ho:h.over=false) (e:h'=h.fin k) (H:RS 0 X wx w0 g w' h qs a c):DidQ X wx w0 g qs a c ⟨h',c',nx⟩ (stopE k 0 0) w':=by
 subst e
 obtain ⟨h1,h2⟩:=fin6 ho k
 refine ⟨?_,fun _=>H.eqv (fin_eqv h k),fun q=>?_⟩
 ·unfold DidE;dsimp only;rw [if_pos h1,h2]
 ·simp [Hp.stops,h1] at q
theorem did_raise {X:Nat→Prop} {wx w0 w':World} {g:Mg} {h h':Hp} {qs:List Qb} {a:Mc} {c c':Cal} {nx k:Int} (hs:h.stops=false) (e:h'=h.raise k) (H:RS 0 X wx w0 g w' (h.raise k) qs a c):DidQ X wx w0 g qs a c ⟨h',c',nx⟩ (raiseE h) w':=by
 subst e
 obtain ⟨h1,h2⟩:=raise_how hs k va0
 refine ⟨?_,fun _=>H,fun q=>by dsimp only at q;rw [h2] at q;exact absurd q (by decide)⟩
 unfold Hp.stops at h2
 rw [Bool.or_eq_true] at h2
 rw [h1]
 unfold ValE DidE
 dsimp only
 rcases h2 with h2|h2
 ·rw [if_pos h2,if_pos h2]
 ·have h2:=of_decide_eq_true h2
  split<;>first|rfl|rw [if_pos h2]
theorem did_go {X:Nat→Prop} {wx w0 w':World} {g:Mg} {h:Hp} {qs:List Qb} {a:Mc} {c c':Cal} {nx:Int} (hs:h.stops=false) (H:RX 0 X wx w0 g w' h qs a { c with locs:=c'.locs }):DidQ X wx w0 g qs a c ⟨h,c',nx⟩ (.returned (.tuple #[])) w':=by
 obtain ⟨ho,ht⟩:=stops_not hs
 refine ⟨?_,fun q=>?_,fun _=>H⟩
 ·unfold DidE;dsimp only;rw [if_neg (by rw [ho];decide),if_neg ht]
 ·dsimp only at q;rw [hs] at q;exact absurd q (by decide)
theorem must_no {h:Hp} {b:Bool} (hb:b=false):h.must b=h.fin 6:=by unfold Hp.must;rw [if_neg (by rw [hb];decide)]
theorem must_yes {h:Hp} {b:Bool} (hb:b=true):h.must b=h:=by unfold Hp.must;rw [if_pos hb]
theorem rdH_no {h:Hp} {c:Cal} {n k:Int} (hk:(c.rd n).kind≠k):h.rdH c n k=h.fin 6:=must_no (decide_eq_false hk)
theorem rdH_yes {h:Hp} {c:Cal} {n k:Int} (hk:(c.rd n).kind=k):h.rdH c n k=h:=must_yes (decide_eq_true hk)
theorem set2_cellD {w:World} {b b' i:Nat} {k n x:Value} (h:w.cell? ⟨b,i,none⟩=some x) (hb:b≠b'):((w.setCell ⟨b',0,none⟩ k).setCell ⟨b',1,none⟩ n).cell? ⟨b,i,none⟩=some x:=by
 rw [World.cell?_setCell_far _ _ _ _ (Ne.symm hb),World.cell?_setCell_far _ _ _ _ (Ne.symm hb)];exact h
theorem insC {w:World} {b:Nat} {y0 y1 y2 y3 y4 y5:Value} {t:TypeId} (h:w.heap[b]?=some (.cells #[y0,y1,y2,y3,y4,y5] t (0,0))):w.cell? ⟨b,0,none⟩=some y0∧w.cell? ⟨b,1,none⟩=some y1∧w.cell? ⟨b,2,none⟩=some y2∧w.cell? ⟨b,3,none⟩=some y3∧w.cell? ⟨b,4,none⟩=some y4∧w.cell? ⟨b,5,none⟩=some y5:=by
 refine ⟨?_,?_,?_,?_,?_,?_⟩<;>(rw [cell_blk h];rfl)
theorem RX.cells {s:Nat} {X:Nat→Prop} {wx w0 w:World} {g:Mg} {h:Hp} {qs:List Qb} {a:Mc} {c:Cal} (H:RX s X wx w0 g w h qs a c):∃vs,CallCells g w a c vs:=by
 obtain ⟨vc,vo,vx,vs,l,H⟩:=H
 exact ⟨vs,H.ca.cells⟩
theorem mv_field (a b:Int) (w:World):(Instr.field 115 (.agg #[.int .i64 a,.int .i64 b]) 1).run Tryz.prog w=.ok (.int .i64 b) w:=by
 simp [Instr.field,go_sem,Tryz.underlying115,run_underlying Tryz.underlying115,run_underlying Tryz.underlying2,asAgg]
theorem val_stop {X:Nat→Prop} {wx w0 w':World} {g:Mg} {h':Hp} {qs:List Qb} {a:Mc} {c:Cal} {v:Va} {ch:List PanicEntry} (hs:h'.stops=true) (he:ValE h' v=.panicked ch) (H:RS 1 X wx w0 g w' h' qs a c):ValQ X wx w0 g qs a c h' v (.panicked ch) w' :=
 ⟨he.symm,fun _=>H,fun q=>by rw [hs] at q;exact absurd q (by decide)⟩
theorem ValE_stop {h':Hp} (v:Va) (hs:h'.stops=true):∃ch,ValE h' v=.panicked ch:=by
 unfold Hp.stops at hs
 rw [Bool.or_eq_true] at hs
 unfold ValE
 split
 ·exact ⟨_,rfl⟩
 ·rename_i hn
  rw [if_pos (of_decide_eq_true (hs.resolve_left hn))]
  exact ⟨_,rfl⟩
theorem ValE_go {h':Hp} (v:Va) (hs:h'.stops=false):ValE h' v=.returned (mvV (im v)):=by
 obtain ⟨ho,ht⟩:=stops_not hs
 unfold ValE;rw [if_neg (by rw [ho];decide),if_neg ht]
theorem val_split {w0:World} {g:Mg} {h:Hp} {qs:List Qb} {a:Mc} {c:Cal} {h':Hp} {v:Va} {f:FuncId} {args:Array Value}
  (hc:∀X wx w,RX 1 X wx w0 g w h qs a c→Calls Tryz.prog f args w fun e w2=>ValQ X wx w0 g qs a c h' v e w2) :
  (∃ch,(h'.stops=true∧ValE h' v=.panicked ch)∧∀X wx w,RX 1 X wx w0 g w h qs a c→Calls Tryz.prog f args w fun e w2=>e=.panicked ch∧RS 1 X wx w0 g w2 h' qs a c) ∨
  (h'.stops=false∧∀X wx w,RX 1 X wx w0 g w h qs a c→Calls Tryz.prog f args w fun e w2=>e=.returned (mvV (im v))∧RX 1 X wx w0 g w2 h' qs a c):=by
 cases hs:h'.stops with
 | true =>
  obtain ⟨ch,he⟩:=ValE_stop v hs
  exact Or.inl ⟨ch,⟨rfl,he⟩,fun X wx w H=>(hc X wx w H).mono fun e w2 q=>⟨q.how.trans he,q.stop hs⟩⟩
 | false=>exact Or.inr ⟨rfl,fun X wx w H=>(hc X wx w H).mono fun e w2 q=>⟨q.how.trans (ValE_go v hs),q.go hs⟩⟩
end Go.Proofs.YtgiiapenmjollabGreat
