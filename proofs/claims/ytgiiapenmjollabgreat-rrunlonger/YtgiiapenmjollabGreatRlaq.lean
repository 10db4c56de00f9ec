import Derived.Test.YtgiiapenmjollabGreatRlap
namespace Go.Proofs.YtgiiapenmjollabGreat
set_option linter.all false
set_option maxHeartbeats 40000000
set_option maxRecDepth 100000
open Go.RowKit
section
open Go.Maps (Keyed has)
theorem value_op1 (X:Nat→Prop) (wx w0:World) (g:Mg) (h:Hp) (qs:List Qb) (a:Mc) (c:Cal) (ia ib ic ii:Int) (args:List Int) (Q:Option Addr) (nl q:Nat) (w:World) (H:RX 1 X wx w0 g w h qs a c) (hs:h.stops=false) :
  Calls Tryz.prog 209 #[.pointer (some ⟨a.q,0,none⟩),.agg #[.int .i64 1,.int .i64 ia,.int .i64 ib,.int .i64 ic,.int .i64 ii,.slice Q nl q]] w fun e w'=>ValQ X wx w0 g qs a c (valH h c ⟨1,ia,ib,ic,ii,args⟩) (valV h c ⟨1,ia,ib,ic,ii,args⟩) e w':=by
 have ho:=(stops_not hs).1
 have HH:=hid H
 have HS:=hid hs
 have hq:=H.qlt
 obtain ⟨L0,L1⟩:=two_lie w #[.int .i64 1,.int .i64 ia,.int .i64 ib,.int .i64 ic,.int .i64 ii,.slice Q nl q] #[.int .i64 0,.int .i64 0] 58 115
 have HB:Hid (Bl w ((w.alloc (.cells #[.int .i64 1,.int .i64 ia,.int .i64 ib,.int .i64 ic,.int .i64 ii,.slice Q nl q] 58)).alloc mvZ)):=((Bl.refl w).alloc _).alloc _
 have HL0:=hid L0
 have HL1:=hid L1
 have hn0:w.heap.size≠a.q:=by omega
 have hn1:w.heap.size+1≠a.q:=by omega
 have hn2:w.heap.size≠w.heap.size+1:=by omega
 clear L0 L1
 have eH:valH h c ⟨1,ia,ib,ic,ii,args⟩=h:=by simp [valH,givesH]
 have eV:valV h c ⟨1,ia,ib,ic,ii,args⟩=⟨1,ii⟩:=by simp [valV,givesV]
 rw [eH,eV]
 clear eH eV
 have HE:Hid (∀w',RX 1 X wx w0 g w' h qs a c→ValQ X wx w0 g qs a c h ⟨1,ii⟩ (.returned (mvV ⟨1,ii⟩)) w'):=fun w' H=>val_go hs rfl H
 clear H hs
 go_enter Tryz.func209,Tryz.ntmps209
 go_wp2_with (go_at_call 148;refine (mint_any ii _).mono ?_;rintro e w1 ⟨rfl,b1⟩;have q1:=bl_blk b1 HL1.out;have c4:=c0_of q1;have c5:=c1_of q1;have fz:=free_blk q1;replace q1:=hid q1;replace b1:=hid b1)
 refine bodyPost_ret (results_cell_row rfl _ _ (w.heap.size+1) _ _ _ _ rfl (set_two q1.out) Tryz.underlying115 rfl info_mv) rfl ?_
 exact HE.out _ (HH.out.bl (bl_two (HB.out.trans b1.out) (by omega) _ _))
theorem value_op2 (X:Nat→Prop) (wx w0:World) (g:Mg) (h:Hp) (qs:List Qb) (a:Mc) (c:Cal) (ia ib ic ii:Int) (args:List Int) (Q:Option Addr) (nl q:Nat) (w:World) (H:RX 1 X wx w0 g w h qs a c) (hs:h.stops=false) :
  Calls Tryz.prog 209 #[.pointer (some ⟨a.q,0,none⟩),.agg #[.int .i64 2,.int .i64 ia,.int .i64 ib,.int .i64 ic,.int .i64 ii,.slice Q nl q]] w fun e w'=>ValQ X wx w0 g qs a c (valH h c ⟨2,ia,ib,ic,ii,args⟩) (valV h c ⟨2,ia,ib,ic,ii,args⟩) e w':=by
 have ho:=(stops_not hs).1
 have HH:=hid H
 have HS:=hid hs
 have hq:=H.qlt
 obtain ⟨L0,L1⟩:=two_lie w #[.int .i64 2,.int .i64 ia,.int .i64 ib,.int .i64 ic,.int .i64 ii,.slice Q nl q] #[.int .i64 0,.int .i64 0] 58 115
 have HB:Hid (Bl w ((w.alloc (.cells #[.int .i64 2,.int .i64 ia,.int .i64 ib,.int .i64 ic,.int .i64 ii,.slice Q nl q] 58)).alloc mvZ)):=((Bl.refl w).alloc _).alloc _
 have HL0:=hid L0
 have HL1:=hid L1
 have hn0:w.heap.size≠a.q:=by omega
 have hn1:w.heap.size+1≠a.q:=by omega
 have hn2:w.heap.size≠w.heap.size+1:=by omega
 clear L0 L1
 have eH:valH h c ⟨2,ia,ib,ic,ii,args⟩=h:=by simp [valH,givesH]
 have eV:valV h c ⟨2,ia,ib,ic,ii,args⟩=⟨2,ii⟩:=by simp [valV,givesV]
 rw [eH,eV]
 clear eH eV
 have HE:Hid (∀w',RX 1 X wx w0 g w' h qs a c→ValQ X wx w0 g qs a c h ⟨2,ii⟩ (.returned (mvV ⟨2,ii⟩)) w'):=fun w' H=>val_go hs rfl H
 clear H hs
 go_enter Tryz.func209,Tryz.ntmps209
 go_wp2_with (go_at_call 147;refine (mlong_any ii _).mono ?_;rintro e w1 ⟨rfl,b1⟩;have q1:=bl_blk b1 HL1.out;have c4:=c0_of q1;have c5:=c1_of q1;have fz:=free_blk q1;replace q1:=hid q1;replace b1:=hid b1)
 refine bodyPost_ret (results_cell_row rfl _ _ (w.heap.size+1) _ _ _ _ rfl (set_two q1.out) Tryz.underlying115 rfl info_mv) rfl ?_
 exact HE.out _ (HH.out.bl (bl_two (HB.out.trans b1.out) (by omega) _ _))
theorem value_op3 (X:Nat→Prop) (wx w0:World) (g:Mg) (h:Hp) (qs:List Qb) (a:Mc) (c:Cal) (ia ib ic ii:Int) (args:List Int) (Q:Option Addr) (nl q:Nat) (w:World) (H:RX 1 X wx w0 g w h qs a c) (hs:h.stops=false) :
  Calls Tryz.prog 209 #[.pointer (some ⟨a.q,0,none⟩),.agg #[.int .i64 3,.int .i64 ia,.int .i64 ib,.int .i64 ic,.int .i64 ii,.slice Q nl q]] w fun e w'=>ValQ X wx w0 g qs a c (valH h c ⟨3,ia,ib,ic,ii,args⟩) (valV h c ⟨3,ia,ib,ic,ii,args⟩) e w':=by
 have ho:=(stops_not hs).1
 have HH:=hid H
 have HS:=hid hs
 have hq:=H.qlt
 obtain ⟨L0,L1⟩:=two_lie w #[.int .i64 3,.int .i64 ia,.int .i64 ib,.int .i64 ic,.int .i64 ii,.slice Q nl q] #[.int .i64 0,.int .i64 0] 58 115
 have HB:Hid (Bl w ((w.alloc (.cells #[.int .i64 3,.int .i64 ia,.int .i64 ib,.int .i64 ic,.int .i64 ii,.slice Q nl q] 58)).alloc mvZ)):=((Bl.refl w).alloc _).alloc _
 have HL0:=hid L0
 have HL1:=hid L1
 have hn0:w.heap.size≠a.q:=by omega
 have hn1:w.heap.size+1≠a.q:=by omega
 have hn2:w.heap.size≠w.heap.size+1:=by omega
 clear L0 L1
 have eH:valH h c ⟨3,ia,ib,ic,ii,args⟩=h:=by simp [valH,givesH]
 have eV:valV h c ⟨3,ia,ib,ic,ii,args⟩=⟨3,-1⟩:=by simp [valV,givesV]
 rw [eH,eV]
 clear eH eV
 have HE:Hid (∀w',RX 1 X wx w0 g w' h qs a c→ValQ X wx w0 g qs a c h ⟨3,-1⟩ (.returned (mvV ⟨3,0⟩)) w'):=fun w' H=>val_go hs rfl H
 clear H hs
 go_enter Tryz.func209,Tryz.ntmps209
 go_wp2_with (go_at_call 200;refine (nothing_any _).mono ?_;rintro e w1 ⟨rfl,b1⟩;have q1:=bl_blk b1 HL1.out;have c4:=c0_of q1;have c5:=c1_of q1;have fz:=free_blk q1;replace q1:=hid q1;replace b1:=hid b1)
 refine bodyPost_ret (results_cell_row rfl _ _ (w.heap.size+1) _ _ _ _ rfl (set_two q1.out) Tryz.underlying115 rfl info_mv) rfl ?_
 exact HE.out _ (HH.out.bl (bl_two (HB.out.trans b1.out) (by omega) _ _))
theorem value_op4 (X:Nat→Prop) (wx w0:World) (g:Mg) (h:Hp) (qs:List Qb) (a:Mc) (c:Cal) (ia ib ic ii:Int) (args:List Int) (Q:Option Addr) (nl q:Nat) (w:World) (H:RX 1 X wx w0 g w h qs a c) (hs:h.stops=false) (hb:0≤ib∧ib<c.locs.length) (hk:1≤ic∧ic≤3) (h2:ic=2→ib+1<c.locs.length) :
  Calls Tryz.prog 209 #[.pointer (some ⟨a.q,0,none⟩),.agg #[.int .i64 4,.int .i64 ia,.int .i64 ib,.int .i64 ic,.int .i64 ii,.slice Q nl q]] w fun e w'=>ValQ X wx w0 g qs a c (valH h c ⟨4,ia,ib,ic,ii,args⟩) (valV h c ⟨4,ia,ib,ic,ii,args⟩) e w':=by
 have ho:=(stops_not hs).1
 have HH:=hid H
 have HS:=hid hs
 have hq:=H.qlt
 obtain ⟨L0,L1⟩:=two_lie w #[.int .i64 4,.int .i64 ia,.int .i64 ib,.int .i64 ic,.int .i64 ii,.slice Q nl q] #[.int .i64 0,.int .i64 0] 58 115
 have HB:Hid (Bl w ((w.alloc (.cells #[.int .i64 4,.int .i64 ia,.int .i64 ib,.int .i64 ic,.int .i64 ii,.slice Q nl q] 58)).alloc mvZ)):=((Bl.refl w).alloc _).alloc _
 have HL0:=hid L0
 have HL1:=hid L1
 have hn0:w.heap.size≠a.q:=by omega
 have hn1:w.heap.size+1≠a.q:=by omega
 have hn2:w.heap.size≠w.heap.size+1:=by omega
 clear L0 L1
 have eH:valH h c ⟨4,ia,ib,ic,ii,args⟩=h.rdH c ib ic:=by simp [valH,givesH]
 have eV:valV h c ⟨4,ia,ib,ic,ii,args⟩=c.rd ib:=by simp [valV,givesV]
 rw [eH,eV]
 clear eH eV
 by_cases e1:(c.rd ib).kind=ic
 ·rw [rdH_yes e1]
  have HR:Hid (∀w',RX 1 X wx w0 g w' h qs a c→Calls Tryz.prog 137 #[.pointer (some ⟨a.q,0,none⟩),.int .i64 ib,.int .i64 ic] w' fun e w2=>e=.returned (mvV (im (c.rd ib)))∧Bl w' w2):=fun w' H=>rd_yes 1 X wx w0 g h qs a c ib ic w' H hb hk h2 e1
  have HE:Hid (∀w',RX 1 X wx w0 g w' h qs a c→ValQ X wx w0 g qs a c h (c.rd ib) (.returned (mvV (im (c.rd ib)))) w'):=fun w' H=>val_go hs rfl H
  generalize im (c.rd ib)=U at *
  generalize c.rd ib=V at *
  clear H hs hb e1 hk h2
  go_enter Tryz.func209,Tryz.ntmps209
  go_wp2_with (go_at_call 137;refine (HR.out _ (HH.out.bl HB.out)).mono ?_;rintro e w1 ⟨rfl,b1⟩;have q1:=bl_blk b1 HL1.out;have c4:=c0_of q1;have c5:=c1_of q1;have fz:=free_blk q1;replace q1:=hid q1;replace b1:=hid b1)
  refine bodyPost_ret (results_cell_row rfl _ _ (w.heap.size+1) _ _ _ _ rfl (set_two q1.out) Tryz.underlying115 rfl info_mv) rfl ?_
  exact HE.out _ (HH.out.bl (bl_two (HB.out.trans b1.out) (by omega) _ _))
 ·rw [rdH_no e1]
  have HR:Hid (∀w',RX 1 X wx w0 g w' h qs a c→Calls Tryz.prog 137 #[.pointer (some ⟨a.q,0,none⟩),.int .i64 ib,.int .i64 ic] w' fun e w2=>e=stopE 6 0 0∧Bl w' w2):=fun w' H=>rd_no 1 X wx w0 g h qs a c ib ic w' H hb hk h2 e1
  generalize c.rd ib=V at *
  clear H hs hb e1 hk h2
  go_enter Tryz.func209,Tryz.ntmps209
  go_wp2_with (go_at_call 137;refine (HR.out _ (HH.out.bl HB.out)).mono ?_;rintro e w1 ⟨rfl,b1⟩;replace b1:=hid b1)
  exact ⟨rfl,val_fin (stops_not HS.out).1 rfl (HH.out.bl (HB.out.trans b1.out)).rs⟩
theorem value_op5 (X:Nat→Prop) (wx w0:World) (g:Mg) (h:Hp) (qs:List Qb) (a:Mc) (c:Cal) (ia ib ic ii:Int) (args:List Int) (Q:Option Addr) (nl q:Nat) (w:World) (H:RX 1 X wx w0 g w h qs a c) (hs:h.stops=false) (hb:0≤ib∧ib<c.locs.length) (hc:0≤ic∧ic<c.locs.length) (hob:h.objs.length≤100) :
  Calls Tryz.prog 209 #[.pointer (some ⟨a.q,0,none⟩),.agg #[.int .i64 5,.int .i64 ia,.int .i64 ib,.int .i64 ic,.int .i64 ii,.slice Q nl q]] w fun e w'=>ValQ X wx w0 g qs a c (valH h c ⟨5,ia,ib,ic,ii,args⟩) (valV h c ⟨5,ia,ib,ic,ii,args⟩) e w':=by
 have ho:=(stops_not hs).1
 have HH:=hid H
 have HS:=hid hs
 have hq:=H.qlt
 obtain ⟨L0,L1⟩:=two_lie w #[.int .i64 5,.int .i64 ia,.int .i64 ib,.int .i64 ic,.int .i64 ii,.slice Q nl q] #[.int .i64 0,.int .i64 0] 58 115
 have HB:Hid (Bl w ((w.alloc (.cells #[.int .i64 5,.int .i64 ia,.int .i64 ib,.int .i64 ic,.int .i64 ii,.slice Q nl q] 58)).alloc mvZ)):=((Bl.refl w).alloc _).alloc _
 have HL0:=hid L0
 have HL1:=hid L1
 have hn0:w.heap.size≠a.q:=by omega
 have hn1:w.heap.size+1≠a.q:=by omega
 have hn2:w.heap.size≠w.heap.size+1:=by omega
 clear L0 L1
 have eH:valH h c ⟨5,ia,ib,ic,ii,args⟩=(h.reckH (c.rd ib) (c.rd ic) 1 ii):=by simp [valH,givesH]
 have eV:valV h c ⟨5,ia,ib,ic,ii,args⟩=(h.reckV (c.rd ib) (c.rd ic) 1 ii):=by simp [valV,givesV]
 rw [eH,eV]
 clear eH eV
 have HC0:∀X wx w,RX 1 X wx w0 g w h qs a c→Calls Tryz.prog 269 #[.pointer (some ⟨a.q,0,none⟩),.agg #[.int .i64 5,.int .i64 ia,.int .i64 ib,.int .i64 ic,.int .i64 ii,.slice Q nl q]] w fun e w2=>ValQ X wx w0 g qs a c (h.reckH (c.rd ib) (c.rd ic) 1 ii) (h.reckV (c.rd ib) (c.rd ic) 1 ii) e w2:=fun X wx w H=>reckon_op5 X wx w0 g h qs a c ia ib ic ii args Q nl q w H hs hb hc hob
 generalize (h.reckH (c.rd ib) (c.rd ic) 1 ii)=HV at *
 generalize ((h.reckV (c.rd ib) (c.rd ic) 1 ii):Va)=VV at *
 rcases val_split (fun X wx w H=>HC0 X wx w H) with ⟨ch,st,HC⟩|⟨st,HC⟩
 ·replace HC:=hid HC
  have HE:Hid (∀w',RS 1 X wx w0 g w' HV qs a c→ValQ X wx w0 g qs a c HV VV (.panicked ch) w'):=fun w' H=>val_stop st.1 st.2 H
  clear H hs st hb hc hob HC0
  go_enter Tryz.func209,Tryz.ntmps209
  go_wp2_with (go_at_call 269;refine (HH.out.y.useN HB.out HC.out).mono ?_;rintro e w1 ⟨rfl,H1⟩;replace H1:=hid H1)
  exact ⟨rfl,HE.out _ H1.out⟩
 ·replace HC:=hid HC
  have HE:Hid (∀w',RX 1 X wx w0 g w' HV qs a c→ValQ X wx w0 g qs a c HV VV (.returned (mvV (im VV))) w'):=fun w' H=>val_go st rfl H
  clear H hs st hb hc hob HC0
  go_enter Tryz.func209,Tryz.ntmps209
  go_wp2_with (go_at_call 269;refine (HH.out.y.useY HB.out HC.out).mono ?_;rintro e w1 ⟨rfl,H1,K1⟩;have q1:=K1.at (Xp.new (Nat.le_succ _) (lt_w2b w _ _)) HL1.out;have c4:=c0_of q1;have c5:=c1_of q1;have fz:=free_blk q1;clear K1;replace H1:=hid H1;replace q1:=hid q1)
  refine bodyPost_ret (results_cell_row rfl _ _ (w.heap.size+1) _ _ _ _ rfl (set_two q1.out) Tryz.underlying115 rfl info_mv) rfl ?_
  refine HE.out _ (RXY.x (RXY.set (RXY.set H1.out ?_ 0 _) ?_ 1 _))<;>exact (Xp.new (Nat.le_succ _) (lt_w2b w _ _))
theorem value_op6 (X:Nat→Prop) (wx w0:World) (g:Mg) (h:Hp) (qs:List Qb) (a:Mc) (c:Cal) (ia ib ic ii:Int) (args:List Int) (Q:Option Addr) (nl q:Nat) (w:World) (H:RX 1 X wx w0 g w h qs a c) (hs:h.stops=false) (hb:0≤ib∧ib<c.locs.length) (hc:0≤ic∧ic<c.locs.length) (hob:h.objs.length≤100) (h2:ib+1<c.locs.length∧ic+1<c.locs.length) :
  Calls Tryz.prog 209 #[.pointer (some ⟨a.q,0,none⟩),.agg #[.int .i64 6,.int .i64 ia,.int .i64 ib,.int .i64 ic,.int .i64 ii,.slice Q nl q]] w fun e w'=>ValQ X wx w0 g qs a c (valH h c ⟨6,ia,ib,ic,ii,args⟩) (valV h c ⟨6,ia,ib,ic,ii,args⟩) e w':=by
 have ho:=(stops_not hs).1
 have HH:=hid H
 have HS:=hid hs
 have hq:=H.qlt
 obtain ⟨L0,L1⟩:=two_lie w #[.int .i64 6,.int .i64 ia,.int .i64 ib,.int .i64 ic,.int .i64 ii,.slice Q nl q] #[.int .i64 0,.int .i64 0] 58 115
 have HB:Hid (Bl w ((w.alloc (.cells #[.int .i64 6,.int .i64 ia,.int .i64 ib,.int .i64 ic,.int .i64 ii,.slice Q nl q] 58)).alloc mvZ)):=((Bl.refl w).alloc _).alloc _
 have HL0:=hid L0
 have HL1:=hid L1
 have hn0:w.heap.size≠a.q:=by omega
 have hn1:w.heap.size+1≠a.q:=by omega
 have hn2:w.heap.size≠w.heap.size+1:=by omega
 clear L0 L1
 have eH:valH h c ⟨6,ia,ib,ic,ii,args⟩=(h.reckH (c.rd ib) (c.rd ic) 2 ii):=by simp [valH,givesH]
 have eV:valV h c ⟨6,ia,ib,ic,ii,args⟩=(h.reckV (c.rd ib) (c.rd ic) 2 ii):=by simp [valV,givesV]
 rw [eH,eV]
 clear eH eV
 have HC0:∀X wx w,RX 1 X wx w0 g w h qs a c→Calls Tryz.prog 269 #[.pointer (some ⟨a.q,0,none⟩),.agg #[.int .i64 6,.int .i64 ia,.int .i64 ib,.int .i64 ic,.int .i64 ii,.slice Q nl q]] w fun e w2=>ValQ X wx w0 g qs a c (h.reckH (c.rd ib) (c.rd ic) 2 ii) (h.reckV (c.rd ib) (c.rd ic) 2 ii) e w2:=fun X wx w H=>reckon_op6 X wx w0 g h qs a c ia ib ic ii args Q nl q w H hs hb hc hob h2
 generalize (h.reckH (c.rd ib) (c.rd ic) 2 ii)=HV at *
 generalize ((h.reckV (c.rd ib) (c.rd ic) 2 ii):Va)=VV at *
 rcases val_split (fun X wx w H=>HC0 X wx w H) with ⟨ch,st,HC⟩|⟨st,HC⟩
 ·replace HC:=hid HC
  have HE:Hid (∀w',RS 1 X wx w0 g w' HV qs a c→ValQ X wx w0 g qs a c HV VV (.panicked ch) w'):=fun w' H=>val_stop st.1 st.2 H
  clear H hs st hb hc hob h2 HC0
  go_enter Tryz.func209,Tryz.ntmps209
  go_wp2_with (go_at_call 269;refine (HH.out.y.useN HB.out HC.out).mono ?_;rintro e w1 ⟨rfl,H1⟩;replace H1:=hid H1)
  exact ⟨rfl,HE.out _ H1.out⟩
 ·replace HC:=hid HC
  have HE:Hid (∀w',RX 1 X wx w0 g w' HV qs a c→ValQ X wx w0 g qs a c HV VV (.returned (mvV (im VV))) w'):=fun w' H=>val_go st rfl H
  clear H hs st hb hc hob h2 HC0
  go_enter Tryz.func209,Tryz.ntmps209
  go_wp2_with (go_at_call 269;refine (HH.out.y.useY HB.out HC.out).mono ?_;rintro e w1 ⟨rfl,H1,K1⟩;have q1:=K1.at (Xp.new (Nat.le_succ _) (lt_w2b w _ _)) HL1.out;have c4:=c0_of q1;have c5:=c1_of q1;have fz:=free_blk q1;clear K1;replace H1:=hid H1;replace q1:=hid q1)
  refine bodyPost_ret (results_cell_row rfl _ _ (w.heap.size+1) _ _ _ _ rfl (set_two q1.out) Tryz.underlying115 rfl info_mv) rfl ?_
  refine HE.out _ (RXY.x (RXY.set (RXY.set H1.out ?_ 0 _) ?_ 1 _))<;>exact (Xp.new (Nat.le_succ _) (lt_w2b w _ _))
theorem value_op7 (X:Nat→Prop) (wx w0:World) (g:Mg) (h:Hp) (qs:List Qb) (a:Mc) (c:Cal) (ia ib ic ii:Int) (args:List Int) (Q:Option Addr) (nl q:Nat) (w:World) (H:RX 1 X wx w0 g w h qs a c) (hs:h.stops=false) (hb:0≤ib∧ib<c.locs.length) :
  Calls Tryz.prog 209 #[.pointer (some ⟨a.q,0,none⟩),.agg #[.int .i64 7,.int .i64 ia,.int .i64 ib,.int .i64 ic,.int .i64 ii,.slice Q nl q]] w fun e w'=>ValQ X wx w0 g qs a c (valH h c ⟨7,ia,ib,ic,ii,args⟩) (valV h c ⟨7,ia,ib,ic,ii,args⟩) e w':=by
 have ho:=(stops_not hs).1
 have HH:=hid H
 have HS:=hid hs
 have hq:=H.qlt
 obtain ⟨L0,L1⟩:=two_lie w #[.int .i64 7,.int .i64 ia,.int .i64 ib,.int .i64 ic,.int .i64 ii,.slice Q nl q] #[.int .i64 0,.int .i64 0] 58 115
 have HB:Hid (Bl w ((w.alloc (.cells #[.int .i64 7,.int .i64 ia,.int .i64 ib,.int .i64 ic,.int .i64 ii,.slice Q nl q] 58)).alloc mvZ)):=((Bl.refl w).alloc _).alloc _
 have HL0:=hid L0
 have HL1:=hid L1
 have hn0:w.heap.size≠a.q:=by omega
 have hn1:w.heap.size+1≠a.q:=by omega
 have hn2:w.heap.size≠w.heap.size+1:=by omega
 clear L0 L1
 have eH:valH h c ⟨7,ia,ib,ic,ii,args⟩=(h.rdH c ib 1):=by simp [valH,givesH]
 have eV:valV h c ⟨7,ia,ib,ic,ii,args⟩=⟨2,(c.rd ib).n⟩:=by simp [valV,givesV]
 rw [eH,eV]
 clear eH eV
 have HC0:∀X wx w,RX 1 X wx w0 g w h qs a c→Calls Tryz.prog 269 #[.pointer (some ⟨a.q,0,none⟩),.agg #[.int .i64 7,.int .i64 ia,.int .i64 ib,.int .i64 ic,.int .i64 ii,.slice Q nl q]] w fun e w2=>ValQ X wx w0 g qs a c (h.rdH c ib 1) ⟨2,(c.rd ib).n⟩ e w2:=fun X wx w H=>reckon_op7 X wx w0 g h qs a c ia ib ic ii args Q nl q w H hs hb
 generalize (h.rdH c ib 1)=HV at *
 generalize (⟨2,(c.rd ib).n⟩:Va)=VV at *
 rcases val_split (fun X wx w H=>HC0 X wx w H) with ⟨ch,st,HC⟩|⟨st,HC⟩
 ·replace HC:=hid HC
  have HE:Hid (∀w',RS 1 X wx w0 g w' HV qs a c→ValQ X wx w0 g qs a c HV VV (.panicked ch) w'):=fun w' H=>val_stop st.1 st.2 H
  clear H hs st hb HC0
  go_enter Tryz.func209,Tryz.ntmps209
  go_wp2_with (go_at_call 269;refine (HH.out.y.useN HB.out HC.out).mono ?_;rintro e w1 ⟨rfl,H1⟩;replace H1:=hid H1)
  exact ⟨rfl,HE.out _ H1.out⟩
 ·replace HC:=hid HC
  have HE:Hid (∀w',RX 1 X wx w0 g w' HV qs a c→ValQ X wx w0 g qs a c HV VV (.returned (mvV (im VV))) w'):=fun w' H=>val_go st rfl H
  clear H hs st hb HC0
  go_enter Tryz.func209,Tryz.ntmps209
  go_wp2_with (go_at_call 269;refine (HH.out.y.useY HB.out HC.out).mono ?_;rintro e w1 ⟨rfl,H1,K1⟩;have q1:=K1.at (Xp.new (Nat.le_succ _) (lt_w2b w _ _)) HL1.out;have c4:=c0_of q1;have c5:=c1_of q1;have fz:=free_blk q1;clear K1;replace H1:=hid H1;replace q1:=hid q1)
  refine bodyPost_ret (results_cell_row rfl _ _ (w.heap.size+1) _ _ _ _ rfl (set_two q1.out) Tryz.underlying115 rfl info_mv) rfl ?_
  refine HE.out _ (RXY.x (RXY.set (RXY.set H1.out ?_ 0 _) ?_ 1 _))<;>exact (Xp.new (Nat.le_succ _) (lt_w2b w _ _))
theorem value_op8 (X:Nat→Prop) (wx w0:World) (g:Mg) (h:Hp) (qs:List Qb) (a:Mc) (c:Cal) (ia ib ic ii:Int) (args:List Int) (Q:Option Addr) (nl q:Nat) (w:World) (H:RX 1 X wx w0 g w h qs a c) (hs:h.stops=false) (hb:0≤ib∧ib<c.locs.length) (h2:ib+1<c.locs.length) :
  Calls Tryz.prog 209 #[.pointer (some ⟨a.q,0,none⟩),.agg #[.int .i64 8,.int .i64 ia,.int .i64 ib,.int .i64 ic,.int .i64 ii,.slice Q nl q]] w fun e w'=>ValQ X wx w0 g qs a c (valH h c ⟨8,ia,ib,ic,ii,args⟩) (valV h c ⟨8,ia,ib,ic,ii,args⟩) e w':=by
 have ho:=(stops_not hs).1
 have HH:=hid H
 have HS:=hid hs
 have hq:=H.qlt
 obtain ⟨L0,L1⟩:=two_lie w #[.int .i64 8,.int .i64 ia,.int .i64 ib,.int .i64 ic,.int .i64 ii,.slice Q nl q] #[.int .i64 0,.int .i64 0] 58 115
 have HB:Hid (Bl w ((w.alloc (.cells #[.int .i64 8,.int .i64 ia,.int .i64 ib,.int .i64 ic,.int .i64 ii,.slice Q nl q] 58)).alloc mvZ)):=((Bl.refl w).alloc _).alloc _
 have HL0:=hid L0
 have HL1:=hid L1
 have hn0:w.heap.size≠a.q:=by omega
 have hn1:w.heap.size+1≠a.q:=by omega
 have hn2:w.heap.size≠w.heap.size+1:=by omega
 clear L0 L1
 have eH:valH h c ⟨8,ia,ib,ic,ii,args⟩=(h.rdH c ib 2):=by simp [valH,givesH]
 have eV:valV h c ⟨8,ia,ib,ic,ii,args⟩=⟨1,wrap32 (c.rd ib).n⟩:=by simp [valV,givesV]
 rw [eH,eV]
 clear eH eV
 have HC0:∀X wx w,RX 1 X wx w0 g w h qs a c→Calls Tryz.prog 269 #[.pointer (some ⟨a.q,0,none⟩),.agg #[.int .i64 8,.int .i64 ia,.int .i64 ib,.int .i64 ic,.int .i64 ii,.slice Q nl q]] w fun e w2=>ValQ X wx w0 g qs a c (h.rdH c ib 2) ⟨1,wrap32 (c.rd ib).n⟩ e w2:=fun X wx w H=>reckon_op8 X wx w0 g h qs a c ia ib ic ii args Q nl q w H hs hb h2
 generalize (h.rdH c ib 2)=HV at *
 generalize (⟨1,wrap32 (c.rd ib).n⟩:Va)=VV at *
 rcases val_split (fun X wx w H=>HC0 X wx w H) with ⟨ch,st,HC⟩|⟨st,HC⟩
 ·replace HC:=hid HC
  have HE:Hid (∀w',RS 1 X wx w0 g w' HV qs a c→ValQ X wx w0 g qs a c HV VV (.panicked ch) w'):=fun w' H=>val_stop st.1 st.2 H
  clear H hs st hb h2 HC0
  go_enter Tryz.func209,Tryz.ntmps209
  go_wp2_with (go_at_call 269;refine (HH.out.y.useN HB.out HC.out).mono ?_;rintro e w1 ⟨rfl,H1⟩;replace H1:=hid H1)
  exact ⟨rfl,HE.out _ H1.out⟩
 ·replace HC:=hid HC
  have HE:Hid (∀w',RX 1 X wx w0 g w' HV qs a c→ValQ X wx w0 g qs a c HV VV (.returned (mvV (im VV))) w'):=fun w' H=>val_go st rfl H
  clear H hs st hb h2 HC0
  go_enter Tryz.func209,Tryz.ntmps209
  go_wp2_with (go_at_call 269;refine (HH.out.y.useY HB.out HC.out).mono ?_;rintro e w1 ⟨rfl,H1,K1⟩;have q1:=K1.at (Xp.new (Nat.le_succ _) (lt_w2b w _ _)) HL1.out;have c4:=c0_of q1;have c5:=c1_of q1;have fz:=free_blk q1;clear K1;replace H1:=hid H1;replace q1:=hid q1)
  refine bodyPost_ret (results_cell_row rfl _ _ (w.heap.size+1) _ _ _ _ rfl (set_two q1.out) Tryz.underlying115 rfl info_mv) rfl ?_
  refine HE.out _ (RXY.x (RXY.set (RXY.set H1.out ?_ 0 _) ?_ 1 _))<;>exact (Xp.new (Nat.le_succ _) (lt_w2b w _ _))
theorem value_op9 (X:Nat→Prop) (wx w0:World) (g:Mg) (h:Hp) (qs:List Qb) (a:Mc) (c:Cal) (ia ib ic ii:Int) (args:List Int) (Q:Option Addr) (nl q:Nat) (w:World) (H:RX 1 X wx w0 g w h qs a c) (hs:h.stops=false) (hb:0≤ib∧ib<c.locs.length) (hc:0≤ic∧ic<c.locs.length) (h2:ib+1<c.locs.length∧ic+1<c.locs.length) :
  Calls Tryz.prog 209 #[.pointer (some ⟨a.q,0,none⟩),.agg #[.int .i64 9,.int .i64 ia,.int .i64 ib,.int .i64 ic,.int .i64 ii,.slice Q nl q]] w fun e w'=>ValQ X wx w0 g qs a c (valH h c ⟨9,ia,ib,ic,ii,args⟩) (valV h c ⟨9,ia,ib,ic,ii,args⟩) e w':=by
 have ho:=(stops_not hs).1
 have HH:=hid H
 have HS:=hid hs
 have hq:=H.qlt
 obtain ⟨L0,L1⟩:=two_lie w #[.int .i64 9,.int .i64 ia,.int .i64 ib,.int .i64 ic,.int .i64 ii,.slice Q nl q] #[.int .i64 0,.int .i64 0] 58 115
 have HB:Hid (Bl w ((w.alloc (.cells #[.int .i64 9,.int .i64 ia,.int .i64 ib,.int .i64 ic,.int .i64 ii,.slice Q nl q] 58)).alloc mvZ)):=((Bl.refl w).alloc _).alloc _
 have HL0:=hid L0
 have HL1:=hid L1
 have hn0:w.heap.size≠a.q:=by omega
 have hn1:w.heap.size+1≠a.q:=by omega
 have hn2:w.heap.size≠w.heap.size+1:=by omega
 clear L0 L1
 have eH:valH h c ⟨9,ia,ib,ic,ii,args⟩=((h.rdH c ib 2).rdH c ic 2):=by simp [valH,givesH]
 have eV:valV h c ⟨9,ia,ib,ic,ii,args⟩=⟨1,cmpV (c.rd ib).n (c.rd ic).n⟩:=by simp [valV,givesV]
 rw [eH,eV]
 clear eH eV
 have HC0:∀X wx w,RX 1 X wx w0 g w h qs a c→Calls Tryz.prog 269 #[.pointer (some ⟨a.q,0,none⟩),.agg #[.int .i64 9,.int .i64 ia,.int .i64 ib,.int .i64 ic,.int .i64 ii,.slice Q nl q]] w fun e w2=>ValQ X wx w0 g qs a c ((h.rdH c ib 2).rdH c ic 2) ⟨1,cmpV (c.rd ib).n (c.rd ic).n⟩ e w2:=fun X wx w H=>reckon_op9 X wx w0 g h qs a c ia ib ic ii args Q nl q w H hs hb hc h2
 generalize ((h.rdH c ib 2).rdH c ic 2)=HV at *
 generalize (⟨1,cmpV (c.rd ib).n (c.rd ic).n⟩:Va)=VV at *
 rcases val_split (fun X wx w H=>HC0 X wx w H) with ⟨ch,st,HC⟩|⟨st,HC⟩
 ·replace HC:=hid HC
  have HE:Hid (∀w',RS 1 X wx w0 g w' HV qs a c→ValQ X wx w0 g qs a c HV VV (.panicked ch) w'):=fun w' H=>val_stop st.1 st.2 H
  clear H hs st hb hc h2 HC0
  go_enter Tryz.func209,Tryz.ntmps209
  go_wp2_with (go_at_call 269;refine (HH.out.y.useN HB.out HC.out).mono ?_;rintro e w1 ⟨rfl,H1⟩;replace H1:=hid H1)
  exact ⟨rfl,HE.out _ H1.out⟩
 ·replace HC:=hid HC
  have HE:Hid (∀w',RX 1 X wx w0 g w' HV qs a c→ValQ X wx w0 g qs a c HV VV (.returned (mvV (im VV))) w'):=fun w' H=>val_go st rfl H
  clear H hs st hb hc h2 HC0
  go_enter Tryz.func209,Tryz.ntmps209
  go_wp2_with (go_at_call 269;refine (HH.out.y.useY HB.out HC.out).mono ?_;rintro e w1 ⟨rfl,H1,K1⟩;have q1:=K1.at (Xp.new (Nat.le_succ _) (lt_w2b w _ _)) HL1.out;have c4:=c0_of q1;have c5:=c1_of q1;have fz:=free_blk q1;clear K1;replace H1:=hid H1;replace q1:=hid q1)
  refine bodyPost_ret (results_cell_row rfl _ _ (w.heap.size+1) _ _ _ _ rfl (set_two q1.out) Tryz.underlying115 rfl info_mv) rfl ?_
  refine HE.out _ (RXY.x (RXY.set (RXY.set H1.out ?_ 0 _) ?_ 1 _))<;>exact (Xp.new (Nat.le_succ _) (lt_w2b w _ _))
end
def hkey (x:Hel):Int×Int:=(x.cls,x.fld)
theorem heldOf_key {cs:List Cl} {c d:Nat} {x:Hel} (h:x∈heldOf cs c d):x.cls=d∧∃k:Nat,k<(nth cl0 cs d).fields.length∧x.fld=k:=by
 unfold heldOf at h
 split at h
 ·rw [List.mem_map] at h
  obtain ⟨k,hk,rfl⟩:=h
  exact ⟨rfl,k,by simpa using hk,rfl⟩
 ·simp at h
theorem heldOf_nodup (cs:List Cl) (c d:Nat):((heldOf cs c d).map hkey).Nodup:=by
 unfold heldOf
 split
 ·rw [List.map_map]
  unfold List.Nodup
  rw [List.pairwise_map]
  refine List.Pairwise.imp ?_ (List.nodup_range (n:=(nth cl0 cs d).fields.length))
  intro a b hab e
  simp [hkey] at e
  exact hab (by omega)
 ·simp
theorem flat_nodup (cs:List Cl) (c:Nat):∀l:List Nat,l.Nodup→((l.flatMap (heldOf cs c)).map hkey).Nodup
 | [],_=>by simp
 | d::l,h=>by
  rw [List.nodup_cons] at h
  rw [List.flatMap_cons,List.map_append,List.nodup_append]
  refine ⟨heldOf_nodup cs c d,flat_nodup cs c l h.2,?_⟩
  intro a ha b hb e
  rw [List.mem_map] at ha hb
  obtain ⟨x,hx,rfl⟩:=ha
  obtain ⟨y,hy,rfl⟩:=hb
  rw [List.mem_flatMap] at hy
  obtain ⟨d',hd',hy⟩:=hy
  have h1:=(heldOf_key hx).1
  have h2:=(heldOf_key hy).1
  simp only [hkey,Prod.mk.injEq] at e
  have:d=d':=by omega
  subst this
  exact h.1 hd'
theorem newHeld_nodup (cs:List Cl) (c:Nat):((newHeld cs c).map hkey).Nodup:=flat_nodup cs c _ List.nodup_range
theorem newHeld_has {cs:List Cl} {c d k:Nat} (hd:d<cs.length) (hb:belN cs c d=true) (hk:k<(nth cl0 cs d).fields.length):((d:Int),(k:Int))∈(newHeld cs c).map hkey:=by
 rw [List.mem_map]
 refine ⟨⟨d,k,initV (nth ty0 (nth cl0 cs d).fields k)⟩,?_,rfl⟩
 unfold newHeld
 rw [List.mem_flatMap]
 refine ⟨d,by simpa using hd,?_⟩
 unfold heldOf
 rw [if_pos hb,List.mem_map]
 exact ⟨k,by simpa using hk,rfl⟩
theorem held_find {cs:List Cl} {l:List Hel} {cl:Int} {c k:Nat} (hl:l.map hkey=(newHeld cs cl.toNat).map hkey) (hb:belI cs cl (c:Int)=true) (hk:k<(nth cl0 cs c).fields.length) :
  ∃j:Nat,j<l.length∧heldAt l c k=j∧(nth hel0 l j).cls=c∧(nth hel0 l j).fld=k:=by
 unfold belI at hb
 rw [Bool.and_eq_true] at hb
 have h1:=of_decide_eq_true hb.1
 have hm:=newHeld_has (cs:=cs) (c:=cl.toNat) (d:=c) (k:=k) (by omega) (by simpa using hb.2) hk
 rw [←hl,List.mem_map] at hm
 obtain ⟨x,hx,hxk⟩:=hm
 simp only [hkey,Prod.mk.injEq] at hxk
 unfold heldAt
 cases hf:l.findIdx? (fun x=>decide (x.cls=(c:Int)∧x.fld=(k:Int))) with
 | none =>
  rw [List.findIdx?_eq_none_iff] at hf
  have:=hf x hx
  simp [hxk.1,hxk.2] at this
 | some i =>
  rw [List.findIdx?_eq_some_iff_getElem] at hf
  obtain ⟨hi,hp,-⟩:=hf
  have hp':=of_decide_eq_true hp
  refine ⟨i,hi,rfl,?_,?_⟩
  ·rw [nth_get hi];exact hp'.1
  ·rw [nth_get hi];exact hp'.2
theorem held_one {cs:List Cl} {l:List Hel} {cl:Int} (hl:l.map hkey=(newHeld cs cl.toNat).map hkey) {i j:Nat} (hi:i<l.length) (hj:j<l.length) (h:hkey (nth hel0 l i)=hkey (nth hel0 l j)):i=j:=by
 have hn:=newHeld_nodup cs cl.toNat
 rw [←hl] at hn
 rw [nth_get hi,nth_get hj] at h
 have hi':i<(l.map hkey).length:=by simpa using hi
 have hj':j<(l.map hkey).length:=by simpa using hj
 have e:(l.map hkey)[i]=(l.map hkey)[j]:=by simpa using h
 exact (List.getElem_inj hn).mp e
theorem set_keys {l:List Hel} {j:Nat} (hj:j<l.length) (v:Va):(l.set j { nth hel0 l j with v:=v }).map hkey=l.map hkey:=by
 apply List.ext_getElem
 ·simp
 ·intro i h1 h2
  simp only [List.getElem_map,List.getElem_set]
  split
  ·rename_i e
   subst e
   rw [nth_get hj]
   rfl
  ·rfl
theorem mem_nth {α:Type} {d:α} {l:List α} {x:α} (h:x∈l):∃i,i<l.length∧nth d l i=x:=by
 obtain ⟨i,hi,rfl⟩:=List.getElem_of_mem h
 exact ⟨i,hi,nth_get hi⟩
section
open Go.Maps (Keyed has)
theorem fld_cells {w:World} {A:Option Addr} {cs:List Cl} (h:ClsAt w A cs) {c f:Nat} (hc:c<cs.length) (hf:f<(nth cl0 cs c).fields.length) :
  ∃b off F fo uc,A=some ⟨b,off,none⟩∧w.cell? ⟨b,off+c*2+1,none⟩=some (.slice (some ⟨F,fo,none⟩) (nth cl0 cs c).fields.length uc)∧cs.length≤maxLen∧(nth cl0 cs c).fields.length≤maxLen
   ∧ w.cell? ⟨F,fo+f*2,none⟩=some (.int .i64 (nth ty0 (nth cl0 cs c).fields f).kind)∧w.cell? ⟨F,fo+f*2+1,none⟩=some (.int .i64 (nth ty0 (nth cl0 cs c).fields f).cls):=by
 rcases h.2 with h0|⟨b,off,rfl,hcell⟩
 ·omega
 obtain ⟨-,-,A',uc,hfl,hty⟩:=hcell c hc
 rcases hty.2 with h0|⟨F,fo,rfl,htc⟩
 ·omega
 exact ⟨b,off,F,fo,uc,rfl,hfl,h.1,hty.1,(htc f hf).1,(htc f hf).2.1⟩
theorem info_place:(Tryz.prog.info? 303).map (·.size)=some 3:=by kernel_rfl
abbrev plZ:Obj:=.cells #[.int .i64 0,.int .i64 0,.int .i64 0] 303
theorem set_three {w:World} {b:Nat} {k n m k' n' m':Value} {t:TypeId} (q:w.heap[b]?=some (.cells #[k,n,m] t (0,0))):(((w.setCell ⟨b,0,none⟩ k').setCell ⟨b,1,none⟩ n').setCell ⟨b,2,none⟩ m').heap[b]?=some (.cells #[k',n',m'] t (0,0)):=by
 rw [block_set (block_set (block_set q _) _) _];rfl
theorem placeOf_obj (hb:Nat) (v:Va) (c k:Int) (hk:v.kind=3) (hv:0≤v.n) (w:World) :
  Calls Tryz.prog 263 #[.pointer (some ⟨hb,0,none⟩),mvV (im v),.int .i64 c,.int .i64 k] w fun e w'=>e=.returned (placeV (v.n+1) c k)∧Bl w w':=by
 have HN:Hid (isN (im v)=false):=isN_no hk hv
 have e:im v=⟨3,v.n+1⟩:=im_ref hk
 rw [e] at HN ⊢
 obtain ⟨L0,L1⟩:=two_lie w #[.int .i64 3,.int .i64 (v.n+1)] #[.int .i64 0,.int .i64 0,.int .i64 0] 115 303
 have HL0:=hid L0
 have HL1:=hid L1
 have HB:Hid (Bl w ((w.alloc (mvO ⟨3,v.n+1⟩)).alloc plZ)):=((Bl.refl w).alloc _).alloc _
 clear hk hv e L0 L1
 go_enter Tryz.func263,Tryz.ntmps263
 go_wp2_with (go_at_call 138;refine (isNothing_any ⟨3,v.n+1⟩ _).mono ?_;rintro e w2 ⟨he,b2⟩;rw [HN.out] at he;subst he;have q0:=bl_blk b2 HL0.out;have c1:=c1_of q0;have q1:=bl_blk b2 HL1.out;have d0:w2.cell? ⟨w.heap.size+1,0,none⟩=some (.int .i64 0):=(cell_blk q1).trans rfl;have d1:w2.cell? ⟨w.heap.size+1,1,none⟩=some (.int .i64 0):=(cell_blk q1).trans rfl;have d2:w2.cell? ⟨w.heap.size+1,2,none⟩=some (.int .i64 0):=(cell_blk q1).trans rfl;have fz:=free_blk q1;replace b2:=hid b2;replace q1:=hid q1;clear q0)
 refine bodyPost_ret (results_cell_row rfl _ _ (w.heap.size+1) _ _ _ _ rfl (set_three q1.out) Tryz.underlying303 rfl info_place) rfl ?_
 exact ⟨rfl,Bl.setCell (Bl.setCell (Bl.setCell (HB.out.trans b2.out) (p:=⟨w.heap.size+1,0,none⟩) (Nat.le_succ _) _) (p:=⟨w.heap.size+1,1,none⟩) (Nat.le_succ _) _) (p:=⟨w.heap.size+1,2,none⟩) (Nat.le_succ _) _⟩
theorem placeOf_nil (s:Nat) (X:Nat→Prop) (wx w0:World) (g:Mg) (h:Hp) (qs:List Qb) (a:Mc) (c:Cal) (v:Va) (cc k:Int) (w:World) (H:RX s X wx w0 g w h qs a c) (hl:h.objs.length≤100) (ho:h.over=false) (hk:v.kind=3) (hv:v.n=-1) :
  Calls Tryz.prog 263 #[.pointer (some ⟨g.hb,0,none⟩),mvV (im v),.int .i64 cc,.int .i64 k] w fun e w'=>e=raiseE h∧RX s X wx w0 g w' (h.raise 1) qs a c:=by
 have HN:Hid (isN (im v)=true):=isN_yes hk hv
 have e:im v=⟨3,0⟩:=by rw [im_ref hk,hv];rfl
 rw [e] at HN ⊢
 have HB:Hid (Bl w ((w.alloc (mvO ⟨3,0⟩)).alloc plZ)):=((Bl.refl w).alloc _).alloc _
 have HH:=hid H
 have HL:=hid (And.intro hl ho)
 obtain ⟨E,hE⟩:∃E,raiseE h=E:=⟨_,rfl⟩
 have HE:=hid hE
 rw [hE]
 have HX:Hid (∃ch,E=.panicked ch):=by
  rw [←hE];unfold raiseE;split<;>exact ⟨_,rfl⟩
 clear hk hv e H hl ho hE
 obtain ⟨ch,rfl⟩:=HX.out
 go_enter Tryz.func263,Tryz.ntmps263
 go_wp2_with (first
  | (go_at_call 138;refine (isNothing_any ⟨3,0⟩ _).mono ?_;rintro e w2 ⟨he,b2⟩;rw [HN.out] at he;subst he;replace b2:=hid b2)
  | (go_at_call 264;refine (throwNew_any s X wx w0 g h qs a c 1 _ (HH.out.bl (HB.out.trans b2.out)) HL.out.1 HL.out.2).mono ?_;rintro e w3 ⟨he,H3⟩;rw [HE.out] at he;subst he;replace H3:=hid H3))
 exact ⟨rfl,rfl,H3.out⟩
theorem info_mvz:(Tryz.prog.info? 115).map (fun i=>(i.zero,i.size,i.bytes))=some (some (.agg #[.int .i64 0,.int .i64 0]),2,16):=by kernel_rfl
theorem mv_zero (w:World):(zeroValue 115).run Tryz.prog w=.ok (mvV ⟨0,0⟩) w:=by
 obtain ⟨i,hi,hz,-,-⟩:=info_parts info_mvz
 simp [zeroValue,hi,hz]
 rfl
theorem look_any {w:World} {mp n:Nat} {D:DataW Nat} (h:w.ownsMap Tryz.prog 303 mvElem mp n D) {o c k:Int} (ho:I64 o) (hc:I64 c) (hk:I64 k) (u:Va) (hu:has D (keyM o c k)=true→∀z,D.atKey (keyM o c k) z=mvD u) :
  (Instr.lookup 215 (.map (some mp)) (placeV o c k) true).run Tryz.prog w=.ok (.tuple #[mvV (if has D (keyM o c k)=true then u else ⟨0,0⟩),.bool (has D (keyM o c k))]) w:=by
 obtain ⟨v,ps,h1,h2⟩:=h.look_ok place_key Tryz.underlying215 (mv_zero w) (mvElem_mk ⟨0,0⟩) (keyM_of ho hc hk)
 rw [h1]
 cases hh:has D (keyM o c k) with
 | true =>
  rw [hu hh] at h2
  rw [if_pos rfl,mvElem_inv h2]
 | false =>
  rw [Maps.atKey_of_not_has hh] at h2
  rw [if_neg (by decide),mvElem_inv h2]
end
end Go.Proofs.YtgiiapenmjollabGreat
