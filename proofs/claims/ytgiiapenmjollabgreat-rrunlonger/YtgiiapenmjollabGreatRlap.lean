import Derived.Test.YtgiiapenmjollabGreatRlao
namespace Go.Proofs.YtgiiapenmjollabGreat
set_option linter.all false
set_option maxHeartbeats 40000000
set_option maxRecDepth 100000
open Go.RowKit
section
open Go.Maps (Keyed has)
theorem reckon_op5 (X:Nat→Prop) (wx w0:World) (g:Mg) (h:Hp) (qs:List Qb) (a:Mc) (c:Cal) (ia ib ic ii:Int) (args:List Int) (Q:Option Addr) (nl q:Nat) (w:World) (H:RX 1 X wx w0 g w h qs a c) (hs:h.stops=false) (hb:0≤ib∧ib<c.locs.length) (hc:0≤ic∧ic<c.locs.length) (hob:h.objs.length≤100) :
  Calls Tryz.prog 269 #[.pointer (some ⟨a.q,0,none⟩),.agg #[.int .i64 5,.int .i64 ia,.int .i64 ib,.int .i64 ic,.int .i64 ii,.slice Q nl q]] w fun e w'=>ValQ X wx w0 g qs a c (h.reckH (c.rd ib) (c.rd ic) 1 ii) (h.reckV (c.rd ib) (c.rd ic) 1 ii) e w':=by
 have ho:=(stops_not hs).1
 have HH:=hid H
 have HS:=hid hs
 have hq:=H.qlt
 obtain ⟨L0,L1⟩:=two_lie w #[.int .i64 5,.int .i64 ia,.int .i64 ib,.int .i64 ic,.int .i64 ii,.slice Q nl q] #[.int .i64 0,.int .i64 0] 58 115
 have HB:Hid (Bl w ((w.alloc (.cells #[.int .i64 5,.int .i64 ia,.int .i64 ib,.int .i64 ic,.int .i64 ii,.slice Q nl q] 58)).alloc mvZ)):=((Bl.refl w).alloc _).alloc _
 have HL0:=hid L0
 have HL1:=hid L1
 have hn0:w.heap.size≠a.q:=by omega
 have hn1:w.heap.size+1≠a.q:=by omega
 have hn2:w.heap.size≠w.heap.size+1:=by omega
 clear L0 L1
 rcases val_split (fun X wx w H=>operate_any 5 X wx w0 g h qs a c ia ib ic ii args Q nl q w H hs 1 hb hc (Or.inl rfl) (fun x=>by omega) hob) with ⟨ch,st,HC⟩|⟨st,HC⟩
 ·replace HC:=hid HC
  have HE:Hid (∀w',RS 1 X wx w0 g w' (h.reckH (c.rd ib) (c.rd ic) 1 ii) qs a c→ValQ X wx w0 g qs a c (h.reckH (c.rd ib) (c.rd ic) 1 ii) (h.reckV (c.rd ib) (c.rd ic) 1 ii) (.panicked ch) w'):=fun w' H=>val_stop st.1 st.2 H
  clear H hs st hb hc hob
  go_enter Tryz.func269,Tryz.ntmps269
  go_wp2_with (go_at_call 299;refine (HH.out.y.useN HB.out HC.out).mono ?_;rintro e w1 ⟨rfl,H1⟩;replace H1:=hid H1)
  exact ⟨rfl,HE.out _ H1.out⟩
 ·replace HC:=hid HC
  have HE:Hid (∀w',RX 1 X wx w0 g w' (h.reckH (c.rd ib) (c.rd ic) 1 ii) qs a c→ValQ X wx w0 g qs a c (h.reckH (c.rd ib) (c.rd ic) 1 ii) (h.reckV (c.rd ib) (c.rd ic) 1 ii) (.returned (mvV (im (h.reckV (c.rd ib) (c.rd ic) 1 ii)))) w'):=fun w' H=>val_go st rfl H
  clear H hs st hb hc hob
  go_enter Tryz.func269,Tryz.ntmps269
  go_wp2_with (go_at_call 299;refine (HH.out.y.useY HB.out HC.out).mono ?_;rintro e w1 ⟨rfl,H1,K1⟩;have q1:=K1.at (Xp.new (Nat.le_succ _) (lt_w2b w _ _)) HL1.out;have c4:=c0_of q1;have c5:=c1_of q1;have fz:=free_blk q1;clear K1;replace H1:=hid H1;replace q1:=hid q1)
  refine bodyPost_ret (results_cell_row rfl _ _ (w.heap.size+1) _ _ _ _ rfl (set_two q1.out) Tryz.underlying115 rfl info_mv) rfl ?_
  refine HE.out _ (RXY.x (RXY.set (RXY.set H1.out ?_ 0 _) ?_ 1 _))<;>exact (Xp.new (Nat.le_succ _) (lt_w2b w _ _))
theorem reckon_op6 (X:Nat→Prop) (wx w0:World) (g:Mg) (h:Hp) (qs:List Qb) (a:Mc) (c:Cal) (ia ib ic ii:Int) (args:List Int) (Q:Option Addr) (nl q:Nat) (w:World) (H:RX 1 X wx w0 g w h qs a c) (hs:h.stops=false) (hb:0≤ib∧ib<c.locs.length) (hc:0≤ic∧ic<c.locs.length) (hob:h.objs.length≤100) (h2:ib+1<c.locs.length∧ic+1<c.locs.length) :
  Calls Tryz.prog 269 #[.pointer (some ⟨a.q,0,none⟩),.agg #[.int .i64 6,.int .i64 ia,.int .i64 ib,.int .i64 ic,.int .i64 ii,.slice Q nl q]] w fun e w'=>ValQ X wx w0 g qs a c (h.reckH (c.rd ib) (c.rd ic) 2 ii) (h.reckV (c.rd ib) (c.rd ic) 2 ii) e w':=by
 have ho:=(stops_not hs).1
 have HH:=hid H
 have HS:=hid hs
 have hq:=H.qlt
 obtain ⟨L0,L1⟩:=two_lie w #[.int .i64 6,.int .i64 ia,.int .i64 ib,.int .i64 ic,.int .i64 ii,.slice Q nl q] #[.int .i64 0,.int .i64 0] 58 115
 have HB:Hid (Bl w ((w.alloc (.cells #[.int .i64 6,.int .i64 ia,.int .i64 ib,.int .i64 ic,.int .i64 ii,.slice Q nl q] 58)).alloc mvZ)):=((Bl.refl w).alloc _).alloc _
 have HL0:=hid L0
 have HL1:=hid L1
 have hn0:w.heap.size≠a.q:=by omega
 have hn1:w.heap.size+1≠a.q:=by omega
 have hn2:w.heap.size≠w.heap.size+1:=by omega
 clear L0 L1
 rcases val_split (fun X wx w H=>operate_any 6 X wx w0 g h qs a c ia ib ic ii args Q nl q w H hs 2 hb hc (Or.inr rfl) (fun x=>h2) hob) with ⟨ch,st,HC⟩|⟨st,HC⟩
 ·replace HC:=hid HC
  have HE:Hid (∀w',RS 1 X wx w0 g w' (h.reckH (c.rd ib) (c.rd ic) 2 ii) qs a c→ValQ X wx w0 g qs a c (h.reckH (c.rd ib) (c.rd ic) 2 ii) (h.reckV (c.rd ib) (c.rd ic) 2 ii) (.panicked ch) w'):=fun w' H=>val_stop st.1 st.2 H
  clear H hs st hb hc hob h2
  go_enter Tryz.func269,Tryz.ntmps269
  go_wp2_with (go_at_call 299;refine (HH.out.y.useN HB.out HC.out).mono ?_;rintro e w1 ⟨rfl,H1⟩;replace H1:=hid H1)
  exact ⟨rfl,HE.out _ H1.out⟩
 ·replace HC:=hid HC
  have HE:Hid (∀w',RX 1 X wx w0 g w' (h.reckH (c.rd ib) (c.rd ic) 2 ii) qs a c→ValQ X wx w0 g qs a c (h.reckH (c.rd ib) (c.rd ic) 2 ii) (h.reckV (c.rd ib) (c.rd ic) 2 ii) (.returned (mvV (im (h.reckV (c.rd ib) (c.rd ic) 2 ii)))) w'):=fun w' H=>val_go st rfl H
  clear H hs st hb hc hob h2
  go_enter Tryz.func269,Tryz.ntmps269
  go_wp2_with (go_at_call 299;refine (HH.out.y.useY HB.out HC.out).mono ?_;rintro e w1 ⟨rfl,H1,K1⟩;have q1:=K1.at (Xp.new (Nat.le_succ _) (lt_w2b w _ _)) HL1.out;have c4:=c0_of q1;have c5:=c1_of q1;have fz:=free_blk q1;clear K1;replace H1:=hid H1;replace q1:=hid q1)
  refine bodyPost_ret (results_cell_row rfl _ _ (w.heap.size+1) _ _ _ _ rfl (set_two q1.out) Tryz.underlying115 rfl info_mv) rfl ?_
  refine HE.out _ (RXY.x (RXY.set (RXY.set H1.out ?_ 0 _) ?_ 1 _))<;>exact (Xp.new (Nat.le_succ _) (lt_w2b w _ _))
theorem reckon_op7 (X:Nat→Prop) (wx w0:World) (g:Mg) (h:Hp) (qs:List Qb) (a:Mc) (c:Cal) (ia ib ic ii:Int) (args:List Int) (Q:Option Addr) (nl q:Nat) (w:World) (H:RX 1 X wx w0 g w h qs a c) (hs:h.stops=false) (hb:0≤ib∧ib<c.locs.length) :
  Calls Tryz.prog 269 #[.pointer (some ⟨a.q,0,none⟩),.agg #[.int .i64 7,.int .i64 ia,.int .i64 ib,.int .i64 ic,.int .i64 ii,.slice Q nl q]] w fun e w'=>ValQ X wx w0 g qs a c (h.rdH c ib 1) ⟨2,(c.rd ib).n⟩ e w':=by
 have ho:=(stops_not hs).1
 have HH:=hid H
 have HS:=hid hs
 have hq:=H.qlt
 obtain ⟨L0,L1⟩:=two_lie w #[.int .i64 7,.int .i64 ia,.int .i64 ib,.int .i64 ic,.int .i64 ii,.slice Q nl q] #[.int .i64 0,.int .i64 0] 58 115
 have HB:Hid (Bl w ((w.alloc (.cells #[.int .i64 7,.int .i64 ia,.int .i64 ib,.int .i64 ic,.int .i64 ii,.slice Q nl q] 58)).alloc mvZ)):=((Bl.refl w).alloc _).alloc _
 have HL0:=hid L0
 have HL1:=hid L1
 have hn0:w.heap.size≠a.q:=by omega
 have hn1:w.heap.size+1≠a.q:=by omega
 have hn2:w.heap.size≠w.heap.size+1:=by omega
 clear L0 L1
 by_cases e1:(c.rd ib).kind=1
 ·rw [rdH_yes e1]
  have i1:im (c.rd ib)=c.rd ib:=im_num (by omega)
  have HR:Hid (∀w',RX 1 X wx w0 g w' h qs a c→Calls Tryz.prog 137 #[.pointer (some ⟨a.q,0,none⟩),.int .i64 ib,.int .i64 1] w' fun e w2=>e=.returned (mvV (im (c.rd ib)))∧Bl w' w2):=fun w' H=>rd_yes 1 X wx w0 g h qs a c ib 1 w' H hb (by omega) (fun x=>by omega) e1
  rw [i1] at HR
  have hfd:=fun w=>mv_field (c.rd ib).kind (c.rd ib).n w
  have HE:Hid (∀w',RX 1 X wx w0 g w' h qs a c→ValQ X wx w0 g qs a c h ⟨2,(c.rd ib).n⟩ (.returned (mvV ⟨2,(c.rd ib).n⟩)) w'):=fun w' H=>val_go hs rfl H
  clear H hs hb e1 i1
  go_enter Tryz.func269,Tryz.ntmps269
  go_wp2_with (first
   | (go_at_call 137;refine (HR.out _ (HH.out.bl HB.out)).mono ?_;rintro e w1 ⟨rfl,b1⟩;have q1:=bl_blk b1 HL1.out;have c4:=c0_of q1;have c5:=c1_of q1;have fz:=free_blk q1;replace q1:=hid q1;replace b1:=hid b1)
   | (go_at_call 147;refine (mlong_any (c.rd ib).n _).mono ?_;rintro e w2 ⟨rfl,b2⟩;replace q1:=hid (bl_blk b2 q1.out);clear c4 c5 fz;have c4:=c0_of q1.out;have c5:=c1_of q1.out;have fz:=free_blk q1.out;replace b2:=hid b2))
  refine bodyPost_ret (results_cell_row rfl _ _ (w.heap.size+1) _ _ _ _ rfl (set_two q1.out) Tryz.underlying115 rfl info_mv) rfl ?_
  exact HE.out _ (HH.out.bl (bl_two ((HB.out.trans b1.out).trans b2.out) (by omega) _ _))
 ·rw [rdH_no e1]
  have HR:Hid (∀w',RX 1 X wx w0 g w' h qs a c→Calls Tryz.prog 137 #[.pointer (some ⟨a.q,0,none⟩),.int .i64 ib,.int .i64 1] w' fun e w2=>e=stopE 6 0 0∧Bl w' w2):=fun w' H=>rd_no 1 X wx w0 g h qs a c ib 1 w' H hb (by omega) (fun x=>by omega) e1
  clear H hs hb e1
  go_enter Tryz.func269,Tryz.ntmps269
  go_wp2_with (go_at_call 137;refine (HR.out _ (HH.out.bl HB.out)).mono ?_;rintro e w1 ⟨rfl,b1⟩;replace b1:=hid b1)
  exact ⟨rfl,val_fin (stops_not HS.out).1 rfl (HH.out.bl (HB.out.trans b1.out)).rs⟩
theorem reckon_op8 (X:Nat→Prop) (wx w0:World) (g:Mg) (h:Hp) (qs:List Qb) (a:Mc) (c:Cal) (ia ib ic ii:Int) (args:List Int) (Q:Option Addr) (nl q:Nat) (w:World) (H:RX 1 X wx w0 g w h qs a c) (hs:h.stops=false) (hb:0≤ib∧ib<c.locs.length) (h2:ib+1<c.locs.length) :
  Calls Tryz.prog 269 #[.pointer (some ⟨a.q,0,none⟩),.agg #[.int .i64 8,.int .i64 ia,.int .i64 ib,.int .i64 ic,.int .i64 ii,.slice Q nl q]] w fun e w'=>ValQ X wx w0 g qs a c (h.rdH c ib 2) ⟨1,wrap32 (c.rd ib).n⟩ e w':=by
 have ho:=(stops_not hs).1
 have HH:=hid H
 have HS:=hid hs
 have hq:=H.qlt
 obtain ⟨L0,L1⟩:=two_lie w #[.int .i64 8,.int .i64 ia,.int .i64 ib,.int .i64 ic,.int .i64 ii,.slice Q nl q] #[.int .i64 0,.int .i64 0] 58 115
 have HB:Hid (Bl w ((w.alloc (.cells #[.int .i64 8,.int .i64 ia,.int .i64 ib,.int .i64 ic,.int .i64 ii,.slice Q nl q] 58)).alloc mvZ)):=((Bl.refl w).alloc _).alloc _
 have HL0:=hid L0
 have HL1:=hid L1
 have hn0:w.heap.size≠a.q:=by omega
 have hn1:w.heap.size+1≠a.q:=by omega
 have hn2:w.heap.size≠w.heap.size+1:=by omega
 clear L0 L1
 by_cases e1:(c.rd ib).kind=2
 ·rw [rdH_yes e1]
  have i1:im (c.rd ib)=c.rd ib:=im_num (by omega)
  have HR:Hid (∀w',RX 1 X wx w0 g w' h qs a c→Calls Tryz.prog 137 #[.pointer (some ⟨a.q,0,none⟩),.int .i64 ib,.int .i64 2] w' fun e w2=>e=.returned (mvV (im (c.rd ib)))∧Bl w' w2):=fun w' H=>rd_yes 1 X wx w0 g h qs a c ib 2 w' H hb (by omega) (fun x=>h2) e1
  rw [i1] at HR
  have hfd:=fun w=>mv_field (c.rd ib).kind (c.rd ib).n w
  have HE:Hid (∀w',RX 1 X wx w0 g w' h qs a c→ValQ X wx w0 g qs a c h ⟨1,wrap32 (c.rd ib).n⟩ (.returned (mvV ⟨1,wrap32 (c.rd ib).n⟩)) w'):=fun w' H=>val_go hs rfl H
  clear H hs hb h2 e1 i1
  go_enter Tryz.func269,Tryz.ntmps269
  go_wp2_with (first
   | (go_at_call 137;refine (HR.out _ (HH.out.bl HB.out)).mono ?_;rintro e w1 ⟨rfl,b1⟩;have q1:=bl_blk b1 HL1.out;have c4:=c0_of q1;have c5:=c1_of q1;have fz:=free_blk q1;replace q1:=hid q1;replace b1:=hid b1)
   | (go_at_call 149;refine (narrow_any (c.rd ib).n _).mono ?_;rintro e w2 ⟨rfl,hw⟩;rw [hw];clear hw w2)
   | (go_at_call 148;refine (mint_any (wrap32 (c.rd ib).n) _).mono ?_;rintro e w2 ⟨rfl,b2⟩;replace q1:=hid (bl_blk b2 q1.out);clear c4 c5 fz;have c4:=c0_of q1.out;have c5:=c1_of q1.out;have fz:=free_blk q1.out;replace b2:=hid b2))
  refine bodyPost_ret (results_cell_row rfl _ _ (w.heap.size+1) _ _ _ _ rfl (set_two q1.out) Tryz.underlying115 rfl info_mv) rfl ?_
  exact HE.out _ (HH.out.bl (bl_two ((HB.out.trans b1.out).trans b2.out) (by omega) _ _))
 ·rw [rdH_no e1]
  have HR:Hid (∀w',RX 1 X wx w0 g w' h qs a c→Calls Tryz.prog 137 #[.pointer (some ⟨a.q,0,none⟩),.int .i64 ib,.int .i64 2] w' fun e w2=>e=stopE 6 0 0∧Bl w' w2):=fun w' H=>rd_no 1 X wx w0 g h qs a c ib 2 w' H hb (by omega) (fun x=>h2) e1
  clear H hs hb h2 e1
  go_enter Tryz.func269,Tryz.ntmps269
  go_wp2_with (go_at_call 137;refine (HR.out _ (HH.out.bl HB.out)).mono ?_;rintro e w1 ⟨rfl,b1⟩;replace b1:=hid b1)
  exact ⟨rfl,val_fin (stops_not HS.out).1 rfl (HH.out.bl (HB.out.trans b1.out)).rs⟩
theorem reckon_op9 (X:Nat→Prop) (wx w0:World) (g:Mg) (h:Hp) (qs:List Qb) (a:Mc) (c:Cal) (ia ib ic ii:Int) (args:List Int) (Q:Option Addr) (nl q:Nat) (w:World) (H:RX 1 X wx w0 g w h qs a c) (hs:h.stops=false) (hb:0≤ib∧ib<c.locs.length) (hc:0≤ic∧ic<c.locs.length) (h2:ib+1<c.locs.length∧ic+1<c.locs.length) :
  Calls Tryz.prog 269 #[.pointer (some ⟨a.q,0,none⟩),.agg #[.int .i64 9,.int .i64 ia,.int .i64 ib,.int .i64 ic,.int .i64 ii,.slice Q nl q]] w fun e w'=>ValQ X wx w0 g qs a c ((h.rdH c ib 2).rdH c ic 2) ⟨1,cmpV (c.rd ib).n (c.rd ic).n⟩ e w':=by
 have ho:=(stops_not hs).1
 have HH:=hid H
 have HS:=hid hs
 have hq:=H.qlt
 obtain ⟨L0,L1⟩:=two_lie w #[.int .i64 9,.int .i64 ia,.int .i64 ib,.int .i64 ic,.int .i64 ii,.slice Q nl q] #[.int .i64 0,.int .i64 0] 58 115
 have HB:Hid (Bl w ((w.alloc (.cells #[.int .i64 9,.int .i64 ia,.int .i64 ib,.int .i64 ic,.int .i64 ii,.slice Q nl q] 58)).alloc mvZ)):=((Bl.refl w).alloc _).alloc _
 have HL0:=hid L0
 have HL1:=hid L1
 have hn0:w.heap.size≠a.q:=by omega
 have hn1:w.heap.size+1≠a.q:=by omega
 have hn2:w.heap.size≠w.heap.size+1:=by omega
 clear L0 L1
 have z0:=hid (H.y.bl HB.out).hb
 have z1:=hid (And.intro (insC HL0.out).2.2.1 (And.intro (insC HL0.out).2.2.2.1 (insC HL0.out).2.2.2.2.1))
 by_cases e1:(c.rd ib).kind=2
 ·rw [rdH_yes e1]
  by_cases e2:(c.rd ic).kind=2
  ·rw [rdH_yes e2]
   have i1:im (c.rd ib)=c.rd ib:=im_num (by omega)
   have i2:im (c.rd ic)=c.rd ic:=im_num (by omega)
   have HR1:Hid (∀w',RX 1 X wx w0 g w' h qs a c→Calls Tryz.prog 137 #[.pointer (some ⟨a.q,0,none⟩),.int .i64 ib,.int .i64 2] w' fun e w2=>e=.returned (mvV (im (c.rd ib)))∧Bl w' w2):=fun w' H=>rd_yes 1 X wx w0 g h qs a c ib 2 w' H hb (by omega) (fun x=>h2.1) e1
   have HR2:Hid (∀w',RX 1 X wx w0 g w' h qs a c→Calls Tryz.prog 137 #[.pointer (some ⟨a.q,0,none⟩),.int .i64 ic,.int .i64 2] w' fun e w2=>e=.returned (mvV (im (c.rd ic)))∧Bl w' w2):=fun w' H=>rd_yes 1 X wx w0 g h qs a c ic 2 w' H hc (by omega) (fun x=>h2.2) e2
   rw [i1] at HR1
   rw [i2] at HR2
   have hfd:=fun w=>mv_field (c.rd ib).kind (c.rd ib).n w
   have hfd2:=fun w=>mv_field (c.rd ic).kind (c.rd ic).n w
   have HE:Hid (∀w',RX 1 X wx w0 g w' h qs a c→ValQ X wx w0 g qs a c h ⟨1,cmpV (c.rd ib).n (c.rd ic).n⟩ (.returned (mvV ⟨1,cmpV (c.rd ib).n (c.rd ic).n⟩)) w'):=fun w' H=>val_go hs rfl H
   clear H hs hb hc h2 e1 e2 i1 i2
   go_enter Tryz.func269,Tryz.ntmps269
   go_wp2
   refine wp_region_held_drew (S:=fun w'=>w'.cell? ⟨w.heap.size,2,none⟩=some (.int .i64 ib)∧w'.cell? ⟨w.heap.size,3,none⟩=some (.int .i64 ic)) (by kernel_rfl) ?_ (fun hHeld0=>?_)
   ·exact ⟨z1.out.1,z1.out.2.1⟩
   refine tk (i:=0) (d:=some 34) rfl rfl (by kernel_rfl) (fun _ _ _ h=>h) (by rfl) (by intro _ h;(try dsimp only at h);go_split_ands;go_simp<;>with_reducible rfl) hHeld0 ?_
   try simp only [aS,aN,aT,a0,a1]
   refine tk (i:=1) (d:=some 35) rfl rfl (by kernel_rfl) (fun _ _ _ h=>h) (by rfl) (by intro _ h;(try dsimp only at h);go_split_ands;go_simp<;>with_reducible rfl) hHeld0 ?_
   try simp only [aS,aN,aT,a0,a1]
   refine tk (i:=2) (d:=some 36) rfl rfl (by kernel_rfl) (fun _ _ _ h=>h) (by rfl) (by intro _ h;(try dsimp only at h);go_split_ands;go_simp<;>with_reducible rfl) hHeld0 ?_
   try simp only [aS,aN,aT,a0,a1]
   refine tk (i:=5) (d:=some 39) rfl rfl (by kernel_rfl) (fun _ _ _ h=>h) (by rfl) (by intro _ h;(try dsimp only at h);go_split_ands;go_simp<;>with_reducible rfl) hHeld0 ?_
   try simp only [aS,aN,aT,a0,a1]
   refine tk (i:=6) (d:=some 40) rfl rfl (by kernel_rfl) (fun _ _ _ h=>h) (by rfl) (by intro _ h;(try dsimp only at h);go_split_ands;go_simp<;>with_reducible rfl) hHeld0 ?_
   try simp only [aS,aN,aT,a0,a1]
   refine tk (i:=7) (d:=some 41) rfl rfl (by kernel_rfl) (fun _ _ _ h=>h) (by rfl) (by intro _ h;(try dsimp only at h);go_split_ands;go_simp<;>with_reducible rfl) hHeld0 ?_
   try simp only [aS,aN,aT,a0,a1]
   refine rd1 (i:=3) (by kernel_rfl) rfl fun K hK=>?_
   go_simp
   go_at_call 137
   refine (HR1.out _ (HH.out.bl (HB.out.drew))).mono ?_
   rintro e w1 ⟨rfl,b1⟩
   have da0:=hid (b1.cell hHeld0.1)
   have da1:=hid (b1.cell hHeld0.2)
   replace b1:=hid b1
   go_wp2_with fail
   refine hK.out _ _ (⟨da0.out,da1.out⟩) (fun hHeld1=>?_)
   try simp only [aS,aN,aT,a0,a1]
   refine tk (i:=4) (d:=some 38) rfl rfl (by kernel_rfl) (fun _ _ _ h=>h) (by rfl) (by intro _ h;(try dsimp only at h);go_split_ands;go_simp<;>with_reducible rfl) hHeld1 ?_
   try simp only [aS,aN,aT,a0,a1]
   refine rd1 (i:=8) (by kernel_rfl) rfl fun K hK=>?_
   go_simp
   go_at_call 137
   refine (HR2.out _ (HH.out.bl (HB.out.drew.trans b1.out))).mono ?_
   rintro e w2 ⟨rfl,b2⟩
   have db0:=hid (b2.cell hHeld1.1)
   have db1:=hid (b2.cell hHeld1.2)
   replace b2:=hid b2
   go_wp2_with fail
   refine hK.out _ _ (⟨db0.out,db1.out⟩) (fun hHeld2=>?_)
   try simp only [aS,aN,aT,a0,a1]
   refine tk (i:=9) (d:=some 43) rfl rfl (by kernel_rfl) (fun _ _ _ h=>h) (by rfl) (by intro _ h;(try dsimp only at h);go_split_ands;go_simp<;>with_reducible rfl) hHeld2 ?_
   try simp only [aS,aN,aT,a0,a1]
   refine rd1 (i:=10) (by kernel_rfl) rfl fun K hK=>?_
   go_simp
   go_at_call 300
   refine (cmp_any (c.rd ib).n (c.rd ic).n _).mono ?_
   rintro e w3 ⟨rfl,hw⟩
   rw [hw]
   clear hw w3
   go_wp2_with fail
   refine hK.out _ _ (hHeld2) (fun hHeld3=>?_)
   try simp only [aS,aN,aT,a0,a1]
   refine rd1 (i:=11) (by kernel_rfl) rfl fun K hK=>?_
   go_simp
   go_at_call 148
   refine (mint_any (cmpV (c.rd ib).n (c.rd ic).n) _).mono ?_
   rintro e w4 ⟨rfl,b4⟩
   have dc0:=hid (b4.cell hHeld3.1)
   have dc1:=hid (b4.cell hHeld3.2)
   replace b4:=hid b4
   have bb:=hid (((HB.out.drew.trans b1.out).trans b2.out).trans b4.out)
   have q1:=bl_blk ((b1.out.trans b2.out).trans b4.out) HL1.out
   have c4:=c0_of q1
   have c5:=c1_of q1
   have fz:=free_blk q1
   replace q1:=hid q1
   go_wp2_with fail
   refine hK.out _ _ (⟨dc0.out,dc1.out⟩) (fun hHeld4=>?_)
   try simp only [aS,aN,aT,a0,a1]
   refine rd1 (i:=12) (by kernel_rfl) rfl fun K hK=>?_
   go_wp2_with fail
   refine hK.out _ _ (⟨set2_cellD dc0.out hn2,set2_cellD dc1.out hn2⟩) (fun hHeld5=>?_)
   try simp only [aS,aN,aT,a0,a1]
   refine wpAnyH_done (by kernel_rfl) ?_ _
   go_wp2
   refine bodyPost_ret (results_cell_row rfl _ _ (w.heap.size+1) _ _ _ _ rfl (set_two q1.out) Tryz.underlying115 rfl info_mv) rfl ?_
   exact HE.out _ (HH.out.bl (bl_two bb.out (by omega) _ _))
  ·rw [rdH_no e2]
   have HR1:Hid (∀w',RX 1 X wx w0 g w' h qs a c→Calls Tryz.prog 137 #[.pointer (some ⟨a.q,0,none⟩),.int .i64 ib,.int .i64 2] w' fun e w2=>e=.returned (mvV (im (c.rd ib)))∧Bl w' w2):=fun w' H=>rd_yes 1 X wx w0 g h qs a c ib 2 w' H hb (by omega) (fun x=>h2.1) e1
   have HR2:Hid (∀w',RX 1 X wx w0 g w' h qs a c→Calls Tryz.prog 137 #[.pointer (some ⟨a.q,0,none⟩),.int .i64 ic,.int .i64 2] w' fun e w2=>e=stopE 6 0 0∧Bl w' w2):=fun w' H=>rd_no 1 X wx w0 g h qs a c ic 2 w' H hc (by omega) (fun x=>h2.2) e2
   have i1:im (c.rd ib)=c.rd ib:=im_num (by omega)
   rw [i1] at HR1
   have hfd:=fun w=>mv_field (c.rd ib).kind (c.rd ib).n w
   clear H hs hb hc h2 e1 e2 i1
   go_enter Tryz.func269,Tryz.ntmps269
   go_wp2
   refine wp_region_held_drew (S:=fun w'=>w'.cell? ⟨w.heap.size,2,none⟩=some (.int .i64 ib)∧w'.cell? ⟨w.heap.size,3,none⟩=some (.int .i64 ic)) (by kernel_rfl) ?_ (fun hHeld0=>?_)
   ·exact ⟨z1.out.1,z1.out.2.1⟩
   refine tk (i:=0) (d:=some 34) rfl rfl (by kernel_rfl) (fun _ _ _ h=>h) (by rfl) (by intro _ h;(try dsimp only at h);go_split_ands;go_simp<;>with_reducible rfl) hHeld0 ?_
   try simp only [aS,aN,aT,a0,a1]
   refine tk (i:=1) (d:=some 35) rfl rfl (by kernel_rfl) (fun _ _ _ h=>h) (by rfl) (by intro _ h;(try dsimp only at h);go_split_ands;go_simp<;>with_reducible rfl) hHeld0 ?_
   try simp only [aS,aN,aT,a0,a1]
   refine tk (i:=2) (d:=some 36) rfl rfl (by kernel_rfl) (fun _ _ _ h=>h) (by rfl) (by intro _ h;(try dsimp only at h);go_split_ands;go_simp<;>with_reducible rfl) hHeld0 ?_
   try simp only [aS,aN,aT,a0,a1]
   refine tk (i:=5) (d:=some 39) rfl rfl (by kernel_rfl) (fun _ _ _ h=>h) (by rfl) (by intro _ h;(try dsimp only at h);go_split_ands;go_simp<;>with_reducible rfl) hHeld0 ?_
   try simp only [aS,aN,aT,a0,a1]
   refine tk (i:=6) (d:=some 40) rfl rfl (by kernel_rfl) (fun _ _ _ h=>h) (by rfl) (by intro _ h;(try dsimp only at h);go_split_ands;go_simp<;>with_reducible rfl) hHeld0 ?_
   try simp only [aS,aN,aT,a0,a1]
   refine tk (i:=7) (d:=some 41) rfl rfl (by kernel_rfl) (fun _ _ _ h=>h) (by rfl) (by intro _ h;(try dsimp only at h);go_split_ands;go_simp<;>with_reducible rfl) hHeld0 ?_
   try simp only [aS,aN,aT,a0,a1]
   refine rd1 (i:=3) (by kernel_rfl) rfl fun K hK=>?_
   go_simp
   go_at_call 137
   refine (HR1.out _ (HH.out.bl (HB.out.drew))).mono ?_
   rintro e w1 ⟨rfl,b1⟩
   have da0:=hid (b1.cell hHeld0.1)
   have da1:=hid (b1.cell hHeld0.2)
   replace b1:=hid b1
   go_wp2_with fail
   refine hK.out _ _ (⟨da0.out,da1.out⟩) (fun hHeld1=>?_)
   try simp only [aS,aN,aT,a0,a1]
   refine tk (i:=4) (d:=some 38) rfl rfl (by kernel_rfl) (fun _ _ _ h=>h) (by rfl) (by intro _ h;(try dsimp only at h);go_split_ands;go_simp<;>with_reducible rfl) hHeld1 ?_
   try simp only [aS,aN,aT,a0,a1]
   refine rd1 (i:=8) (by kernel_rfl) rfl fun K hK=>?_
   go_simp
   go_at_call 137
   refine (HR2.out _ (HH.out.bl (HB.out.drew.trans b1.out))).mono ?_
   rintro e w2 ⟨rfl,b2⟩
   exact ⟨rfl,val_fin (stops_not HS.out).1 rfl (HH.out.bl ((HB.out.drew.trans b1.out).trans b2)).rs⟩
 ·rw [rdH_no e1]
  have e3:(h.fin 6).rdH c ic 2=h.fin 6:=by
   unfold Hp.rdH Hp.must
   split
   ·rfl
   ·have hov:=(fin6 ho 6).1
    show (h.fin 6).fin 6=h.fin 6
    rw [show (h.fin 6).fin 6=(if (h.fin 6).over=true then h.fin 6 else _) from rfl,if_pos hov]
  rw [e3]
  have HR1:Hid (∀w',RX 1 X wx w0 g w' h qs a c→Calls Tryz.prog 137 #[.pointer (some ⟨a.q,0,none⟩),.int .i64 ib,.int .i64 2] w' fun e w2=>e=stopE 6 0 0∧Bl w' w2):=fun w' H=>rd_no 1 X wx w0 g h qs a c ib 2 w' H hb (by omega) (fun x=>h2.1) e1
  clear H hs hb hc h2 e1 e3
  go_enter Tryz.func269,Tryz.ntmps269
  go_wp2
  refine wp_region_held_drew (S:=fun w'=>w'.cell? ⟨w.heap.size,2,none⟩=some (.int .i64 ib)∧w'.cell? ⟨w.heap.size,3,none⟩=some (.int .i64 ic)) (by kernel_rfl) ?_ (fun hHeld0=>?_)
  ·exact ⟨z1.out.1,z1.out.2.1⟩
  refine tk (i:=0) (d:=some 34) rfl rfl (by kernel_rfl) (fun _ _ _ h=>h) (by rfl) (by intro _ h;(try dsimp only at h);go_split_ands;go_simp<;>with_reducible rfl) hHeld0 ?_
  try simp only [aS,aN,aT,a0,a1]
  refine tk (i:=1) (d:=some 35) rfl rfl (by kernel_rfl) (fun _ _ _ h=>h) (by rfl) (by intro _ h;(try dsimp only at h);go_split_ands;go_simp<;>with_reducible rfl) hHeld0 ?_
  try simp only [aS,aN,aT,a0,a1]
  refine tk (i:=2) (d:=some 36) rfl rfl (by kernel_rfl) (fun _ _ _ h=>h) (by rfl) (by intro _ h;(try dsimp only at h);go_split_ands;go_simp<;>with_reducible rfl) hHeld0 ?_
  try simp only [aS,aN,aT,a0,a1]
  refine tk (i:=5) (d:=some 39) rfl rfl (by kernel_rfl) (fun _ _ _ h=>h) (by rfl) (by intro _ h;(try dsimp only at h);go_split_ands;go_simp<;>with_reducible rfl) hHeld0 ?_
  try simp only [aS,aN,aT,a0,a1]
  refine tk (i:=6) (d:=some 40) rfl rfl (by kernel_rfl) (fun _ _ _ h=>h) (by rfl) (by intro _ h;(try dsimp only at h);go_split_ands;go_simp<;>with_reducible rfl) hHeld0 ?_
  try simp only [aS,aN,aT,a0,a1]
  refine tk (i:=7) (d:=some 41) rfl rfl (by kernel_rfl) (fun _ _ _ h=>h) (by rfl) (by intro _ h;(try dsimp only at h);go_split_ands;go_simp<;>with_reducible rfl) hHeld0 ?_
  try simp only [aS,aN,aT,a0,a1]
  refine rd1 (i:=3) (by kernel_rfl) rfl fun K hK=>?_
  go_simp
  go_at_call 137
  refine (HR1.out _ (HH.out.bl (HB.out.drew))).mono ?_
  rintro e w1 ⟨rfl,b1⟩
  exact ⟨rfl,val_fin (stops_not HS.out).1 rfl (HH.out.bl (HB.out.drew.trans b1)).rs⟩
end
end Go.Proofs.YtgiiapenmjollabGreat
