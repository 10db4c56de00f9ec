import Derived.Test.YtgiiapenmjollaaSlao
namespace Go.Proofs.Ytgiiapenmjollaa
set_option linter.all false
set_option maxHeartbeats 40000000
open Go.RowKit
section
open Go.Maps (Keyed has)
theorem gives_const {h:Hp} {c:Cal} {i:In} (hs:h.stops=false) (hop:i.op=1∨i.op=2∨i.op=3):doesP h c i=⟨h.putH c (givesV h va0 va0 i),c.put (givesV h va0 va0 i),c.pc+1⟩:=by
 have ho:h.over=false:=by unfold Hp.stops at hs;rw [Bool.or_eq_false_iff] at hs;exact hs.1
 have e1:manyOf i.op=0:=by unfold manyOf;rw [if_neg (by omega),if_neg (by omega)]
 have e2:c.cut 0=c:=by unfold Cal.cut;simp
 have e3:h.must (c.has 0)=h:=by unfold Hp.must Cal.has;simp
 have e4:∀x y,givesH h x y i=h:=by
  intro x y
  unfold givesH
  rw [if_neg (by rw [ho];decide)]
  rw [if_neg (by omega),if_neg (by omega),if_neg (by omega),if_neg (by omega),if_neg (by omega),if_neg (by omega),if_neg (by omega),if_neg (by omega),if_neg (by omega),if_pos hop]
 have e5:∀x y,givesV h x y i=givesV h va0 va0 i:=by
  intro x y
  unfold givesV
  rcases hop with q|q|q<;>simp [q,ho]
 unfold doesP
 rw [if_neg (by omega),if_neg (by omega),if_neg (by omega),if_neg (by omega),if_neg (by omega),if_neg (by omega),if_neg (by omega),if_neg (by omega),if_neg (by omega),if_neg (by omega)]
 unfold givesP
 dsimp only
 rw [e1,e3,e4,e2,if_neg (by rw [hs];decide),e5]
set_option maxRecDepth 100000 in
theorem work_op1 (X:Nat→Prop) (wx w0:World) (g:Mg) (h:Hp) (qs:List Nat) (a:Mc) (c:Cal) (ia ib ic ii:Int) (args:List Int) (Q:Option Addr) (nl q:Nat) (w:World) (H:RX 1 X wx w0 g w h qs a c) (hs:h.stops=false) (hl:c.stk.length≤1000) :
  Calls Try.prog 94 #[.pointer (some ⟨a.q,0,none⟩),.agg #[.int .i64 1,.int .i64 ia,.int .i64 ib,.int .i64 ic,.int .i64 ii,.slice Q nl q]] w fun e w'=>DidQ X wx w0 g qs a c (doesP h c ⟨1,ia,ib,ic,ii,args⟩) e w':=by
 have hv:givesV h va0 va0 ⟨1,ia,ib,ic,ii,args⟩=⟨1,ii⟩:=by
  have ho:h.over=false:=by unfold Hp.stops at hs;rw [Bool.or_eq_false_iff] at hs;exact hs.1
  unfold givesV
  rw [if_neg (by rw [ho];decide)]
  simp
 rw [gives_const hs (by simp),hv]
 obtain ⟨E,hE⟩:∃E,(if (sizP ((c).stk++[(⟨1,ii⟩:Va)]):Int)≤(c).m.stack then Ending.returned (.tuple #[]) else stopE 6 0 0)=E:=⟨_,rfl⟩
 have HP:Hid (∀X wx w,RX 1 X wx w0 g w h qs a (c)→Calls Try.prog 95 #[.pointer (some ⟨a.q,0,none⟩),mvV (im (⟨1,ii⟩:Va))] w fun e w2=>e=E∧RX 1 X wx w0 g w2 h qs a ((c).put (⟨1,ii⟩:Va))):=fun X wx w H=>hE▸mput_any 1 X wx w0 g h qs a (c) (⟨1,ii⟩:Va) w H (show (1:Int)≤1∧(1:Int)≤3 from by decide) (hl)
 have HE:Hid (∀w',RX 1 X wx w0 g w' h qs a ((c).put (⟨1,ii⟩:Va))→DidQ X wx w0 g qs a c ⟨(h).putH (c) (⟨1,ii⟩:Va),(c).put (⟨1,ii⟩:Va),c.pc+1⟩ E w'):=fun w' H=>did_put hs rfl ⟨rfl,rfl⟩ hE.symm H.less
 have hE2:E=.returned (.tuple #[])∨E=stopE 6 0 0:=by rw [←hE];split;exact Or.inl rfl;exact Or.inr rfl
 clear hE
 have HIM:Hid (im (⟨1,ii⟩:Va)=⟨1,ii⟩):=by rfl
 rw [HIM.out] at HP
 have HH:=hid H
 have HB:Hid (Bl w (w.alloc (.cells #[.int .i64 1,.int .i64 ia,.int .i64 ib,.int .i64 ic,.int .i64 ii,.slice Q nl q] 51))):=(Bl.refl w).alloc _
 clear H hv hs
 rcases hE2 with rfl|rfl
 ·go_enter Try.func94,Try.ntmps94
  go_wp2_with (first
   | (go_at_call 100;refine (mint_any ii _).mono ?_;rintro e w1 ⟨rfl,b1⟩;replace b1:=hid b1)
   | (go_at_call 95;refine (HH.out.y.useY (HB.out.trans b1.out) HP.out).mono ?_;rintro e w2 ⟨rfl,H2,K2⟩;replace H2:=hid H2;clear K2))
  go_end0
  exact HE.out _ H2.out.x
 ·go_enter Try.func94,Try.ntmps94
  go_wp2_with (first
   | (go_at_call 100;refine (mint_any ii _).mono ?_;rintro e w1 ⟨rfl,b1⟩;replace b1:=hid b1)
   | (go_at_call 95;refine (HH.out.y.useY (HB.out.trans b1.out) HP.out).mono ?_;rintro e w2 ⟨rfl,H2,K2⟩;replace H2:=hid H2;clear K2))
  exact ⟨rfl,HE.out _ H2.out.x⟩
set_option maxRecDepth 100000 in
theorem work_op2 (X:Nat→Prop) (wx w0:World) (g:Mg) (h:Hp) (qs:List Nat) (a:Mc) (c:Cal) (ia ib ic ii:Int) (args:List Int) (Q:Option Addr) (nl q:Nat) (w:World) (H:RX 1 X wx w0 g w h qs a c) (hs:h.stops=false) (hl:c.stk.length≤1000) :
  Calls Try.prog 94 #[.pointer (some ⟨a.q,0,none⟩),.agg #[.int .i64 2,.int .i64 ia,.int .i64 ib,.int .i64 ic,.int .i64 ii,.slice Q nl q]] w fun e w'=>DidQ X wx w0 g qs a c (doesP h c ⟨2,ia,ib,ic,ii,args⟩) e w':=by
 have hv:givesV h va0 va0 ⟨2,ia,ib,ic,ii,args⟩=⟨2,ii⟩:=by
  have ho:h.over=false:=by unfold Hp.stops at hs;rw [Bool.or_eq_false_iff] at hs;exact hs.1
  unfold givesV
  rw [if_neg (by rw [ho];decide)]
  simp
 rw [gives_const hs (by simp),hv]
 obtain ⟨E,hE⟩:∃E,(if (sizP ((c).stk++[(⟨2,ii⟩:Va)]):Int)≤(c).m.stack then Ending.returned (.tuple #[]) else stopE 6 0 0)=E:=⟨_,rfl⟩
 have HP:Hid (∀X wx w,RX 1 X wx w0 g w h qs a (c)→Calls Try.prog 95 #[.pointer (some ⟨a.q,0,none⟩),mvV (im (⟨2,ii⟩:Va))] w fun e w2=>e=E∧RX 1 X wx w0 g w2 h qs a ((c).put (⟨2,ii⟩:Va))):=fun X wx w H=>hE▸mput_any 1 X wx w0 g h qs a (c) (⟨2,ii⟩:Va) w H (show (1:Int)≤2∧(2:Int)≤3 from by decide) (hl)
 have HE:Hid (∀w',RX 1 X wx w0 g w' h qs a ((c).put (⟨2,ii⟩:Va))→DidQ X wx w0 g qs a c ⟨(h).putH (c) (⟨2,ii⟩:Va),(c).put (⟨2,ii⟩:Va),c.pc+1⟩ E w'):=fun w' H=>did_put hs rfl ⟨rfl,rfl⟩ hE.symm H.less
 have hE2:E=.returned (.tuple #[])∨E=stopE 6 0 0:=by rw [←hE];split;exact Or.inl rfl;exact Or.inr rfl
 clear hE
 have HIM:Hid (im (⟨2,ii⟩:Va)=⟨2,ii⟩):=by rfl
 rw [HIM.out] at HP
 have HH:=hid H
 have HB:Hid (Bl w (w.alloc (.cells #[.int .i64 2,.int .i64 ia,.int .i64 ib,.int .i64 ic,.int .i64 ii,.slice Q nl q] 51))):=(Bl.refl w).alloc _
 clear H hv hs
 rcases hE2 with rfl|rfl
 ·go_enter Try.func94,Try.ntmps94
  go_wp2_with (first
   | (go_at_call 99;refine (mlong_any ii _).mono ?_;rintro e w1 ⟨rfl,b1⟩;replace b1:=hid b1)
   | (go_at_call 95;refine (HH.out.y.useY (HB.out.trans b1.out) HP.out).mono ?_;rintro e w2 ⟨rfl,H2,K2⟩;replace H2:=hid H2;clear K2))
  go_end0
  exact HE.out _ H2.out.x
 ·go_enter Try.func94,Try.ntmps94
  go_wp2_with (first
   | (go_at_call 99;refine (mlong_any ii _).mono ?_;rintro e w1 ⟨rfl,b1⟩;replace b1:=hid b1)
   | (go_at_call 95;refine (HH.out.y.useY (HB.out.trans b1.out) HP.out).mono ?_;rintro e w2 ⟨rfl,H2,K2⟩;replace H2:=hid H2;clear K2))
  exact ⟨rfl,HE.out _ H2.out.x⟩
set_option maxRecDepth 100000 in
theorem work_op3 (X:Nat→Prop) (wx w0:World) (g:Mg) (h:Hp) (qs:List Nat) (a:Mc) (c:Cal) (ia ib ic ii:Int) (args:List Int) (Q:Option Addr) (nl q:Nat) (w:World) (H:RX 1 X wx w0 g w h qs a c) (hs:h.stops=false) (hl:c.stk.length≤1000) :
  Calls Try.prog 94 #[.pointer (some ⟨a.q,0,none⟩),.agg #[.int .i64 3,.int .i64 ia,.int .i64 ib,.int .i64 ic,.int .i64 ii,.slice Q nl q]] w fun e w'=>DidQ X wx w0 g qs a c (doesP h c ⟨3,ia,ib,ic,ii,args⟩) e w':=by
 have hv:givesV h va0 va0 ⟨3,ia,ib,ic,ii,args⟩=⟨3,-1⟩:=by
  have ho:h.over=false:=by unfold Hp.stops at hs;rw [Bool.or_eq_false_iff] at hs;exact hs.1
  unfold givesV
  rw [if_neg (by rw [ho];decide)]
  simp
 rw [gives_const hs (by simp),hv]
 obtain ⟨E,hE⟩:∃E,(if (sizP ((c).stk++[(⟨3,-1⟩:Va)]):Int)≤(c).m.stack then Ending.returned (.tuple #[]) else stopE 6 0 0)=E:=⟨_,rfl⟩
 have HP:Hid (∀X wx w,RX 1 X wx w0 g w h qs a (c)→Calls Try.prog 95 #[.pointer (some ⟨a.q,0,none⟩),mvV (im (⟨3,-1⟩:Va))] w fun e w2=>e=E∧RX 1 X wx w0 g w2 h qs a ((c).put (⟨3,-1⟩:Va))):=fun X wx w H=>hE▸mput_any 1 X wx w0 g h qs a (c) (⟨3,-1⟩:Va) w H (show (1:Int)≤3∧(3:Int)≤3 from by decide) (hl)
 have HE:Hid (∀w',RX 1 X wx w0 g w' h qs a ((c).put (⟨3,-1⟩:Va))→DidQ X wx w0 g qs a c ⟨(h).putH (c) (⟨3,-1⟩:Va),(c).put (⟨3,-1⟩:Va),c.pc+1⟩ E w'):=fun w' H=>did_put hs rfl ⟨rfl,rfl⟩ hE.symm H.less
 have hE2:E=.returned (.tuple #[])∨E=stopE 6 0 0:=by rw [←hE];split;exact Or.inl rfl;exact Or.inr rfl
 clear hE
 have HIM:Hid (im (⟨3,-1⟩:Va)=⟨3,0⟩):=by rfl
 rw [HIM.out] at HP
 have HH:=hid H
 have HB:Hid (Bl w (w.alloc (.cells #[.int .i64 3,.int .i64 ia,.int .i64 ib,.int .i64 ic,.int .i64 ii,.slice Q nl q] 51))):=(Bl.refl w).alloc _
 clear H hv hs
 rcases hE2 with rfl|rfl
 ·go_enter Try.func94,Try.ntmps94
  go_wp2_with (first
   | (go_at_call 113;refine (nothing_any _).mono ?_;rintro e w1 ⟨rfl,b1⟩;replace b1:=hid b1)
   | (go_at_call 95;refine (HH.out.y.useY (HB.out.trans b1.out) HP.out).mono ?_;rintro e w2 ⟨rfl,H2,K2⟩;replace H2:=hid H2;clear K2))
  go_end0
  exact HE.out _ H2.out.x
 ·go_enter Try.func94,Try.ntmps94
  go_wp2_with (first
   | (go_at_call 113;refine (nothing_any _).mono ?_;rintro e w1 ⟨rfl,b1⟩;replace b1:=hid b1)
   | (go_at_call 95;refine (HH.out.y.useY (HB.out.trans b1.out) HP.out).mono ?_;rintro e w2 ⟨rfl,H2,K2⟩;replace H2:=hid H2;clear K2))
  exact ⟨rfl,HE.out _ H2.out.x⟩
theorem hs_over {h:Hp} (hs:h.stops=false):h.over=false:=by unfold Hp.stops at hs;rw [Bool.or_eq_false_iff] at hs;exact hs.1
theorem hs_thr {h:Hp} (hs:h.stops=false):¬0≤h.thrown:=by unfold Hp.stops at hs;rw [Bool.or_eq_false_iff] at hs;simpa using hs.2
theorem did_go {X:Nat→Prop} {wx w0 w':World} {g:Mg} {h:Hp} {qs:List Nat} {a:Mc} {c c':Cal} {nx:Int} (hs:h.stops=false) (H:RX 0 X wx w0 g w' h qs a c'):DidQ X wx w0 g qs a c ⟨h,c',nx⟩ (.returned (.tuple #[])) w':=by
 refine ⟨?_,fun q=>?_,fun _=>H⟩
 ·unfold DidE;dsimp only;rw [if_neg (by rw [hs_over hs];decide),if_neg (hs_thr hs)]
 ·dsimp only at q;rw [hs] at q;exact absurd q (by decide)
theorem must_no {h:Hp} {b:Bool} (hb:b=false):h.must b=h.fin 6:=by unfold Hp.must;rw [if_neg (by rw [hb];decide)]
theorem must_yes {h:Hp} {b:Bool} (hb:b=true):h.must b=h:=by unfold Hp.must;rw [if_pos hb]
set_option maxRecDepth 100000 in
theorem work_op22 (X:Nat→Prop) (wx w0:World) (g:Mg) (h:Hp) (qs:List Nat) (a:Mc) (c:Cal) (ia ib ic ii:Int) (args:List Int) (Q:Option Addr) (nl q:Nat) (w:World) (H:RX 1 X wx w0 g w h qs a c) (hs:h.stops=false) (hl:c.stk.length≤1000) :
  Calls Try.prog 94 #[.pointer (some ⟨a.q,0,none⟩),.agg #[.int .i64 22,.int .i64 ia,.int .i64 ib,.int .i64 ic,.int .i64 ii,.slice Q nl q]] w fun e w'=>DidQ X wx w0 g qs a c (doesP h c ⟨22,ia,ib,ic,ii,args⟩) e w':=by
 have hd:doesP h c ⟨22,ia,ib,ic,ii,args⟩=popP h c ⟨22,ia,ib,ic,ii,args⟩:=rfl
 rw [hd]
 unfold popP
 have HH:=hid H
 have HS:=hid hs
 have HB:Hid (Bl w (w.alloc (.cells #[.int .i64 22,.int .i64 ia,.int .i64 ib,.int .i64 ic,.int .i64 ii,.slice Q nl q] 51))):=(Bl.refl w).alloc _
 rcases stk_one (c:=c) with h0|⟨l,v,h0⟩
 ·rw [must_no (has_nil h0)]
  have H0:=hid h0
  clear H hs h0 hd
  go_enter Try.func94,Try.ntmps94
  go_wp2_with (go_at_call 111;refine (HH.out.y.useY HB.out (fun X wx w H=>mtake_no 1 X wx w0 g h qs a c w H H0.out)).mono ?_;rintro e w2 ⟨rfl,H2,K2⟩;replace H2:=hid H2;clear K2)
  exact ⟨rfl,did_fin (s:=0) (hs_over HS.out) rfl H2.out.x.less.rs⟩
 ·obtain ⟨h1,h2,h3⟩:=has_one h0
  rw [must_yes h1,h3]
  have H0:=hid h0
  clear H hs h0 hd h1 h2 h3
  go_enter Try.func94,Try.ntmps94
  go_wp2_with (go_at_call 111;refine (HH.out.y.useY HB.out (fun X wx w H=>mtake_yes 1 X wx w0 g h qs a c l v w H H0.out)).mono ?_;rintro e w2 ⟨rfl,H2,K2⟩;replace H2:=hid H2;clear K2)
  go_end0
  exact did_go HS.out H2.out.x.less
set_option maxRecDepth 100000 in
theorem work_op25 (X:Nat→Prop) (wx w0:World) (g:Mg) (h:Hp) (qs:List Nat) (a:Mc) (c:Cal) (ia ib ic ii:Int) (args:List Int) (Q:Option Addr) (nl q:Nat) (w:World) (H:RX 1 X wx w0 g w h qs a c) (hs:h.stops=false) (hl:c.stk.length≤1000) (hI:IntsAt w0 g.I h.input) (hu:0≤h.sh.used) (hil:h.input.length≤1000000) :
  Calls Try.prog 94 #[.pointer (some ⟨a.q,0,none⟩),.agg #[.int .i64 25,.int .i64 ia,.int .i64 ib,.int .i64 ic,.int .i64 ii,.slice Q nl q]] w fun e w'=>DidQ X wx w0 g qs a c (doesP h c ⟨25,ia,ib,ic,ii,args⟩) e w':=by
 have ho:=hs_over hs
 have e2:c.cut 0=c:=by unfold Cal.cut;simp
 have e3:h.must (c.has 0)=h:=by unfold Hp.must Cal.has;simp
 have hd:doesP h c ⟨25,ia,ib,ic,ii,args⟩=givesP h c ⟨25,ia,ib,ic,ii,args⟩:=rfl
 have em:manyOf 25=0:=by decide
 have eg:∀x y,givesH h x y ⟨25,ia,ib,ic,ii,args⟩=h.input':=by intro x y;unfold givesH;rw [if_neg (by rw [ho];decide)];simp
 have ev:∀x y,givesV h x y ⟨25,ia,ib,ic,ii,args⟩=h.inV:=by intro x y;unfold givesV;rw [if_neg (by rw [ho];decide)];simp
 rw [hd]
 unfold givesP
 dsimp only
 rw [em,e3,eg,ev,e2]
 have HH:=hid H
 have HS:=hid hs
 have HI:=hid (And.intro hI (And.intro hu hil))
 have hqlt:=H.qlt
 have HB:Hid (Bl w (w.alloc (.cells #[.int .i64 25,.int .i64 ia,.int .i64 ib,.int .i64 ic,.int .i64 ii,.slice Q nl q] 51))):=(Bl.refl w).alloc _
 have x1:w.cell? ⟨a.q,1,none⟩=some (.pointer (some ⟨g.r,0,none⟩)):=by
  obtain ⟨vc,vo,vx,vs,l,H⟩:=H
  exact H.ca.cells.c1
 cases hdry:h.dry with
 | true =>
  have e1:h.input'=h.fin 3:=by unfold Hp.input';rw [if_pos hdry]
  rw [e1,if_pos (by simp [Hp.stops,(fin6 ho 3).1])]
  have HD:=hid hdry
  clear H hs hd hI hu hil eg ev e1 e2 e3 em hdry
  go_enter Try.func94,Try.ntmps94
  go_wp2_with (go_at_call 119;refine (HH.out.y.useY HB.out (fun X wx w H=>min_no 1 X wx w0 g h qs a c w H HD.out)).mono ?_;rintro e w2 ⟨rfl,H2,K2⟩;replace H2:=hid H2;clear K2)
  exact ⟨rfl,did_fin (s:=0) ho rfl H2.out.x.less.rs⟩
 | false =>
  have e1:h.input'=h.uses:=by unfold Hp.input' Hp.uses;rw [if_neg (by rw [hdry];decide)]
  have e5:h.inV=⟨2,nth (0:Int) h.input h.sh.used.toNat⟩:=by unfold Hp.inV;rw [if_neg (by rw [hdry];decide)]
  rw [e1,e5]
  have hs2:h.uses.stops=false:=hs
  rw [if_neg (by rw [hs2];decide)]
  obtain ⟨N,hN⟩:∃N,nth (0:Int) h.input h.sh.used.toNat=N:=⟨_,rfl⟩
  rw [hN]
  have HD:=hid hdry
  have HNN:=hid hN
  obtain ⟨E,hE⟩:∃E,(if (sizP ((c).stk++[(⟨2,N⟩:Va)]):Int)≤(c).m.stack then Ending.returned (.tuple #[]) else stopE 6 0 0)=E:=⟨_,rfl⟩
  have HP:Hid (∀X wx w,RX 1 X wx w0 g w h.uses qs a (c)→Calls Try.prog 95 #[.pointer (some ⟨a.q,0,none⟩),mvV (im (⟨2,N⟩:Va))] w fun e w2=>e=E∧RX 1 X wx w0 g w2 h.uses qs a ((c).put (⟨2,N⟩:Va))):=fun X wx w H=>hE▸mput_any 1 X wx w0 g h.uses qs a (c) (⟨2,N⟩:Va) w H (show (1:Int)≤2∧(2:Int)≤3 from by decide) (hl)
  have HE:Hid (∀w',RX 1 X wx w0 g w' h.uses qs a ((c).put (⟨2,N⟩:Va))→DidQ X wx w0 g qs a c ⟨(h.uses).putH (c) (⟨2,N⟩:Va),(c).put (⟨2,N⟩:Va),c.pc+1⟩ E w'):=fun w' H=>did_put hs2 rfl ⟨rfl,rfl⟩ hE.symm H.less
  have hE2:E=.returned (.tuple #[])∨E=stopE 6 0 0:=by rw [←hE];split;exact Or.inl rfl;exact Or.inr rfl
  clear hE
  clear H hs hd hI hu hil eg ev e1 e2 e3 e5 em hdry hN hs2
  rcases hE2 with rfl|rfl
  ·go_enter Try.func94,Try.ntmps94
   go_wp2_with (first
    | (go_at_call 119;refine (HH.out.y.useY HB.out (fun X wx w H=>HNN.out▸min_yes 1 X wx w0 g h qs a c w H HI.out.1 HD.out HI.out.2.1 HI.out.2.2)).mono ?_;rintro e w1 ⟨rfl,H1,K1⟩;replace H1:=hid H1;clear K1)
    | (go_at_call 95;refine (H1.out.useY (Bl.refl _) HP.out).mono ?_;rintro e w2 ⟨rfl,H2,K2⟩;replace H2:=hid H2;clear K2))
   go_end0
   exact HE.out _ H2.out.x
  ·go_enter Try.func94,Try.ntmps94
   go_wp2_with (first
    | (go_at_call 119;refine (HH.out.y.useY HB.out (fun X wx w H=>HNN.out▸min_yes 1 X wx w0 g h qs a c w H HI.out.1 HD.out HI.out.2.1 HI.out.2.2)).mono ?_;rintro e w1 ⟨rfl,H1,K1⟩;replace H1:=hid H1;clear K1)
    | (go_at_call 95;refine (H1.out.useY (Bl.refl _) HP.out).mono ?_;rintro e w2 ⟨rfl,H2,K2⟩;replace H2:=hid H2;clear K2))
   exact ⟨rfl,HE.out _ H2.out.x⟩
end
theorem two_lieO (w:World) (a b:Array Value) (s t:TypeId):((w.alloc (.cells a s)).alloc (.cells b t)).heap[w.heap.size]?=some (.cells a s (0,0))∧((w.alloc (.cells a s)).alloc (.cells b t)).heap[w.heap.size+1]?=some (.cells b t (0,0)):=by
 have h1:(w.alloc (.cells a s)).heap.size=w.heap.size+1:=by simp
 refine ⟨?_,?_⟩
 ·rw [Below.heap_alloc _ _ _ (by omega)];exact blk_new _ _ _
 ·rw [←h1];exact blk_new _ _ _
set_option maxRecDepth 100000 in
theorem cast_nil (hb:Nat) (v:Va) (cc:Int) (w:World) (hk:v.kind=3) (hv:v.n=-1) :
  Calls Try.prog 140 #[.pointer (some ⟨hb,0,none⟩),mvV (im v),.int .i64 cc] w fun e w'=>e=.returned (mvV (im v))∧Bl w w':=by
 have HN:Hid (isN (im v)=true):=isN_yes hk hv
 obtain ⟨L0,L1⟩:=two_lieO w #[.int .i64 (im v).kind,.int .i64 (im v).n] #[.int .i64 0,.int .i64 0] 109 109
 have HL0:=hid L0
 have HL1:=hid L1
 have HB:Hid (Bl w ((w.alloc (mvO (im v))).alloc mvZ)):=((Bl.refl w).alloc _).alloc _
 clear hk hv L0 L1
 go_enter Try.func140,Try.ntmps140
 go_wp2_with (go_at_call 90;refine (isNothing_any (im v) _).mono ?_;rintro e w2 ⟨he,b2⟩;rw [HN.out] at he;subst he;have q0:=bl_blk b2 HL0.out;have q1:=bl_blk b2 HL1.out;have c0:=c0_of q0;have c1:=c1_of q0;have c4:=c0_of q1;have c5:=c1_of q1;have fz:=free_blk q1;replace b2:=hid b2;replace q1:=hid q1;clear q0)
 refine bodyPost_ret (results_cell_row rfl _ _ (w.heap.size+1) _ _ _ _ rfl (set_two q1.out) Try.underlying109 rfl info_mv) rfl ?_
 exact ⟨rfl,bl_two (HB.out.trans b2.out) (Nat.le_succ _) _ _⟩
set_option maxRecDepth 100000 in
theorem cast_yes (g:Mg) (h:Hp) (v:Va) (cc:Int) (w:World) (R:HRd w g h) (hk:v.kind=3) (hv:0≤v.n) (hn:v.n<h.objs.length) (hz:belI h.file.classes (h.obj v.n).cls cc=true) :
  Calls Try.prog 140 #[.pointer (some ⟨g.hb,0,none⟩),mvV (im v),.int .i64 cc] w fun e w'=>e=.returned (mvV (im v))∧Bl w w':=by
 have HN:Hid (isN (im v)=false):=isN_no hk hv
 have HV:Hid (v.kind=3∧0≤v.n∧v.n<h.objs.length):=⟨hk,hv,hn⟩
 have HZ:=hid hz
 have HR:=hid R
 obtain ⟨L0,L1⟩:=two_lieO w #[.int .i64 (im v).kind,.int .i64 (im v).n] #[.int .i64 0,.int .i64 0] 109 109
 have HL0:=hid L0
 have HL1:=hid L1
 have HB:Hid (Bl w ((w.alloc (mvO (im v))).alloc mvZ)):=((Bl.refl w).alloc _).alloc _
 clear hk hv hn hz R L0 L1
 go_enter Try.func140,Try.ntmps140
 go_wp2_with (first
  | (go_at_call 90;refine (isNothing_any (im v) _).mono ?_;rintro e w2 ⟨he,b2⟩;rw [HN.out] at he;subst he;have q0:=bl_blk b2 HL0.out;have q1:=bl_blk b2 HL1.out;have c0:=c0_of q0;have c1:=c1_of q0;replace b2:=hid b2;replace q1:=hid q1;replace q0:=hid q0)
  | (go_at_call 122;refine (mbelow_yes g h v cc _ (HR.out.bl (HB.out.trans b2.out)) HV.out.1 HV.out.2.1 HV.out.2.2).mono ?_;rintro e w3 ⟨he,b3⟩;rw [HZ.out] at he;subst he;replace q0:=hid (bl_blk b3 q0.out);replace q1:=hid (bl_blk b3 q1.out);replace b2:=hid (b2.out.trans b3);clear c0 c1;have c0:=c0_of q0.out;have c1:=c1_of q0.out;have c4:=c0_of q1.out;have c5:=c1_of q1.out;have fz:=free_blk q1.out))
 refine bodyPost_ret (results_cell_row rfl _ _ (w.heap.size+1) _ _ _ _ rfl (set_two q1.out) Try.underlying109 rfl info_mv) rfl ?_
 exact ⟨rfl,bl_two (HB.out.trans b2.out) (Nat.le_succ _) _ _⟩
set_option maxRecDepth 100000 in
theorem cast_no (s:Nat) (X:Nat→Prop) (wx w0:World) (g:Mg) (h:Hp) (qs:List Nat) (a:Mc) (c:Cal) (v:Va) (cc:Int) (w:World) (H:RX s X wx w0 g w h qs a c) (F:Fix w0 g h) (hl:h.objs.length≤100) (ho:h.over=false) (hk:v.kind=3) (hv:0≤v.n) (hn:v.n<h.objs.length) (hz:belI h.file.classes (h.obj v.n).cls cc=false) :
  Calls Try.prog 140 #[.pointer (some ⟨g.hb,0,none⟩),mvV (im v),.int .i64 cc] w fun e w'=>e=raiseE h∧RX s X wx w0 g w' (h.raise 3) qs a c:=by
 have HN:Hid (isN (im v)=false):=isN_no hk hv
 have HV:Hid (v.kind=3∧0≤v.n∧v.n<h.objs.length):=⟨hk,hv,hn⟩
 have HZ:=hid hz
 have HH:=hid H
 have HL:=hid (And.intro hl ho)
 have HR:=hid (H.rd F hl)
 obtain ⟨L0,L1⟩:=two_lieO w #[.int .i64 (im v).kind,.int .i64 (im v).n] #[.int .i64 0,.int .i64 0] 109 109
 have HL0:=hid L0
 have HB:Hid (Bl w ((w.alloc (mvO (im v))).alloc mvZ)):=((Bl.refl w).alloc _).alloc _
 obtain ⟨E,hE⟩:∃E,raiseE h=E:=⟨_,rfl⟩
 have HE:=hid hE
 rw [hE]
 have HX:Hid (∃ch,E=.panicked ch):=by
  rw [←hE];unfold raiseE;split<;>exact ⟨_,rfl⟩
 clear hk hv hn hz L0 L1 H F hl ho hE
 obtain ⟨ch,rfl⟩:=HX.out
 go_enter Try.func140,Try.ntmps140
 go_wp2_with (first
  | (go_at_call 90;refine (isNothing_any (im v) _).mono ?_;rintro e w2 ⟨he,b2⟩;rw [HN.out] at he;subst he;have q0:=bl_blk b2 HL0.out;have c0:=c0_of q0;have c1:=c1_of q0;replace b2:=hid b2;clear q0)
  | (go_at_call 122;refine (mbelow_yes g h v cc _ (HR.out.bl (HB.out.trans b2.out)) HV.out.1 HV.out.2.1 HV.out.2.2).mono ?_;rintro e w3 ⟨he,b3⟩;rw [HZ.out] at he;subst he;replace b2:=hid (b2.out.trans b3))
  | (go_at_call 142;refine (throwNew_any s X wx w0 g h qs a c 3 _ (HH.out.bl (HB.out.trans b2.out)) HL.out.1 HL.out.2).mono ?_;rintro e w4 ⟨he,H4⟩;rw [HE.out] at he;subst he;replace H4:=hid H4))
 exact ⟨rfl,rfl,H4.out⟩
theorem work_run (k op:Int) (a b:Va) (hk:k=1∨k=2) (w:World):Calls Try.prog (if k=1 then 11 else 12) #[.int .i64 op,.int .i64 a.n,.int .i64 b.n] w fun e w'=>e=.returned (.tuple #[.int .i64 (reckN k op a b),.bool (reckB k op a b)])∧w'=w:=by
 unfold reckN reckB
 rcases hk with rfl|rfl
 ·rw [if_pos rfl,if_pos rfl,if_pos rfl];exact int_any op a.n b.n w
 ·rw [if_neg (by decide),if_neg (by decide),if_neg (by decide)];exact long_any op a.n b.n w
set_option maxRecDepth 100000 in
theorem reckon_yes (hb:Nat) (k op:Int) (a b:Va) (hk:k=1∨k=2) (hr:reckB k op a b=true) (w:World) :
  Calls Try.prog 144 #[.pointer (some ⟨hb,0,none⟩),.int .i64 k,.int .i64 op,mvV a,mvV b] w fun e w'=>e=.returned (mvV ⟨k,reckN k op a b⟩)∧Bl w w':=by
 obtain ⟨L0,L1,L2⟩:=three_lie w #[.int .i64 a.kind,.int .i64 a.n] #[.int .i64 b.kind,.int .i64 b.n] #[.int .i64 0,.int .i64 0] 109 109 109
 have c0:=c1_of L0
 have c1:=c1_of L1
 have c4:=c0_of L2
 have c5:=c1_of L2
 have fz:=free_blk L2
 have HL2:=hid L2
 have HB:Hid (Bl w (((w.alloc (mvO a)).alloc (mvO b)).alloc mvZ)):=(((Bl.refl w).alloc _).alloc _).alloc _
 have HW:=hid (work_run k op a b hk)
 have HR:=hid hr
 clear L0 L1 L2 hr
 rcases hk with rfl|rfl
 ·rw [if_pos rfl] at HW
  go_enter Try.func144,Try.ntmps144
  go_wp2_with (go_at_call 11;refine (HW.out _).mono ?_;rintro e w2 ⟨he,hw⟩;rw [HR.out] at he;subst he;rw [hw];clear hw w2)
  refine bodyPost_ret (results_cell_row rfl _ _ (w.heap.size+1+1) _ _ _ _ rfl (three_lie w _ _ _ _ _ _).2.2 Try.underlying109 rfl info_mv) rfl ?_
  exact ⟨rfl,(((Bl.refl w).alloc _).alloc _).alloc _⟩
 ·rw [if_neg (by decide)] at HW
  go_enter Try.func144,Try.ntmps144
  go_wp2_with (go_at_call 12;refine (HW.out _).mono ?_;rintro e w2 ⟨he,hw⟩;rw [HR.out] at he;subst he;rw [hw];clear hw w2)
  refine bodyPost_ret (results_cell_row rfl _ _ (w.heap.size+1+1) _ _ _ _ rfl (three_lie w _ _ _ _ _ _).2.2 Try.underlying109 rfl info_mv) rfl ?_
  exact ⟨rfl,(((Bl.refl w).alloc _).alloc _).alloc _⟩
set_option maxRecDepth 100000 in
theorem reckon_no (s:Nat) (X:Nat→Prop) (wx w0:World) (g:Mg) (h:Hp) (qs:List Nat) (a:Mc) (c:Cal) (k op:Int) (u v:Va) (hk:k=1∨k=2) (hr:reckB k op u v=false) (w:World) (H:RX s X wx w0 g w h qs a c) (hl:h.objs.length≤100) (ho:h.over=false) :
  Calls Try.prog 144 #[.pointer (some ⟨g.hb,0,none⟩),.int .i64 k,.int .i64 op,mvV u,mvV v] w fun e w'=>e=raiseE h∧RX s X wx w0 g w' (h.raise 2) qs a c:=by
 obtain ⟨L0,L1,L2⟩:=three_lie w #[.int .i64 u.kind,.int .i64 u.n] #[.int .i64 v.kind,.int .i64 v.n] #[.int .i64 0,.int .i64 0] 109 109 109
 have c0:=c1_of L0
 have c1:=c1_of L1
 have HB:Hid (Bl w (((w.alloc (mvO u)).alloc (mvO v)).alloc mvZ)):=(((Bl.refl w).alloc _).alloc _).alloc _
 have HW:=hid (work_run k op u v hk)
 have HR:=hid hr
 have HH:=hid H
 have HL:=hid (And.intro hl ho)
 obtain ⟨E,hE⟩:∃E,raiseE h=E:=⟨_,rfl⟩
 have HE:=hid hE
 rw [hE]
 have HX:Hid (∃ch,E=.panicked ch):=by
  rw [←hE];unfold raiseE;split<;>exact ⟨_,rfl⟩
 clear L0 L1 L2 hr H hl ho hE
 obtain ⟨ch,rfl⟩:=HX.out
 rcases hk with rfl|rfl
 ·rw [if_pos rfl] at HW
  go_enter Try.func144,Try.ntmps144
  go_wp2_with (first
   | (go_at_call 11;refine (HW.out _).mono ?_;rintro e w2 ⟨he,hw⟩;rw [HR.out] at he;subst he;rw [hw];clear hw w2)
   | (go_at_call 142;refine (throwNew_any s X wx w0 g h qs a c 2 _ (HH.out.bl HB.out) HL.out.1 HL.out.2).mono ?_;rintro e w4 ⟨he,H4⟩;rw [HE.out] at he;subst he;replace H4:=hid H4))
  exact ⟨rfl,rfl,H4.out⟩
 ·rw [if_neg (by decide)] at HW
  go_enter Try.func144,Try.ntmps144
  go_wp2_with (first
   | (go_at_call 12;refine (HW.out _).mono ?_;rintro e w2 ⟨he,hw⟩;rw [HR.out] at he;subst he;rw [hw];clear hw w2)
   | (go_at_call 142;refine (throwNew_any s X wx w0 g h qs a c 2 _ (HH.out.bl HB.out) HL.out.1 HL.out.2).mono ?_;rintro e w4 ⟨he,H4⟩;rw [HE.out] at he;subst he;replace H4:=hid H4))
  exact ⟨rfl,rfl,H4.out⟩
theorem ask_any (c a:Int) (b:Nat) (w:World) (hc:w.cell? ⟨b,0,none⟩=some (.int .i64 c)) :
  Calls Try.prog 57 #[.int .i64 a,.pointer (some ⟨b,0,none⟩)] w fun e w'=>e=.returned (.bool (hldB c a))∧w'=w:=by
 by_cases h1:c=1
 ·subst h1
  rw [hld1]
  go_enter Try.func57,Try.ntmps57
  go_wp2
  go_ret
  exact ⟨rfl,rfl⟩
 by_cases h2:c=2
 ·subst h2
  rw [hld2]
  go_enter Try.func57,Try.ntmps57
  go_wp2
  go_ret
  exact ⟨rfl,rfl⟩
 by_cases h3:c=3
 ·subst h3
  rw [hld3]
  go_enter Try.func57,Try.ntmps57
  go_wp2
  go_ret
  exact ⟨rfl,rfl⟩
 by_cases h4:c=4
 ·subst h4
  rw [hld4]
  go_enter Try.func57,Try.ntmps57
  go_wp2
  go_ret
  exact ⟨rfl,rfl⟩
 rw [hld0 c a h1 h2 h3 h4]
 go_enter Try.func57,Try.ntmps57
 go_wp2
 go_ret
 exact ⟨rfl,rfl⟩
end Go.Proofs.Ytgiiapenmjollaa
