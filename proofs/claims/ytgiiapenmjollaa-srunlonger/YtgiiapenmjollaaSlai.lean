import Derived.Test.YtgiiapenmjollaaSlah
namespace Go.Proofs.Ytgiiapenmjollaa
set_option linter.all false
set_option maxHeartbeats 40000000
open Go.RowKit
section
open Go.Maps (Keyed has)
theorem lt_sz (w:World) (o:Obj):(w.alloc o).heap.size=w.heap.size+1:=by simp
theorem block_far' {w:World} {b b' i:Nat} {o:Obj} (h:w.heap[b]?=some o) (hb:b≠b') (v:Value):(w.setCell ⟨b',i,none⟩ v).heap[b]?=some o:=by rw [block_far hb];exact h
theorem own_form {w:World} {base:Nat} {e:TypeId} {size n:Nat} {v:Value} {xs:List Value} (h:w.ownsRow base e size v n xs):∃A cap,v=.slice A n cap∧n≤cap∧cap≤maxLen:=by
 rcases h.2 with ⟨rfl,rfl⟩|⟨gb,cap,cur,rfl,h2,h3,h4,h5,h6⟩
 ·exact ⟨none,0,rfl,Nat.le_refl _,by unfold maxLen;omega⟩
 ·exact ⟨_,cap,rfl,h4,h5⟩
theorem RH.heapCells {s:Nat} {w0 w:World} {g:Mg} {h:Hp} {qs:List Nat} {vc vo vx:Value} (H:RH s w0 g w h qs vc vo vx):w.cell? ⟨g.hb,0,none⟩=some (.slice g.A h.file.classes.length g.a)∧w.cell? ⟨g.hb,1,none⟩=some vo∧w.cell? ⟨g.hb,2,none⟩=some (.map (some g.mp)):=by
 refine ⟨?_,?_,?_⟩<;>(rw [cell_blk H.hp];rfl)
set_option maxRecDepth 100000 in
theorem mnew_no (s:Nat) (X:Nat→Prop) (wx w0:World) (g:Mg) (h:Hp) (qs:List Nat) (a:Mc) (c:Cal) (k:Int) (w:World) (H:RX s X wx w0 g w h qs a c) (hf:h.full=true) (hl:h.objs.length≤100) :
  Calls Try.prog 136 #[.pointer (some ⟨g.hb,0,none⟩),.int .i64 k] w fun e w'=>e=stopE 4 0 0∧RX s X wx w0 g w' h qs a c:=by
 have HH:Hid (RX s X wx w0 g w h qs a c):=H
 obtain ⟨vc,vo,vx,vs,l,H⟩:=H
 obtain ⟨A,cap,rfl,h1,h2⟩:=own_form H.rh.obs
 have c1:=H.rh.heapCells.2.1
 have hq:=lt_some H.rh.hp
 have hge:(100:Int)≤(h.objs.length:Int):=by unfold Hp.full at hf;have:=of_decide_eq_true hf;omega
 clear H hf
 go_enter Try.func136,Try.ntmps136
 go_wp2_with (go_at_call 98;refine (mend_any 4 _).mono ?_;rintro e w1 ⟨rfl,hw⟩;rw [hw];clear hw w1)
 exact ⟨rfl,rfl,HH.out.bl ((Bl.refl w).alloc _)⟩
set_option maxRecDepth 100000 in
theorem mnew_yes (s:Nat) (X:Nat→Prop) (wx w0:World) (g:Mg) (h:Hp) (qs:List Nat) (a:Mc) (c:Cal) (k:Int) (w:World) (H:RX s X wx w0 g w h qs a c) (hf:h.full=false) :
  Calls Try.prog 136 #[.pointer (some ⟨g.hb,0,none⟩),.int .i64 k] w fun e w'=>e=.returned (mvV ⟨3,(h.objs.length:Int)+1⟩)∧RX s X wx w0 g w' (h.mk' k) qs a c:=by
 obtain ⟨i0,hi0,hz0,hz1,hz2⟩:=info_parts info_int1
 have hbs:=H.size
 obtain ⟨vc,vo,vx,vs,l,H⟩:=H
 have HH:=hid (H.bl ((Bl.refl w).alloc mvZ))
 have HL:=hid (blk_new w #[.int .i64 0,.int .i64 0] 109)
 have hlt:(h.objs.length:Int)<100:=by unfold Hp.full at hf;have:=of_decide_eq_false hf;omega
 obtain ⟨A,cap,hvo,h1,h2⟩:=own_form H.rh.obs
 subst hvo
 have HX1:=H.rh.obs
 have c1:=H.rh.heapCells.2.1
 have fz:=free_blk H.rh.hp 1
 have hq:=lt_some H.rh.hp
 have HO:=hid HH.out.rh.obs
 have HP:=hid (HH.out.rh.hp)
 have HNB:Hid ((Value.slice A h.objs.length cap).ownBlock≠some w.heap.size):=fun e=>by have:=row_lt HX1 e;omega
 have HNH:=hid (own_far HO.out HP.out (by decide))
 have HFar:=hid (H.rh.farNew (Nat.le_refl _))
 have HFac:=hid (H.ca.farNew (Nat.le_refl _))
 have HFx:Hid (¬X w.heap.size):=fun hx=>by have:=(H.kept.blk _ hx).1;have:=H.kept.size;omega
 have HFg:Hid (∀b,(Value.slice A h.objs.length cap).ownBlock=some b→b≠w.heap.size):=fun b e=>by have:=row_lt HX1 e;omega
 clear H hf HX1
 go_enter Try.func136,Try.ntmps136
 go_wp2_with (at_builtin;refine wpList_append_lies _ rfl (.tmp 16) (.tmp 18) 49 rfl w0.heap.size 3 i0 _ 1 8 Try.underlying49 hi0 hz0 hz1 hz2 rfl (by omega) (.slice A h.objs.length cap) h.objs.length (h.objs.map (fun o=>Value.int .i64 o.cls)) (by rfl) (by exact HO.out.alloc _) ⟨w.heap.size+1,0,none⟩ 1 1 [.int .i64 k] (by rfl) (by rfl) (World.news_of_block (cs:=#[.int .i64 k]) (t:=3) (fr:=(0,0)) (by rw [←lt_sz w mvZ];exact blk_new _ _ _)) (by simp [Value.oneCell']) (by omega) (by unfold maxLen;omega) (by omega) (by simp;omega) _ rfl ?_;intro gb cp w1 hown hgrow hat hlt1;have hp2:=grown_blk hgrow ((Below.heap_alloc _ _ _ (lt_some HP.out)).trans HP.out) HNH.out;have hb2:=grown_blk hgrow ((Below.heap_alloc _ _ _ (lt_some HL.out)).trans HL.out) HNB.out;have q1:w1.cell? ⟨g.hb,1,none⟩=some (.slice A h.objs.length cap):=(cell_blk hp2).trans rfl;have z1:=free_blk hp2 1;have r0:=c0_of hb2;have r1:=c1_of hb2;have rz:=free_blk hb2;have hgl:=lt_some hp2;have hbl:=lt_some hb2;have hne:g.hb≠w.heap.size:=(by omega);have hown:=hid hown;have hgrow:=hid hgrow;have hat:=hid hat;have hp2:=hid hp2;have hb2:=hid hb2)
 refine bodyPost_ret (results_cell_row rfl _ _ w.heap.size _ _ _ _ rfl (set_two (block_far' hb2.out (fun e=>hne e.symm) _)) Try.underlying109 rfl info_mv) rfl ?_
 have HA:=RXA.objs (HH.out.bl ((Bl.refl _).alloc _)) hgrow.out hown.out (hat.out.elim (fun e=>Or.inl e.symm) (fun e=>Or.inr fun b hb=>Nat.le_of_eq (e.symm.trans (by simpa [Value.ownBlock] using hb)))) (by omega)
 refine ⟨rfl,RXY.x (RXY.set (Y:=fun b=>b=w.heap.size) (b:=w.heap.size) (RXY.set (Y:=fun b=>b=w.heap.size) (b:=w.heap.size) ⟨vc,_,vx,vs,l,HA,fun b hb=>?_⟩ rfl 0 _) rfl 1 _)⟩
 subst hb
 refine ⟨by simpa [World.setCell] using hbl,hbs,HFx.out,⟨HFar.out.r,HFar.out.h,HFar.out.m,HFar.out.c,fun e=>?_,HFar.out.x⟩,HFac.out⟩
 simp [Value.ownBlock] at e
 rcases hat.out with q|q
 ·exact HFg.out gb q e
 ·simp at q;omega
abbrev thrE (n:Int):Ending:=stopE 2 3 (n+1)
set_option maxRecDepth 100000 in
theorem mthrow_obj (hb:Nat) (v:Va) (hk:v.kind=3) (hv:0≤v.n) (w:World) :
  Calls Try.prog 124 #[.pointer (some ⟨hb,0,none⟩),mvV (im v)] w fun e w'=>e=thrE v.n∧Bl w w':=by
 have HN:Hid (isN (im v)=false):=isN_no hk hv
 have e:im v=⟨3,v.n+1⟩:=im_ref hk
 rw [e] at HN ⊢
 have HL:=hid (blk_new w #[.int .i64 3,.int .i64 (v.n+1)] 109)
 have HB:Hid (Bl w (w.alloc (mvO ⟨3,v.n+1⟩))):=(Bl.refl w).alloc _
 clear hk hv e
 go_enter Try.func124,Try.ntmps124
 go_wp2_with (go_at_call 90;refine (isNothing_any ⟨3,v.n+1⟩ _).mono ?_;rintro e w2 ⟨he,b2⟩;rw [HN.out] at he;subst he;have q0:=bl_blk b2 HL.out;have c0:=c0_of q0;have c1:=c1_of q0;have b2:=hid b2;have q0:=hid q0)
 exact ⟨rfl,rfl,HB.out.trans b2.out⟩
set_option maxRecDepth 100000 in
theorem throwNew_yes (s:Nat) (X:Nat→Prop) (wx w0:World) (g:Mg) (h:Hp) (qs:List Nat) (a:Mc) (c:Cal) (k:Int) (w:World) (H:RX s X wx w0 g w h qs a c) (hf:h.full=false) :
  Calls Try.prog 142 #[.pointer (some ⟨g.hb,0,none⟩),.int .i64 k] w fun e w'=>e=thrE (h.objs.length:Int)∧RX s X wx w0 g w' (h.mk' k) qs a c:=by
 have HH:=hid H
 have HF:=hid hf
 clear H hf
 have HT:Hid (∀w,Calls Try.prog 124 #[.pointer (some ⟨g.hb,0,none⟩),mvV ⟨3,(h.objs.length:Int)+1⟩] w fun e w'=>e=thrE (h.objs.length:Int)∧Bl w w'):=fun w=>mthrow_obj g.hb ⟨3,(h.objs.length:Int)⟩ rfl (by simp) w
 go_enter Try.func142,Try.ntmps142
 go_wp2_with (first
  | (go_at_call 136;refine (mnew_yes s X wx w0 g h qs a c k _ HH.out HF.out).mono ?_;rintro e w1 ⟨rfl,H1⟩;have H1:=hid H1)
  | (go_at_call 124;refine (HT.out _).mono ?_;rintro e w2 ⟨rfl,b2⟩;have b2:=hid b2))
 exact ⟨rfl,rfl,H1.out.bl b2.out⟩
set_option maxRecDepth 100000 in
theorem throwNew_no (s:Nat) (X:Nat→Prop) (wx w0:World) (g:Mg) (h:Hp) (qs:List Nat) (a:Mc) (c:Cal) (k:Int) (w:World) (H:RX s X wx w0 g w h qs a c) (hf:h.full=true) (hl:h.objs.length≤100) :
  Calls Try.prog 142 #[.pointer (some ⟨g.hb,0,none⟩),.int .i64 k] w fun e w'=>e=stopE 4 0 0∧RX s X wx w0 g w' h qs a c:=by
 have HH:=hid H
 have HF:=hid hf
 have HL:=hid hl
 clear H hf hl
 go_enter Try.func142,Try.ntmps142
 go_wp2_with (go_at_call 136;refine (mnew_no s X wx w0 g h qs a c k _ HH.out HF.out HL.out).mono ?_;rintro e w1 ⟨rfl,H1⟩;have H1:=hid H1)
 exact ⟨rfl,rfl,H1.out⟩
def raiseE (h:Hp):Ending:=if h.full=true then stopE 4 0 0 else thrE (h.objs.length:Int)
theorem raise_eqv (h:Hp) (k:Int) (ho:h.over=false):Eqv (if h.full=true then h else h.mk' k) (h.raise k):=by
 unfold Hp.raise Hp.new Hp.mk'
 by_cases hf:h.full=true
 ·rw [if_pos hf,if_pos hf,if_pos (by simp [Hp.fin,ho])];exact fin_eqv h 4
 ·rw [if_neg hf,if_neg hf,if_neg (by simp [ho])]
  exact ⟨rfl,rfl,rfl,rfl,rfl,rfl,rfl⟩
theorem throwNew_any (s:Nat) (X:Nat→Prop) (wx w0:World) (g:Mg) (h:Hp) (qs:List Nat) (a:Mc) (c:Cal) (k:Int) (w:World) (H:RX s X wx w0 g w h qs a c) (hl:h.objs.length≤100) (ho:h.over=false) :
  Calls Try.prog 142 #[.pointer (some ⟨g.hb,0,none⟩),.int .i64 k] w fun e w'=>e=raiseE h∧RX s X wx w0 g w' (h.raise k) qs a c:=by
 have e:=raise_eqv h k ho
 unfold raiseE
 by_cases hf:h.full=true
 ·rw [if_pos hf] at e ⊢
  exact (throwNew_no s X wx w0 g h qs a c k w H hf hl).mono fun _ _ ⟨h1,h2⟩=>⟨h1,h2.eqv e⟩
 ·have hf':h.full=false:=by simpa using hf
  rw [if_neg hf] at e ⊢
  exact (throwNew_yes s X wx w0 g h qs a c k w H hf').mono fun _ _ ⟨h1,h2⟩=>⟨h1,h2.eqv e⟩
set_option maxRecDepth 100000 in
theorem mthrow_nil (s:Nat) (X:Nat→Prop) (wx w0:World) (g:Mg) (h:Hp) (qs:List Nat) (a:Mc) (c:Cal) (v:Va) (w:World) (H:RX s X wx w0 g w h qs a c) (hl:h.objs.length≤100) (ho:h.over=false) (hk:v.kind=3) (hv:v.n=-1) :
  Calls Try.prog 124 #[.pointer (some ⟨g.hb,0,none⟩),mvV (im v)] w fun e w'=>e=raiseE h∧RX s X wx w0 g w' (h.raise 1) qs a c:=by
 have HN:Hid (isN (im v)=true):=isN_yes hk hv
 have e:im v=⟨3,0⟩:=by rw [im_ref hk,hv];rfl
 rw [e] at HN ⊢
 have HB:Hid (Bl w (w.alloc (mvO ⟨3,0⟩))):=(Bl.refl w).alloc _
 have HH:=hid H
 have HL:=hid (And.intro hl ho)
 obtain ⟨E,hE⟩:∃E,raiseE h=E:=⟨_,rfl⟩
 have HE:=hid hE
 rw [hE]
 have HX:Hid (∃ch,E=.panicked ch):=by
  rw [←hE];unfold raiseE;split<;>exact ⟨_,rfl⟩
 clear hk hv e H hl ho hE
 obtain ⟨ch,rfl⟩:=HX.out
 go_enter Try.func124,Try.ntmps124
 go_wp2_with (first
  | (go_at_call 90;refine (isNothing_any ⟨3,0⟩ _).mono ?_;rintro e w2 ⟨he,b2⟩;rw [HN.out] at he;subst he;have b2:=hid b2)
  | (go_at_call 142;refine (throwNew_any s X wx w0 g h qs a c 1 _ (HH.out.bl (HB.out.trans b2.out)) HL.out.1 HL.out.2).mono ?_;rintro e w3 ⟨he,H3⟩;rw [HE.out] at he;subst he;have H3:=hid H3))
 exact ⟨rfl,rfl,H3.out⟩
end
structure LBox (w:World) (b:Nat) (l:List Va):Prop where
 blk:w.heap[b]?=some (.cells (vaCells l).toArray 109 (0,0))
theorem LBox.c0 {w:World} {b:Nat} {l:List Va} (h:LBox w b l) {i:Nat} (hi:i<l.length):w.cell? ⟨b,i*2,none⟩=some (.int .i64 (nth va0 l i).kind):=by
 rw [cell_blk h.blk];simpa using (va_cells l i hi).1
theorem LBox.c1 {w:World} {b:Nat} {l:List Va} (h:LBox w b l) {i:Nat} (hi:i<l.length):w.cell? ⟨b,i*2+1,none⟩=some (.int .i64 (nth va0 l i).n):=by
 rw [cell_blk h.blk];simpa using (va_cells l i hi).2
theorem LBox.bl {w w':World} {b:Nat} {l:List Va} (h:LBox w b l) (hb:Bl w w'):LBox w' b l:=⟨bl_blk hb h.blk⟩
theorem LBox.set {w:World} {b:Nat} {l:List Va} (h:LBox w b l) {i:Nat} (hi:i<l.length) (v:Va):LBox ((w.setCell ⟨b,i*2,none⟩ (.int .i64 v.kind)).setCell ⟨b,i*2+1,none⟩ (.int .i64 v.n)) b (l.set i v) :=
 ⟨by rw [block_set (block_set h.blk _),vaCells_set l i v hi];simp⟩
set_option maxRecDepth 100000 in
theorem read_num (lb lc n:Nat) (l:List Va) (k:Int) (w:World) (B:LBox w lb l) (hn:n<l.length) (hl:l.length≤1000) (hk:(nth va0 l n).kind=k) (h2:k≠2) :
  Calls Try.prog 117 #[.slice (some ⟨lb,0,none⟩) l.length lc,.int .i64 (n:Int),.int .i64 k] w fun e w'=>e=.returned (mvV (nth va0 l n))∧Bl w w':=by
 have x0:=B.c0 hn
 have x1:=B.c1 hn
 have hlt:=lt_some B.blk
 have hn0:(0:Int)≤(n:Int):=by omega
 have hn1:(n:Int)<(l.length:Int):=by omega
 have hb2:(k==2)=false:=by simpa using h2
 have hd2:decide (k=2)=false:=decide_eq_false h2
 have HK:=hid hk
 have HL:=hid (blk_new w #[.int .i64 0,.int .i64 0] 109)
 have HB:Hid (Bl w (w.alloc mvZ)):=(Bl.refl w).alloc _
 generalize nth va0 l n=u at *
 clear B hk h2
 go_enter Try.func117,Try.ntmps117
 go_wp2_with (go_at_call 112;refine (mustbe_yes u k _ HK.out).mono ?_;rintro e w2 ⟨rfl,b2⟩;have q0:=bl_blk b2 HL.out;have c4:=c0_of q0;have c5:=c1_of q0;have fz:=free_blk q0;have hl0:=lt_some q0;replace b2:=hid b2;replace q0:=hid q0)
 refine bodyPost_ret (results_cell_row rfl _ _ w.heap.size _ _ _ _ rfl ((Below.heap_alloc _ _ _ (lt_some (set_two q0.out))).trans (set_two q0.out)) Try.underlying109 rfl info_mv) rfl ?_
 exact ⟨rfl,(bl_two (HB.out.trans b2.out) (Nat.le_refl _) _ _).alloc _⟩
set_option maxRecDepth 100000 in
theorem read_kind (lb lc n:Nat) (l:List Va) (k:Int) (w:World) (B:LBox w lb l) (hn:n<l.length) (hl:l.length≤1000) (hk:(nth va0 l n).kind≠k) :
  Calls Try.prog 117 #[.slice (some ⟨lb,0,none⟩) l.length lc,.int .i64 (n:Int),.int .i64 k] w fun e w'=>e=stopE 6 0 0∧Bl w w':=by
 have x0:=B.c0 hn
 have x1:=B.c1 hn
 have hlt:=lt_some B.blk
 have hn0:(0:Int)≤(n:Int):=by omega
 have hn1:(n:Int)<(l.length:Int):=by omega
 have HK:=hid hk
 have HB:Hid (Bl w (w.alloc mvZ)):=(Bl.refl w).alloc _
 generalize nth va0 l n=u at *
 clear B hk
 go_enter Try.func117,Try.ntmps117
 go_wp2_with (go_at_call 112;refine (mustbe_no u k _ HK.out).mono ?_;rintro e w2 ⟨rfl,b2⟩;replace b2:=hid b2)
 exact ⟨rfl,rfl,HB.out.trans b2.out⟩
set_option maxRecDepth 100000 in
theorem write_num (lb lc n:Nat) (l:List Va) (v:Va) (w:World) (B:LBox w lb l) (hn:n<l.length) (hl:l.length≤1000) (hk:v.kind≠2) :
  Calls Try.prog 86 #[.slice (some ⟨lb,0,none⟩) l.length lc,.int .i64 (n:Int),mvV v] w fun e w'=>e=.returned (.tuple #[])∧LBox w' lb (l.set n v)∧w.grownBy w' (some lb):=by
 have x0:=B.c0 hn
 have x1:=B.c1 hn
 have fz:=free_blk B.blk
 have hlt:=lt_some B.blk
 have hn0:(0:Int)≤(n:Int):=by omega
 have hn1:(n:Int)<(l.length:Int):=by omega
 have hb2:(v.kind==2)=false:=by simpa using hk
 have hd2:decide (v.kind=2)=false:=decide_eq_false hk
 have HB:=hid B
 have hne:lb≠w.heap.size:=by omega
 clear B hk
 go_enter Try.func86,Try.ntmps86
 go_wp2
 go_end0
 exact ⟨rfl,(HB.out.set hn v).bl ((Bl.refl _).alloc _),grown_trans (grown_trans (grown_set lb _ _) (grown_set lb _ _)) (World.grownBy_alloc _ _ _)⟩
end Go.Proofs.Ytgiiapenmjollaa
