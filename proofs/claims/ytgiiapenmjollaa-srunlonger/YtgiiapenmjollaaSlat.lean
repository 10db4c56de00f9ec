import Derived.Test.YtgiiapenmjollaaSlas
namespace Go.Proofs.Ytgiiapenmjollaa
set_option linter.all false
set_option maxHeartbeats 40000000
open Go.RowKit
section
open Go.Maps (Keyed has)
set_option maxRecDepth 100000 in
theorem work_op8 (X:Nat→Prop) (wx w0:World) (g:Mg) (h:Hp) (qs:List Nat) (a:Mc) (c:Cal) (ia ib ic ii:Int) (args:List Int) (Q:Option Addr) (nl q:Nat) (w:World) (H:RX 1 X wx w0 g w h qs a c) (hs:h.stops=false) (hl:c.stk.length≤1000) :
  Calls Try.prog 94 #[.pointer (some ⟨a.q,0,none⟩),.agg #[.int .i64 8,.int .i64 ia,.int .i64 ib,.int .i64 ic,.int .i64 ii,.slice Q nl q]] w fun e w'=>DidQ X wx w0 g qs a c (doesP h c ⟨8,ia,ib,ic,ii,args⟩) e w':=by
 have ho:=hs_over hs
 have HH:=hid H
 have HS:=hid hs
 have HB:Hid (Bl w (w.alloc (.cells #[.int .i64 8,.int .i64 ia,.int .i64 ib,.int .i64 ic,.int .i64 ii,.slice Q nl q] 51))):=(Bl.refl w).alloc _
 have bad:(c.stk=[]∨∃l v,c.stk=l++[v]∧v.kind≠1)→Calls Try.prog 94 #[.pointer (some ⟨a.q,0,none⟩),.agg #[.int .i64 8,.int .i64 ia,.int .i64 ib,.int .i64 ic,.int .i64 ii,.slice Q nl q]] w fun e w'=>DidQ X wx w0 g qs a c ⟨h.fin 6,c,0⟩ e w':=fun hn=>by
  have HN:=hid hn
  clear H hs hn
  go_enter Try.func94,Try.ntmps94
  go_wp2_with (go_at_call 120;refine (HH.out.y.useN HB.out (fun X wx w H=>reckon8_no X wx w0 g h qs a c ia ib ic ii Q nl q w H HN.out)).mono ?_;rintro e w1 ⟨rfl,H1⟩;replace H1:=hid H1)
  exact ⟨rfl,did_fin (s:=0) (hs_over HS.out) rfl H1.out.less⟩
 have hd:doesP h c ⟨8,ia,ib,ic,ii,args⟩=givesP h c ⟨8,ia,ib,ic,ii,args⟩:=rfl
 have em:manyOf 8=1:=by decide
 rw [hd]
 unfold givesP
 dsimp only
 rw [em]
 rcases stk_one (c:=c) with h0|⟨l,v,h0⟩
 ·rw [must_no (has_nil h0),gives_over (fin6 ho 6).1,if_pos (fin_stops hs 6)]
  exact (bad (Or.inl h0)).mono fun e w' q=>did_chg (d:=⟨h.fin 6,c,0⟩) rfl (fin_stops hs 6) q
 ·obtain ⟨h1,h2,h4⟩:=has_one h0
  rw [must_yes h1,h2,h4]
  generalize nth va0 (c.top 1) 1=y
  by_cases hk:v.kind=1
  ·have eg:givesH h v y ⟨8,ia,ib,ic,ii,args⟩=h:=by
    unfold givesH
    rw [if_neg (by rw [ho];decide)]
    simp [Hp.must,hk]
   have ev:givesV h v y ⟨8,ia,ib,ic,ii,args⟩=⟨2,v.n⟩:=by
    unfold givesV
    rw [if_neg (by rw [ho];decide)]
    simp
   rw [eg,ev,if_neg (by rw [hs];decide)]
   obtain ⟨N,hN⟩:∃N,v.n=N:=⟨_,rfl⟩
   rw [hN]
   have HR:Hid (∀X wx w,RX 1 X wx w0 g w h qs a c→Calls Try.prog 120 #[.pointer (some ⟨a.q,0,none⟩),.agg #[.int .i64 8,.int .i64 ia,.int .i64 ib,.int .i64 ic,.int .i64 ii,.slice Q nl q]] w fun e w'=>e=.returned (mvV ⟨2,N⟩)∧RX 1 X wx w0 g w' h qs a { c with stk:=l }):=fun X wx w H=>hN▸reckon8_yes X wx w0 g h qs a c ia ib ic ii Q nl q w H l v h0 hk
   obtain ⟨E,hE⟩:∃E,(if (sizP (({ c with stk:=l }).stk++[(⟨2,N⟩:Va)]):Int)≤({ c with stk:=l }).m.stack then Ending.returned (.tuple #[]) else stopE 6 0 0)=E:=⟨_,rfl⟩
   have HP:Hid (∀X wx w,RX 1 X wx w0 g w h qs a ({ c with stk:=l })→Calls Try.prog 95 #[.pointer (some ⟨a.q,0,none⟩),mvV (im (⟨2,N⟩:Va))] w fun e w2=>e=E∧RX 1 X wx w0 g w2 h qs a (({ c with stk:=l }).put (⟨2,N⟩:Va))):=fun X wx w H=>hE▸mput_any 1 X wx w0 g h qs a ({ c with stk:=l }) (⟨2,N⟩:Va) w H (show (1:Int)≤2∧(2:Int)≤3 from by decide) (by have e:c.stk.length=l.length+1:=(by rw [h0];simp);show l.length≤1000;omega)
   have HE:Hid (∀w',RX 1 X wx w0 g w' h qs a (({ c with stk:=l }).put (⟨2,N⟩:Va))→DidQ X wx w0 g qs a c ⟨(h).putH ({ c with stk:=l }) (⟨2,N⟩:Va),({ c with stk:=l }).put (⟨2,N⟩:Va),c.pc+1⟩ E w'):=fun w' H=>did_put hs rfl ⟨rfl,rfl⟩ hE.symm H.less
   have hE2:E=.returned (.tuple #[])∨E=stopE 6 0 0:=by rw [←hE];split;exact Or.inl rfl;exact Or.inr rfl
   clear hE
   have HIM:Hid (im (⟨2,N⟩:Va)=⟨2,N⟩):=im_num (show (2:Int)≠3 by decide)
   rw [HIM.out] at HP
   clear H hs hd bad em h0 h1 h2 h4 hk eg ev hN
   rcases hE2 with rfl|rfl
   ·go_enter Try.func94,Try.ntmps94
    go_wp2_with (first
     | (go_at_call 120;refine (HH.out.y.useY HB.out HR.out).mono ?_;rintro e w1 ⟨rfl,H1,K1⟩;clear K1;replace H1:=hid H1)
     | (go_at_call 95;refine (H1.out.useY (Bl.refl _) HP.out).mono ?_;rintro e w2 ⟨rfl,H2,K2⟩;clear K2;replace H2:=hid H2))
    go_end0
    exact HE.out _ H2.out.x
   ·go_enter Try.func94,Try.ntmps94
    go_wp2_with (first
     | (go_at_call 120;refine (HH.out.y.useY HB.out HR.out).mono ?_;rintro e w1 ⟨rfl,H1,K1⟩;clear K1;replace H1:=hid H1)
     | (go_at_call 95;refine (H1.out.useY (Bl.refl _) HP.out).mono ?_;rintro e w2 ⟨rfl,H2,K2⟩;clear K2;replace H2:=hid H2))
    exact ⟨rfl,HE.out _ H2.out.x⟩
  ·have eg:givesH h v y ⟨8,ia,ib,ic,ii,args⟩=h.fin 6:=by
    unfold givesH
    rw [if_neg (by rw [ho];decide)]
    simp [Hp.must,hk]
   rw [eg,if_pos (fin_stops hs 6)]
   exact (bad (Or.inr ⟨l,v,h0,hk⟩)).mono fun e w' q=>did_chg (d:=⟨h.fin 6,c,0⟩) rfl (fin_stops hs 6) q
set_option maxRecDepth 100000 in
theorem work_op9 (X:Nat→Prop) (wx w0:World) (g:Mg) (h:Hp) (qs:List Nat) (a:Mc) (c:Cal) (ia ib ic ii:Int) (args:List Int) (Q:Option Addr) (nl q:Nat) (w:World) (H:RX 1 X wx w0 g w h qs a c) (hs:h.stops=false) (hl:c.stk.length≤1000) :
  Calls Try.prog 94 #[.pointer (some ⟨a.q,0,none⟩),.agg #[.int .i64 9,.int .i64 ia,.int .i64 ib,.int .i64 ic,.int .i64 ii,.slice Q nl q]] w fun e w'=>DidQ X wx w0 g qs a c (doesP h c ⟨9,ia,ib,ic,ii,args⟩) e w':=by
 have ho:=hs_over hs
 have HH:=hid H
 have HS:=hid hs
 have HB:Hid (Bl w (w.alloc (.cells #[.int .i64 9,.int .i64 ia,.int .i64 ib,.int .i64 ic,.int .i64 ii,.slice Q nl q] 51))):=(Bl.refl w).alloc _
 have bad:(c.stk=[]∨∃l v,c.stk=l++[v]∧v.kind≠2)→Calls Try.prog 94 #[.pointer (some ⟨a.q,0,none⟩),.agg #[.int .i64 9,.int .i64 ia,.int .i64 ib,.int .i64 ic,.int .i64 ii,.slice Q nl q]] w fun e w'=>DidQ X wx w0 g qs a c ⟨h.fin 6,c,0⟩ e w':=fun hn=>by
  have HN:=hid hn
  clear H hs hn
  go_enter Try.func94,Try.ntmps94
  go_wp2_with (go_at_call 120;refine (HH.out.y.useN HB.out (fun X wx w H=>reckon9_no X wx w0 g h qs a c ia ib ic ii Q nl q w H HN.out)).mono ?_;rintro e w1 ⟨rfl,H1⟩;replace H1:=hid H1)
  exact ⟨rfl,did_fin (s:=0) (hs_over HS.out) rfl H1.out.less⟩
 have hd:doesP h c ⟨9,ia,ib,ic,ii,args⟩=givesP h c ⟨9,ia,ib,ic,ii,args⟩:=rfl
 have em:manyOf 9=1:=by decide
 rw [hd]
 unfold givesP
 dsimp only
 rw [em]
 rcases stk_one (c:=c) with h0|⟨l,v,h0⟩
 ·rw [must_no (has_nil h0),gives_over (fin6 ho 6).1,if_pos (fin_stops hs 6)]
  exact (bad (Or.inl h0)).mono fun e w' q=>did_chg (d:=⟨h.fin 6,c,0⟩) rfl (fin_stops hs 6) q
 ·obtain ⟨h1,h2,h4⟩:=has_one h0
  rw [must_yes h1,h2,h4]
  generalize nth va0 (c.top 1) 1=y
  by_cases hk:v.kind=2
  ·have eg:givesH h v y ⟨9,ia,ib,ic,ii,args⟩=h:=by
    unfold givesH
    rw [if_neg (by rw [ho];decide)]
    simp [Hp.must,hk]
   have ev:givesV h v y ⟨9,ia,ib,ic,ii,args⟩=⟨1,wrap32 v.n⟩:=by
    unfold givesV
    rw [if_neg (by rw [ho];decide)]
    simp
   rw [eg,ev,if_neg (by rw [hs];decide)]
   obtain ⟨N,hN⟩:∃N,wrap32 v.n=N:=⟨_,rfl⟩
   rw [hN]
   have HR:Hid (∀X wx w,RX 1 X wx w0 g w h qs a c→Calls Try.prog 120 #[.pointer (some ⟨a.q,0,none⟩),.agg #[.int .i64 9,.int .i64 ia,.int .i64 ib,.int .i64 ic,.int .i64 ii,.slice Q nl q]] w fun e w'=>e=.returned (mvV ⟨1,N⟩)∧RX 1 X wx w0 g w' h qs a { c with stk:=l }):=fun X wx w H=>hN▸reckon9_yes X wx w0 g h qs a c ia ib ic ii Q nl q w H l v h0 hk
   obtain ⟨E,hE⟩:∃E,(if (sizP (({ c with stk:=l }).stk++[(⟨1,N⟩:Va)]):Int)≤({ c with stk:=l }).m.stack then Ending.returned (.tuple #[]) else stopE 6 0 0)=E:=⟨_,rfl⟩
   have HP:Hid (∀X wx w,RX 1 X wx w0 g w h qs a ({ c with stk:=l })→Calls Try.prog 95 #[.pointer (some ⟨a.q,0,none⟩),mvV (im (⟨1,N⟩:Va))] w fun e w2=>e=E∧RX 1 X wx w0 g w2 h qs a (({ c with stk:=l }).put (⟨1,N⟩:Va))):=fun X wx w H=>hE▸mput_any 1 X wx w0 g h qs a ({ c with stk:=l }) (⟨1,N⟩:Va) w H (show (1:Int)≤1∧(1:Int)≤3 from by decide) (by have e:c.stk.length=l.length+1:=(by rw [h0];simp);show l.length≤1000;omega)
   have HE:Hid (∀w',RX 1 X wx w0 g w' h qs a (({ c with stk:=l }).put (⟨1,N⟩:Va))→DidQ X wx w0 g qs a c ⟨(h).putH ({ c with stk:=l }) (⟨1,N⟩:Va),({ c with stk:=l }).put (⟨1,N⟩:Va),c.pc+1⟩ E w'):=fun w' H=>did_put hs rfl ⟨rfl,rfl⟩ hE.symm H.less
   have hE2:E=.returned (.tuple #[])∨E=stopE 6 0 0:=by rw [←hE];split;exact Or.inl rfl;exact Or.inr rfl
   clear hE
   have HIM:Hid (im (⟨1,N⟩:Va)=⟨1,N⟩):=im_num (show (1:Int)≠3 by decide)
   rw [HIM.out] at HP
   clear H hs hd bad em h0 h1 h2 h4 hk eg ev hN
   rcases hE2 with rfl|rfl
   ·go_enter Try.func94,Try.ntmps94
    go_wp2_with (first
     | (go_at_call 120;refine (HH.out.y.useY HB.out HR.out).mono ?_;rintro e w1 ⟨rfl,H1,K1⟩;clear K1;replace H1:=hid H1)
     | (go_at_call 95;refine (H1.out.useY (Bl.refl _) HP.out).mono ?_;rintro e w2 ⟨rfl,H2,K2⟩;clear K2;replace H2:=hid H2))
    go_end0
    exact HE.out _ H2.out.x
   ·go_enter Try.func94,Try.ntmps94
    go_wp2_with (first
     | (go_at_call 120;refine (HH.out.y.useY HB.out HR.out).mono ?_;rintro e w1 ⟨rfl,H1,K1⟩;clear K1;replace H1:=hid H1)
     | (go_at_call 95;refine (H1.out.useY (Bl.refl _) HP.out).mono ?_;rintro e w2 ⟨rfl,H2,K2⟩;clear K2;replace H2:=hid H2))
    exact ⟨rfl,HE.out _ H2.out.x⟩
  ·have eg:givesH h v y ⟨9,ia,ib,ic,ii,args⟩=h.fin 6:=by
    unfold givesH
    rw [if_neg (by rw [ho];decide)]
    simp [Hp.must,hk]
   rw [eg,if_pos (fin_stops hs 6)]
   exact (bad (Or.inr ⟨l,v,h0,hk⟩)).mono fun e w' q=>did_chg (d:=⟨h.fin 6,c,0⟩) rfl (fin_stops hs 6) q
set_option maxRecDepth 100000 in
theorem work_op23 (X:Nat→Prop) (wx w0:World) (g:Mg) (h:Hp) (qs:List Nat) (a:Mc) (c:Cal) (ia ib ic ii:Int) (args:List Int) (Q:Option Addr) (nl q:Nat) (w:World) (H:RX 1 X wx w0 g w h qs a c) (hs:h.stops=false) (hl:c.stk.length≤1000) :
  Calls Try.prog 94 #[.pointer (some ⟨a.q,0,none⟩),.agg #[.int .i64 23,.int .i64 ia,.int .i64 ib,.int .i64 ic,.int .i64 ii,.slice Q nl q]] w fun e w'=>DidQ X wx w0 g qs a c (doesP h c ⟨23,ia,ib,ic,ii,args⟩) e w':=by
 have ho:=hs_over hs
 have HH:=hid H
 have HS:=hid hs
 have HB:Hid (Bl w (w.alloc (.cells #[.int .i64 23,.int .i64 ia,.int .i64 ib,.int .i64 ic,.int .i64 ii,.slice Q nl q] 51))):=(Bl.refl w).alloc _
 have hd:doesP h c ⟨23,ia,ib,ic,ii,args⟩=dupP h c ⟨23,ia,ib,ic,ii,args⟩:=rfl
 rw [hd]
 unfold dupP
 dsimp only
 rcases stk_one (c:=c) with h0|⟨l,v,h0⟩
 ·rw [must_no (has_nil h0),if_pos (fin6 ho 6).1]
  have H0:=hid h0
  clear H hs h0 hd ho
  go_enter Try.func94,Try.ntmps94
  go_wp2_with (go_at_call 111;refine (HH.out.y.useY HB.out (fun X wx w H=>mtake_no 1 X wx w0 g h qs a c w H H0.out)).mono ?_;rintro e w2 ⟨rfl,H2,K2⟩;replace H2:=hid H2;clear K2)
  exact ⟨rfl,did_fin (s:=0) (hs_over HS.out) rfl H2.out.x.less.rs⟩
 ·obtain ⟨h1,h2,h3⟩:=has_one h0
  rw [must_yes h1,h2,h3,if_neg (by rw [ho];decide)]
  have H0:=hid h0
  have hkd:1≤v.kind∧v.kind≤3:=by
   obtain ⟨vc,vo,vx,vs,l',H⟩:=H
   exact H.ca.kinds v (by rw [h0];simp)
  have hlen:c.stk.length=l.length+1:=by rw [h0];simp
  have HT:Hid (∀X wx w,RX 1 X wx w0 g w h qs a c→Calls Try.prog 111 #[.pointer (some ⟨a.q,0,none⟩)] w fun e w'=>e=.returned (mvV (im v))∧RX 1 X wx w0 g w' h qs a { c with stk:=l }):=fun X wx w H=>mtake_yes 1 X wx w0 g h qs a c l v w H h0
  by_cases hr:(sizP (l++[v]):Int)≤c.m.stack
  ·have e1:h.putH { c with stk:=l } v=h:=by
    unfold Hp.putH Hp.must
    rw [if_neg (by rw [hs];decide),if_pos (by simpa using hr)]
   rw [e1]
   have HP1:Hid (∀X wx w,RX 1 X wx w0 g w h qs a { c with stk:=l }→Calls Try.prog 95 #[.pointer (some ⟨a.q,0,none⟩),mvV (im v)] w fun e w2=>e=.returned (.tuple #[])∧RX 1 X wx w0 g w2 h qs a (Cal.put { c with stk:=l } v)):=fun X wx w H=>by
    have:=mput_any 1 X wx w0 g h qs a { c with stk:=l } v w H hkd (by show l.length≤1000;omega)
    dsimp only at this
    rw [if_pos hr] at this
    exact this
   obtain ⟨E,hE⟩:∃E,(if (sizP ((Cal.put { c with stk:=l } v).stk++[v]):Int)≤(Cal.put { c with stk:=l } v).m.stack then Ending.returned (.tuple #[]) else stopE 6 0 0)=E:=⟨_,rfl⟩
   have HP:Hid (∀X wx w,RX 1 X wx w0 g w h qs a (Cal.put { c with stk:=l } v)→Calls Try.prog 95 #[.pointer (some ⟨a.q,0,none⟩),mvV (im v)] w fun e w2=>e=E∧RX 1 X wx w0 g w2 h qs a ((Cal.put { c with stk:=l } v).put v)):=fun X wx w H=>hE▸mput_any 1 X wx w0 g h qs a (Cal.put { c with stk:=l } v) v w H (hkd) (by show (l++[v]).length≤1000;simp;omega)
   have HE:Hid (∀w',RX 1 X wx w0 g w' h qs a ((Cal.put { c with stk:=l } v).put v)→DidQ X wx w0 g qs a c ⟨(h).putH (Cal.put { c with stk:=l } v) v,(Cal.put { c with stk:=l } v).put v,c.pc+1⟩ E w'):=fun w' H=>did_put hs rfl ⟨rfl,rfl⟩ hE.symm H.less
   have hE2:E=.returned (.tuple #[])∨E=stopE 6 0 0:=by rw [←hE];split;exact Or.inl rfl;exact Or.inr rfl
   clear hE
   clear H hs hd h0 h1 h2 h3 e1 hr
   rcases hE2 with rfl|rfl
   ·go_enter Try.func94,Try.ntmps94
    go_wp2_with (first
     | (go_at_call 111;refine (HH.out.y.useY HB.out HT.out).mono ?_;rintro e w1 ⟨rfl,H1,K1⟩;clear K1;replace H1:=hid H1)
     | (go_at_call 95;first
       | (refine (H1.out.useY ((Bl.refl w1).alloc _) HP1.out).mono ?_;rintro e w2 ⟨rfl,H2,K2⟩;have q0:=K2.at (Xp.new (Nat.le_refl _) (lt_w1 w1 _)) (blk_new w1 _ _);have c4:=c0_of q0;have c5:=c1_of q0;clear K2 q0;replace H2:=hid H2)
       | (refine (H2.out.useY (Bl.refl _) HP.out).mono ?_;rintro e w3 ⟨rfl,H3,K3⟩;clear K3;replace H3:=hid H3)))
    go_end0
    exact HE.out _ H3.out.x
   ·go_enter Try.func94,Try.ntmps94
    go_wp2_with (first
     | (go_at_call 111;refine (HH.out.y.useY HB.out HT.out).mono ?_;rintro e w1 ⟨rfl,H1,K1⟩;clear K1;replace H1:=hid H1)
     | (go_at_call 95;first
       | (refine (H1.out.useY ((Bl.refl w1).alloc _) HP1.out).mono ?_;rintro e w2 ⟨rfl,H2,K2⟩;have q0:=K2.at (Xp.new (Nat.le_refl _) (lt_w1 w1 _)) (blk_new w1 _ _);have c4:=c0_of q0;have c5:=c1_of q0;clear K2 q0;replace H2:=hid H2)
       | (refine (H2.out.useY (Bl.refl _) HP.out).mono ?_;rintro e w3 ⟨rfl,H3,K3⟩;clear K3;replace H3:=hid H3)))
    exact ⟨rfl,HE.out _ H3.out.x⟩
  ·have e1:h.putH { c with stk:=l } v=h.fin 6:=by
    unfold Hp.putH Hp.must
    rw [if_neg (by rw [hs];decide),if_neg (by simpa using hr)]
   have e2:∀c' v',(h.fin 6).putH c' v'=h.fin 6:=fun c' v'=>by unfold Hp.putH;rw [if_pos (fin_stops hs 6)]
   rw [e1,e2]
   have HP1:Hid (∀X wx w,RX 1 X wx w0 g w h qs a { c with stk:=l }→Calls Try.prog 95 #[.pointer (some ⟨a.q,0,none⟩),mvV (im v)] w fun e w2=>e=stopE 6 0 0∧RX 1 X wx w0 g w2 h qs a (Cal.put { c with stk:=l } v)):=fun X wx w H=>by
    have:=mput_any 1 X wx w0 g h qs a { c with stk:=l } v w H hkd (by show l.length≤1000;omega)
    dsimp only at this
    rw [if_neg hr] at this
    exact this
   clear H hs hd h0 h1 h2 h3 e1 e2 hr
   go_enter Try.func94,Try.ntmps94
   go_wp2_with (first
    | (go_at_call 111;refine (HH.out.y.useY HB.out HT.out).mono ?_;rintro e w1 ⟨rfl,H1,K1⟩;clear K1;replace H1:=hid H1)
    | (go_at_call 95;refine (H1.out.useY ((Bl.refl w1).alloc _) HP1.out).mono ?_;rintro e w2 ⟨rfl,H2,K2⟩;clear K2;replace H2:=hid H2))
   exact ⟨rfl,did_fin (s:=0) (hs_over HS.out) rfl (H2.out.x.less.rs.of rfl ⟨rfl,rfl⟩)⟩
end
end Go.Proofs.Ytgiiapenmjollaa
