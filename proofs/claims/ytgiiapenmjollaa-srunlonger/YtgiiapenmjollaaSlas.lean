import Derived.Test.YtgiiapenmjollaaSlar
namespace Go.Proofs.Ytgiiapenmjollaa
set_option linter.all false
set_option maxHeartbeats 40000000
open Go.RowKit
section
open Go.Maps (Keyed has)
theorem did_chg {X:Nat→Prop} {wx w0:World} {g:Mg} {qs:List Nat} {a:Mc} {c:Cal} {d d':Did} {e:Ending} {w':World} (e1:d.h=d'.h) (e2:d.h.stops=true) (q:DidQ X wx w0 g qs a c d e w'):DidQ X wx w0 g qs a c d' e w' :=
 ⟨by rw [q.how];unfold DidE;rw [e1],fun _=>e1▸q.stop e2,fun z=>by rw [←e1,e2] at z;exact absurd z (by decide)⟩
theorem fin_stops {h:Hp} (hs:h.stops=false) (k:Int):(h.fin k).stops=true:=by simp [Hp.stops,(fin6 (hs_over hs) k).1]
theorem raise_stops {h:Hp} (hs:h.stops=false) (k:Int):(h.raise k).stops=true:=by
 have ho:=hs_over hs
 cases hf:h.full with
 | true=>rw [raise_full k ho hf];exact fin_stops hs 4
 | false=>rw [raise_new k ho hf];simp [Hp.stops]
theorem gives_over {h:Hp} {a b:Va} {i:In} (ho:h.over=true):givesH h a b i=h:=by unfold givesH;rw [if_pos ho]
set_option maxRecDepth 100000 in
theorem work_op6 (X:Nat→Prop) (wx w0:World) (g:Mg) (h:Hp) (qs:List Nat) (a:Mc) (c:Cal) (ia ib ic ii:Int) (args:List Int) (Q:Option Addr) (nl q:Nat) (w:World) (H:RX 1 X wx w0 g w h qs a c) (hs:h.stops=false) (hl:c.stk.length≤1000) (hob:h.objs.length≤100) :
  Calls Try.prog 94 #[.pointer (some ⟨a.q,0,none⟩),.agg #[.int .i64 6,.int .i64 ia,.int .i64 ib,.int .i64 ic,.int .i64 ii,.slice Q nl q]] w fun e w'=>DidQ X wx w0 g qs a c (doesP h c ⟨6,ia,ib,ic,ii,args⟩) e w':=by
 have ho:=hs_over hs
 have HH:=hid H
 have HS:=hid hs
 have HB:Hid (Bl w (w.alloc (.cells #[.int .i64 6,.int .i64 ia,.int .i64 ib,.int .i64 ic,.int .i64 ii,.slice Q nl q] 51))):=(Bl.refl w).alloc _
 have bad:(∀l u v,c.stk=l++[u,v]→u.kind=1→v.kind=1→False)→Calls Try.prog 94 #[.pointer (some ⟨a.q,0,none⟩),.agg #[.int .i64 6,.int .i64 ia,.int .i64 ib,.int .i64 ic,.int .i64 ii,.slice Q nl q]] w fun e w'=>DidQ X wx w0 g qs a c ⟨h.fin 6,c,0⟩ e w':=fun hn=>by
  have HN:=hid hn
  clear H hs hn
  go_enter Try.func94,Try.ntmps94
  go_wp2_with (go_at_call 120;refine (HH.out.y.useN HB.out (fun X wx w H=>reckon6_no X wx w0 g h qs a c ia ib ic ii Q nl q w H HN.out)).mono ?_;rintro e w1 ⟨rfl,H1⟩;replace H1:=hid H1)
  exact ⟨rfl,did_fin (s:=0) (hs_over HS.out) rfl H1.out.less⟩
 have hd:doesP h c ⟨6,ia,ib,ic,ii,args⟩=givesP h c ⟨6,ia,ib,ic,ii,args⟩:=rfl
 have em:manyOf 6=2:=by decide
 rw [hd]
 unfold givesP
 dsimp only
 rw [em]
 by_cases hex:∃l u v,c.stk=l++[u,v]
 ·obtain ⟨l,u,v,h0⟩:=hex
  obtain ⟨h1,h2,h3,h4⟩:=has_two h0
  rw [must_yes h1,h2,h3,h4]
  by_cases hk:u.kind=1∧v.kind=1
  ·have hob2:ofBoth u v 1=true:=by unfold ofBoth;simp [hk.1,hk.2]
   have hmb:h.mustB (ofBoth u v 1)=true:=by unfold Hp.mustB;rw [hob2,ho];rfl
   have eg:givesH h u v ⟨6,ia,ib,ic,ii,args⟩=if reckB 1 ia u v=true then h else h.raise 2:=by
    unfold givesH
    rw [if_neg (by rw [ho];decide)]
    simp [Hp.reckH,hmb]
   have ev:givesV h u v ⟨6,ia,ib,ic,ii,args⟩=⟨1,reckN 1 ia u v⟩:=by
    unfold givesV
    rw [if_neg (by rw [ho];decide)]
    simp [Hp.reckV,hmb]
   rw [eg,ev]
   cases hr:reckB 1 ia u v with
   | true =>
    rw [if_pos rfl,if_neg (by rw [hs];decide)]
    obtain ⟨N,hN⟩:∃N,reckN 1 ia u v=N:=⟨_,rfl⟩
    rw [hN]
    have HR:Hid (∀X wx w,RX 1 X wx w0 g w h qs a c→Calls Try.prog 120 #[.pointer (some ⟨a.q,0,none⟩),.agg #[.int .i64 6,.int .i64 ia,.int .i64 ib,.int .i64 ic,.int .i64 ii,.slice Q nl q]] w fun e w'=>e=.returned (mvV ⟨1,N⟩)∧RX 1 X wx w0 g w' h qs a { c with stk:=l }):=fun X wx w H=>hN▸reckon6_yes X wx w0 g h qs a c ia ib ic ii Q nl q w H l u v h0 hk.1 hk.2 hr
    obtain ⟨E,hE⟩:∃E,(if (sizP (({ c with stk:=l }).stk++[(⟨1,N⟩:Va)]):Int)≤({ c with stk:=l }).m.stack then Ending.returned (.tuple #[]) else stopE 6 0 0)=E:=⟨_,rfl⟩
    have HP:Hid (∀X wx w,RX 1 X wx w0 g w h qs a ({ c with stk:=l })→Calls Try.prog 95 #[.pointer (some ⟨a.q,0,none⟩),mvV (im (⟨1,N⟩:Va))] w fun e w2=>e=E∧RX 1 X wx w0 g w2 h qs a (({ c with stk:=l }).put (⟨1,N⟩:Va))):=fun X wx w H=>hE▸mput_any 1 X wx w0 g h qs a ({ c with stk:=l }) (⟨1,N⟩:Va) w H (show (1:Int)≤1∧(1:Int)≤3 from by decide) (by have e:c.stk.length=l.length+2:=(by rw [h0];simp);show l.length≤1000;omega)
    have HE:Hid (∀w',RX 1 X wx w0 g w' h qs a (({ c with stk:=l }).put (⟨1,N⟩:Va))→DidQ X wx w0 g qs a c ⟨(h).putH ({ c with stk:=l }) (⟨1,N⟩:Va),({ c with stk:=l }).put (⟨1,N⟩:Va),c.pc+1⟩ E w'):=fun w' H=>did_put hs rfl ⟨rfl,rfl⟩ hE.symm H.less
    have hE2:E=.returned (.tuple #[])∨E=stopE 6 0 0:=by rw [←hE];split;exact Or.inl rfl;exact Or.inr rfl
    clear hE
    have HIM:Hid (im (⟨1,N⟩:Va)=⟨1,N⟩):=im_num (show (1:Int)≠3 by decide)
    rw [HIM.out] at HP
    clear H hs hd bad em h0 h1 h2 h3 h4 hk hob2 hmb eg ev hr hN
    rcases hE2 with rfl|rfl
    ·go_enter Try.func94,Try.ntmps94
     go_wp2_with (first
      | (go_at_call 120;refine (HH.out.y.useY HB.out HR.out).mono ?_;rintro e w1 ⟨rfl,H1,K1⟩;clear K1;replace H1:=hid H1)
      | (go_at_call 95;refine (H1.out.useY (Bl.refl _) HP.out).mono ?_;rintro e w2 ⟨rfl,H2,K2⟩;clear K2;replace H2:=hid H2))
     go_end0
     exact HE.out _ H2.out.x
    ·go_enter Try.func94,Try.ntmps94
     go_wp2_with (first
      | (go_at_call 120;refine (HH.out.y.useY HB.out HR.out).mono ?_;rintro e w1 ⟨rfl,H1,K1⟩;clear K1;replace H1:=hid H1)
      | (go_at_call 95;refine (H1.out.useY (Bl.refl _) HP.out).mono ?_;rintro e w2 ⟨rfl,H2,K2⟩;clear K2;replace H2:=hid H2))
     exact ⟨rfl,HE.out _ H2.out.x⟩
   | false =>
    have ef:(if false=true then h else h.raise 2)=h.raise 2:=rfl
    rw [ef,if_pos (raise_stops hs 2)]
    clear ef
    obtain ⟨E,hE⟩:∃E,raiseE h=E:=⟨_,rfl⟩
    have HX:Hid (∃ch,E=.panicked ch):=by
     rw [←hE];unfold raiseE;split<;>exact ⟨_,rfl⟩
    have HR:Hid (∀X wx w,RX 1 X wx w0 g w h qs a c→Calls Try.prog 120 #[.pointer (some ⟨a.q,0,none⟩),.agg #[.int .i64 6,.int .i64 ia,.int .i64 ib,.int .i64 ic,.int .i64 ii,.slice Q nl q]] w fun e w'=>e=E∧RX 1 X wx w0 g w' (h.raise 2) qs a { c with stk:=l }):=fun X wx w H=>hE▸reckon6_throws X wx w0 g h qs a c ia ib ic ii Q nl q w H l u v h0 hk.1 hk.2 hr hob ho
    have HD:Hid (∀w',RS 0 X wx w0 g w' (h.raise 2) qs a c→DidQ X wx w0 g qs a c ⟨h.raise 2,{ c with stk:=l },c.pc+1⟩ E w'):=fun w' H=>hE▸did_raise hs rfl H
    clear H hs hd bad em h0 h1 h2 h3 h4 hk hob2 hmb eg ev hr hE
    obtain ⟨ch,rfl⟩:=HX.out
    go_enter Try.func94,Try.ntmps94
    go_wp2_with (go_at_call 120;refine (HH.out.y.useY HB.out HR.out).mono ?_;rintro e w1 ⟨rfl,H1,K1⟩;clear K1;replace H1:=hid H1)
    exact ⟨rfl,HD.out _ (H1.out.x.less.rs.of rfl ⟨rfl,rfl⟩)⟩
  ·have hob2:ofBoth u v 1=false:=by
    unfold ofBoth
    rw [Bool.and_eq_false_iff]
    by_cases q1:u.kind=1
    ·right;exact decide_eq_false (fun q2=>hk ⟨q1,q2⟩)
    ·left;exact decide_eq_false q1
   have hmb:h.mustB (ofBoth u v 1)=false:=by unfold Hp.mustB;rw [hob2];rfl
   have eg:givesH h u v ⟨6,ia,ib,ic,ii,args⟩=h.fin 6:=by
    unfold givesH
    rw [if_neg (by rw [ho];decide)]
    first
     | (simp [Hp.reckH,Hp.must,hmb,hob2];done)
     | (have hx:h.reckH u v 1 ia=h.fin 6:=(by unfold Hp.reckH Hp.must;rw [if_neg (by rw [hmb];decide),if_neg (by rw [hob2];decide)]);simpa using hx)
   rw [eg,if_pos (fin_stops hs 6)]
   exact (bad (fun l' u' v' e1 e2 e3=>by
    rw [h0] at e1
    have:=List.append_inj_right' e1 rfl
    simp at this
    obtain ⟨rfl,rfl⟩:=this
    exact hk ⟨e2,e3⟩)).mono fun e w' q=>did_chg (d:=⟨h.fin 6,c,0⟩) rfl (fin_stops hs 6) q
 ·have hn2:c.has 2=false:=has_two_no (fun l u v e=>hex ⟨l,u,v,e⟩)
  rw [must_no hn2,gives_over (fin6 ho 6).1,if_pos (fin_stops hs 6)]
  exact (bad (fun l u v e1 _ _=>hex ⟨l,u,v,e1⟩)).mono fun e w' q=>did_chg (d:=⟨h.fin 6,c,0⟩) rfl (fin_stops hs 6) q
set_option maxRecDepth 100000 in
theorem work_op7 (X:Nat→Prop) (wx w0:World) (g:Mg) (h:Hp) (qs:List Nat) (a:Mc) (c:Cal) (ia ib ic ii:Int) (args:List Int) (Q:Option Addr) (nl q:Nat) (w:World) (H:RX 1 X wx w0 g w h qs a c) (hs:h.stops=false) (hl:c.stk.length≤1000) (hob:h.objs.length≤100) :
  Calls Try.prog 94 #[.pointer (some ⟨a.q,0,none⟩),.agg #[.int .i64 7,.int .i64 ia,.int .i64 ib,.int .i64 ic,.int .i64 ii,.slice Q nl q]] w fun e w'=>DidQ X wx w0 g qs a c (doesP h c ⟨7,ia,ib,ic,ii,args⟩) e w':=by
 have ho:=hs_over hs
 have HH:=hid H
 have HS:=hid hs
 have HB:Hid (Bl w (w.alloc (.cells #[.int .i64 7,.int .i64 ia,.int .i64 ib,.int .i64 ic,.int .i64 ii,.slice Q nl q] 51))):=(Bl.refl w).alloc _
 have bad:(∀l u v,c.stk=l++[u,v]→u.kind=2→v.kind=2→False)→Calls Try.prog 94 #[.pointer (some ⟨a.q,0,none⟩),.agg #[.int .i64 7,.int .i64 ia,.int .i64 ib,.int .i64 ic,.int .i64 ii,.slice Q nl q]] w fun e w'=>DidQ X wx w0 g qs a c ⟨h.fin 6,c,0⟩ e w':=fun hn=>by
  have HN:=hid hn
  clear H hs hn
  go_enter Try.func94,Try.ntmps94
  go_wp2_with (go_at_call 120;refine (HH.out.y.useN HB.out (fun X wx w H=>reckon7_no X wx w0 g h qs a c ia ib ic ii Q nl q w H HN.out)).mono ?_;rintro e w1 ⟨rfl,H1⟩;replace H1:=hid H1)
  exact ⟨rfl,did_fin (s:=0) (hs_over HS.out) rfl H1.out.less⟩
 have hd:doesP h c ⟨7,ia,ib,ic,ii,args⟩=givesP h c ⟨7,ia,ib,ic,ii,args⟩:=rfl
 have em:manyOf 7=2:=by decide
 rw [hd]
 unfold givesP
 dsimp only
 rw [em]
 by_cases hex:∃l u v,c.stk=l++[u,v]
 ·obtain ⟨l,u,v,h0⟩:=hex
  obtain ⟨h1,h2,h3,h4⟩:=has_two h0
  rw [must_yes h1,h2,h3,h4]
  by_cases hk:u.kind=2∧v.kind=2
  ·have hob2:ofBoth u v 2=true:=by unfold ofBoth;simp [hk.1,hk.2]
   have hmb:h.mustB (ofBoth u v 2)=true:=by unfold Hp.mustB;rw [hob2,ho];rfl
   have eg:givesH h u v ⟨7,ia,ib,ic,ii,args⟩=if reckB 2 ia u v=true then h else h.raise 2:=by
    unfold givesH
    rw [if_neg (by rw [ho];decide)]
    simp [Hp.reckH,hmb]
   have ev:givesV h u v ⟨7,ia,ib,ic,ii,args⟩=⟨2,reckN 2 ia u v⟩:=by
    unfold givesV
    rw [if_neg (by rw [ho];decide)]
    simp [Hp.reckV,hmb]
   rw [eg,ev]
   cases hr:reckB 2 ia u v with
   | true =>
    rw [if_pos rfl,if_neg (by rw [hs];decide)]
    obtain ⟨N,hN⟩:∃N,reckN 2 ia u v=N:=⟨_,rfl⟩
    rw [hN]
    have HR:Hid (∀X wx w,RX 1 X wx w0 g w h qs a c→Calls Try.prog 120 #[.pointer (some ⟨a.q,0,none⟩),.agg #[.int .i64 7,.int .i64 ia,.int .i64 ib,.int .i64 ic,.int .i64 ii,.slice Q nl q]] w fun e w'=>e=.returned (mvV ⟨2,N⟩)∧RX 1 X wx w0 g w' h qs a { c with stk:=l }):=fun X wx w H=>hN▸reckon7_yes X wx w0 g h qs a c ia ib ic ii Q nl q w H l u v h0 hk.1 hk.2 hr
    obtain ⟨E,hE⟩:∃E,(if (sizP (({ c with stk:=l }).stk++[(⟨2,N⟩:Va)]):Int)≤({ c with stk:=l }).m.stack then Ending.returned (.tuple #[]) else stopE 6 0 0)=E:=⟨_,rfl⟩
    have HP:Hid (∀X wx w,RX 1 X wx w0 g w h qs a ({ c with stk:=l })→Calls Try.prog 95 #[.pointer (some ⟨a.q,0,none⟩),mvV (im (⟨2,N⟩:Va))] w fun e w2=>e=E∧RX 1 X wx w0 g w2 h qs a (({ c with stk:=l }).put (⟨2,N⟩:Va))):=fun X wx w H=>hE▸mput_any 1 X wx w0 g h qs a ({ c with stk:=l }) (⟨2,N⟩:Va) w H (show (1:Int)≤2∧(2:Int)≤3 from by decide) (by have e:c.stk.length=l.length+2:=(by rw [h0];simp);show l.length≤1000;omega)
    have HE:Hid (∀w',RX 1 X wx w0 g w' h qs a (({ c with stk:=l }).put (⟨2,N⟩:Va))→DidQ X wx w0 g qs a c ⟨(h).putH ({ c with stk:=l }) (⟨2,N⟩:Va),({ c with stk:=l }).put (⟨2,N⟩:Va),c.pc+1⟩ E w'):=fun w' H=>did_put hs rfl ⟨rfl,rfl⟩ hE.symm H.less
    have hE2:E=.returned (.tuple #[])∨E=stopE 6 0 0:=by rw [←hE];split;exact Or.inl rfl;exact Or.inr rfl
    clear hE
    have HIM:Hid (im (⟨2,N⟩:Va)=⟨2,N⟩):=im_num (show (2:Int)≠3 by decide)
    rw [HIM.out] at HP
    clear H hs hd bad em h0 h1 h2 h3 h4 hk hob2 hmb eg ev hr hN
    rcases hE2 with rfl|rfl
    ·go_enter Try.func94,Try.ntmps94
     go_wp2_with (first
      | (go_at_call 120;refine (HH.out.y.useY HB.out HR.out).mono ?_;rintro e w1 ⟨rfl,H1,K1⟩;clear K1;replace H1:=hid H1)
      | (go_at_call 95;refine (H1.out.useY (Bl.refl _) HP.out).mono ?_;rintro e w2 ⟨rfl,H2,K2⟩;clear K2;replace H2:=hid H2))
     go_end0
     exact HE.out _ H2.out.x
    ·go_enter Try.func94,Try.ntmps94
     go_wp2_with (first
      | (go_at_call 120;refine (HH.out.y.useY HB.out HR.out).mono ?_;rintro e w1 ⟨rfl,H1,K1⟩;clear K1;replace H1:=hid H1)
      | (go_at_call 95;refine (H1.out.useY (Bl.refl _) HP.out).mono ?_;rintro e w2 ⟨rfl,H2,K2⟩;clear K2;replace H2:=hid H2))
     exact ⟨rfl,HE.out _ H2.out.x⟩
   | false =>
    have ef:(if false=true then h else h.raise 2)=h.raise 2:=rfl
    rw [ef,if_pos (raise_stops hs 2)]
    clear ef
    obtain ⟨E,hE⟩:∃E,raiseE h=E:=⟨_,rfl⟩
    have HX:Hid (∃ch,E=.panicked ch):=by
     rw [←hE];unfold raiseE;split<;>exact ⟨_,rfl⟩
    have HR:Hid (∀X wx w,RX 1 X wx w0 g w h qs a c→Calls Try.prog 120 #[.pointer (some ⟨a.q,0,none⟩),.agg #[.int .i64 7,.int .i64 ia,.int .i64 ib,.int .i64 ic,.int .i64 ii,.slice Q nl q]] w fun e w'=>e=E∧RX 1 X wx w0 g w' (h.raise 2) qs a { c with stk:=l }):=fun X wx w H=>hE▸reckon7_throws X wx w0 g h qs a c ia ib ic ii Q nl q w H l u v h0 hk.1 hk.2 hr hob ho
    have HD:Hid (∀w',RS 0 X wx w0 g w' (h.raise 2) qs a c→DidQ X wx w0 g qs a c ⟨h.raise 2,{ c with stk:=l },c.pc+1⟩ E w'):=fun w' H=>hE▸did_raise hs rfl H
    clear H hs hd bad em h0 h1 h2 h3 h4 hk hob2 hmb eg ev hr hE
    obtain ⟨ch,rfl⟩:=HX.out
    go_enter Try.func94,Try.ntmps94
    go_wp2_with (go_at_call 120;refine (HH.out.y.useY HB.out HR.out).mono ?_;rintro e w1 ⟨rfl,H1,K1⟩;clear K1;replace H1:=hid H1)
    exact ⟨rfl,HD.out _ (H1.out.x.less.rs.of rfl ⟨rfl,rfl⟩)⟩
  ·have hob2:ofBoth u v 2=false:=by
    unfold ofBoth
    rw [Bool.and_eq_false_iff]
    by_cases q1:u.kind=2
    ·right;exact decide_eq_false (fun q2=>hk ⟨q1,q2⟩)
    ·left;exact decide_eq_false q1
   have hmb:h.mustB (ofBoth u v 2)=false:=by unfold Hp.mustB;rw [hob2];rfl
   have eg:givesH h u v ⟨7,ia,ib,ic,ii,args⟩=h.fin 6:=by
    unfold givesH
    rw [if_neg (by rw [ho];decide)]
    first
     | (simp [Hp.reckH,Hp.must,hmb,hob2];done)
     | (have hx:h.reckH u v 2 ia=h.fin 6:=(by unfold Hp.reckH Hp.must;rw [if_neg (by rw [hmb];decide),if_neg (by rw [hob2];decide)]);simpa using hx)
   rw [eg,if_pos (fin_stops hs 6)]
   exact (bad (fun l' u' v' e1 e2 e3=>by
    rw [h0] at e1
    have:=List.append_inj_right' e1 rfl
    simp at this
    obtain ⟨rfl,rfl⟩:=this
    exact hk ⟨e2,e3⟩)).mono fun e w' q=>did_chg (d:=⟨h.fin 6,c,0⟩) rfl (fin_stops hs 6) q
 ·have hn2:c.has 2=false:=has_two_no (fun l u v e=>hex ⟨l,u,v,e⟩)
  rw [must_no hn2,gives_over (fin6 ho 6).1,if_pos (fin_stops hs 6)]
  exact (bad (fun l u v e1 _ _=>hex ⟨l,u,v,e1⟩)).mono fun e w' q=>did_chg (d:=⟨h.fin 6,c,0⟩) rfl (fin_stops hs 6) q
set_option maxRecDepth 100000 in
theorem work_op10 (X:Nat→Prop) (wx w0:World) (g:Mg) (h:Hp) (qs:List Nat) (a:Mc) (c:Cal) (ia ib ic ii:Int) (args:List Int) (Q:Option Addr) (nl q:Nat) (w:World) (H:RX 1 X wx w0 g w h qs a c) (hs:h.stops=false) (hl:c.stk.length≤1000) (hob:h.objs.length≤100) :
  Calls Try.prog 94 #[.pointer (some ⟨a.q,0,none⟩),.agg #[.int .i64 10,.int .i64 ia,.int .i64 ib,.int .i64 ic,.int .i64 ii,.slice Q nl q]] w fun e w'=>DidQ X wx w0 g qs a c (doesP h c ⟨10,ia,ib,ic,ii,args⟩) e w':=by
 have ho:=hs_over hs
 have HH:=hid H
 have HS:=hid hs
 have HB:Hid (Bl w (w.alloc (.cells #[.int .i64 10,.int .i64 ia,.int .i64 ib,.int .i64 ic,.int .i64 ii,.slice Q nl q] 51))):=(Bl.refl w).alloc _
 have bad:(∀l u v,c.stk=l++[u,v]→u.kind=2→v.kind=2→False)→Calls Try.prog 94 #[.pointer (some ⟨a.q,0,none⟩),.agg #[.int .i64 10,.int .i64 ia,.int .i64 ib,.int .i64 ic,.int .i64 ii,.slice Q nl q]] w fun e w'=>DidQ X wx w0 g qs a c ⟨h.fin 6,c,0⟩ e w':=fun hn=>by
  have HN:=hid hn
  clear H hs hn
  go_enter Try.func94,Try.ntmps94
  go_wp2_with (go_at_call 120;refine (HH.out.y.useN HB.out (fun X wx w H=>reckon10_no X wx w0 g h qs a c ia ib ic ii Q nl q w H HN.out)).mono ?_;rintro e w1 ⟨rfl,H1⟩;replace H1:=hid H1)
  exact ⟨rfl,did_fin (s:=0) (hs_over HS.out) rfl H1.out.less⟩
 have hd:doesP h c ⟨10,ia,ib,ic,ii,args⟩=givesP h c ⟨10,ia,ib,ic,ii,args⟩:=rfl
 have em:manyOf 10=2:=by decide
 rw [hd]
 unfold givesP
 dsimp only
 rw [em]
 by_cases hex:∃l u v,c.stk=l++[u,v]
 ·obtain ⟨l,u,v,h0⟩:=hex
  obtain ⟨h1,h2,h3,h4⟩:=has_two h0
  rw [must_yes h1,h2,h3,h4]
  by_cases hk:u.kind=2∧v.kind=2
  ·have hob2:ofBoth u v 2=true:=by unfold ofBoth;simp [hk.1,hk.2]
   have hmb:h.mustB (ofBoth u v 2)=true:=by unfold Hp.mustB;rw [hob2,ho];rfl
   have eg:givesH h u v ⟨10,ia,ib,ic,ii,args⟩=h:=by
    unfold givesH
    rw [if_neg (by rw [ho];decide)]
    simp [Hp.must,hob2]
   have ev:givesV h u v ⟨10,ia,ib,ic,ii,args⟩=⟨1,cmpV u.n v.n⟩:=by
    unfold givesV
    rw [if_neg (by rw [ho];decide)]
    simp
   rw [eg,ev]
   cases hr:true with
   | true =>
    rw [if_neg (by rw [hs];decide)]
    obtain ⟨N,hN⟩:∃N,cmpV u.n v.n=N:=⟨_,rfl⟩
    rw [hN]
    have HR:Hid (∀X wx w,RX 1 X wx w0 g w h qs a c→Calls Try.prog 120 #[.pointer (some ⟨a.q,0,none⟩),.agg #[.int .i64 10,.int .i64 ia,.int .i64 ib,.int .i64 ic,.int .i64 ii,.slice Q nl q]] w fun e w'=>e=.returned (mvV ⟨1,N⟩)∧RX 1 X wx w0 g w' h qs a { c with stk:=l }):=fun X wx w H=>hN▸reckon10_yes X wx w0 g h qs a c ia ib ic ii Q nl q w H l u v h0 hk.1 hk.2
    obtain ⟨E,hE⟩:∃E,(if (sizP (({ c with stk:=l }).stk++[(⟨1,N⟩:Va)]):Int)≤({ c with stk:=l }).m.stack then Ending.returned (.tuple #[]) else stopE 6 0 0)=E:=⟨_,rfl⟩
    have HP:Hid (∀X wx w,RX 1 X wx w0 g w h qs a ({ c with stk:=l })→Calls Try.prog 95 #[.pointer (some ⟨a.q,0,none⟩),mvV (im (⟨1,N⟩:Va))] w fun e w2=>e=E∧RX 1 X wx w0 g w2 h qs a (({ c with stk:=l }).put (⟨1,N⟩:Va))):=fun X wx w H=>hE▸mput_any 1 X wx w0 g h qs a ({ c with stk:=l }) (⟨1,N⟩:Va) w H (show (1:Int)≤1∧(1:Int)≤3 from by decide) (by have e:c.stk.length=l.length+2:=(by rw [h0];simp);show l.length≤1000;omega)
    have HE:Hid (∀w',RX 1 X wx w0 g w' h qs a (({ c with stk:=l }).put (⟨1,N⟩:Va))→DidQ X wx w0 g qs a c ⟨(h).putH ({ c with stk:=l }) (⟨1,N⟩:Va),({ c with stk:=l }).put (⟨1,N⟩:Va),c.pc+1⟩ E w'):=fun w' H=>did_put hs rfl ⟨rfl,rfl⟩ hE.symm H.less
    have hE2:E=.returned (.tuple #[])∨E=stopE 6 0 0:=by rw [←hE];split;exact Or.inl rfl;exact Or.inr rfl
    clear hE
    have HIM:Hid (im (⟨1,N⟩:Va)=⟨1,N⟩):=im_num (show (1:Int)≠3 by decide)
    rw [HIM.out] at HP
    clear H hs hd bad em h0 h1 h2 h3 h4 hk hob2 hmb eg ev hr hN
    rcases hE2 with rfl|rfl
    ·go_enter Try.func94,Try.ntmps94
     go_wp2_with (first
      | (go_at_call 120;refine (HH.out.y.useY HB.out HR.out).mono ?_;rintro e w1 ⟨rfl,H1,K1⟩;clear K1;replace H1:=hid H1)
      | (go_at_call 95;refine (H1.out.useY (Bl.refl _) HP.out).mono ?_;rintro e w2 ⟨rfl,H2,K2⟩;clear K2;replace H2:=hid H2))
     go_end0
     exact HE.out _ H2.out.x
    ·go_enter Try.func94,Try.ntmps94
     go_wp2_with (first
      | (go_at_call 120;refine (HH.out.y.useY HB.out HR.out).mono ?_;rintro e w1 ⟨rfl,H1,K1⟩;clear K1;replace H1:=hid H1)
      | (go_at_call 95;refine (H1.out.useY (Bl.refl _) HP.out).mono ?_;rintro e w2 ⟨rfl,H2,K2⟩;clear K2;replace H2:=hid H2))
     exact ⟨rfl,HE.out _ H2.out.x⟩
   | false=>exact absurd hr (by decide)
  ·have hob2:ofBoth u v 2=false:=by
    unfold ofBoth
    rw [Bool.and_eq_false_iff]
    by_cases q1:u.kind=2
    ·right;exact decide_eq_false (fun q2=>hk ⟨q1,q2⟩)
    ·left;exact decide_eq_false q1
   have hmb:h.mustB (ofBoth u v 2)=false:=by unfold Hp.mustB;rw [hob2];rfl
   have eg:givesH h u v ⟨10,ia,ib,ic,ii,args⟩=h.fin 6:=by
    unfold givesH
    rw [if_neg (by rw [ho];decide)]
    first
     | (simp [Hp.reckH,Hp.must,hmb,hob2];done)
     | (have hx:h.reckH u v 2 ia=h.fin 6:=(by unfold Hp.reckH Hp.must;rw [if_neg (by rw [hmb];decide),if_neg (by rw [hob2];decide)]);simpa using hx)
   rw [eg,if_pos (fin_stops hs 6)]
   exact (bad (fun l' u' v' e1 e2 e3=>by
    rw [h0] at e1
    have:=List.append_inj_right' e1 rfl
    simp at this
    obtain ⟨rfl,rfl⟩:=this
    exact hk ⟨e2,e3⟩)).mono fun e w' q=>did_chg (d:=⟨h.fin 6,c,0⟩) rfl (fin_stops hs 6) q
 ·have hn2:c.has 2=false:=has_two_no (fun l u v e=>hex ⟨l,u,v,e⟩)
  rw [must_no hn2,gives_over (fin6 ho 6).1,if_pos (fin_stops hs 6)]
  exact (bad (fun l u v e1 _ _=>hex ⟨l,u,v,e1⟩)).mono fun e w' q=>did_chg (d:=⟨h.fin 6,c,0⟩) rfl (fin_stops hs 6) q
end
end Go.Proofs.Ytgiiapenmjollaa
