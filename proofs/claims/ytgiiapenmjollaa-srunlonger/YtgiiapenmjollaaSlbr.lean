import Derived.Test.YtgiiapenmjollaaSlbq
namespace Go.Proofs.Ytgiiapenmjollaa
set_option linter.all false
set_option maxHeartbeats 40000000
open Go.RowKit
section
open Go.Maps (Keyed has)
theorem mget_obj (s:Nat) (X:Nat→Prop) (wx w0:World) (g:Mg) (h:Hp) (qs:List Nat) (a:Mc) (c:Cal) (o cc k j:Nat) (w:World) (H:RX s X wx w0 g w h qs a c) (F:Fix w0 g h) (hob:h.objs.length≤100) (ho:o<h.objs.length) (hc:cc<h.file.classes.length) (hk:k<(nth cl0 h.file.classes cc).fields.length)
  (hj:j<(nth ob0 h.objs o).held.length) (h3:(nth hel0 (nth ob0 h.objs o).held j).cls=cc) (h4:(nth hel0 (nth ob0 h.objs o).held j).fld=k) :
  Calls Try.prog 137 #[.pointer (some ⟨g.hb,0,none⟩),mvV ⟨3,(o:Int)+1⟩,.int .i64 cc,.int .i64 k] w fun e w'=>e=.returned (mvV (im (nth hel0 (nth ob0 h.objs o).held j).v))∧RX s X wx w0 g w' h qs a c:=by
 have H0:=H
 obtain ⟨vc,vo,vx,vs,l,H⟩:=H
 obtain ⟨n,D,FF⟩:=H.rh.fld
 obtain ⟨m1,m2,m3⟩:=may_six F.may hc
 have ic:I64 (cc:Int):=by unfold I64;omega
 have ik:I64 (k:Int):=by unfold I64;omega
 have hx:∃x∈(nth ob0 h.objs o).held,x.cls=(cc:Int)∧x.fld=(k:Int)∧x.v=(nth hel0 (nth ob0 h.objs o).held j).v:=⟨_,nth_mem hj,h3,h4,rfl⟩
 cases hh:has D (keyM ((o:Int)+1) cc k) with
 | true=>exact mget_hit s X wx w0 g h qs a c o cc k _ n D w H0 F FF.own (by omega) hc hk m1 m2 hh (FF.hit o cc k _ ho ic ik hx hh)
 | false =>
  have e:=FF.miss o cc k _ ho ic ik hx hh
  rw [e,init_im,fieldT_nat]
  exact mget_miss s X wx w0 g h qs a c o cc k va0 n D w H0 F FF.own (by omega) hc hk m1 m2 hh
end
section
open Go.Maps (Keyed has)
set_option maxRecDepth 100000 in
theorem handle_op15 (X:Nat→Prop) (wx w0:World) (g:Mg) (h:Hp) (qs:List Nat) (a:Mc) (c:Cal) (ia ib ic ii:Int) (args:List Int) (Q:Option Addr) (nl q:Nat) (w:World) (H:RX 1 X wx w0 g w h qs a c) (hs:h.stops=false) (hl:c.stk.length≤1000) (F:Fix w0 g h) (hob:h.objs.length≤100) (hst:∀v∈c.stk,v.kind=3→-1≤v.n∧v.n<h.objs.length) (hfl:0≤ia∧ia<h.file.classes.length∧0≤ib∧ib<(nth cl0 h.file.classes ia.toNat).fields.length) :
  Calls Try.prog 121 #[.pointer (some ⟨a.q,0,none⟩),.agg #[.int .i64 15,.int .i64 ia,.int .i64 ib,.int .i64 ic,.int .i64 ii,.slice Q nl q]] w fun e w'=>DidQ X wx w0 g qs a c (doesP h c ⟨15,ia,ib,ic,ii,args⟩) e w':=by
 obtain ⟨cc,rfl⟩:∃cc:Nat,ia=cc:=⟨ia.toNat,by omega⟩
 obtain ⟨k,rfl⟩:∃k:Nat,ib=k:=⟨ib.toNat,by omega⟩
 rw [Int.toNat_natCast] at hfl
 have hc:cc<h.file.classes.length:=by omega
 have hkf:k<(nth cl0 h.file.classes cc).fields.length:=by omega
 have ho:=hs_over hs
 have HH:=hid H
 have HS:=hid hs
 have HB:Hid (Bl w (w.alloc (.cells #[.int .i64 15,.int .i64 (cc:Int),.int .i64 (k:Int),.int .i64 ic,.int .i64 ii,.slice Q nl q] 51))):=(Bl.refl w).alloc _
 have HL:=hid (blk_new w #[.int .i64 15,.int .i64 (cc:Int),.int .i64 (k:Int),.int .i64 ic,.int .i64 ii,.slice Q nl q] 51)
 have z0:=hid ((H.y.bl HB.out).hb)
 have z1:=hid (ins_of HL.out).1
 have z2:=hid (ins_of HL.out).2
 have bad:(c.stk=[]∨∃(l:List Va) (v:Va),c.stk=l++[v]∧(v.kind=3→-1≤v.n∧v.n<h.objs.length)∧h.of v ⟨3,(cc:Int)⟩=false)→Calls Try.prog 121 #[.pointer (some ⟨a.q,0,none⟩),.agg #[.int .i64 15,.int .i64 (cc:Int),.int .i64 (k:Int),.int .i64 ic,.int .i64 ii,.slice Q nl q]] w fun e w'=>DidQ X wx w0 g qs a c ⟨h.fin 6,c,0⟩ e w':=fun hn=>by
  have HN:=hid (And.intro hn (And.intro F hob))
  clear H hs hn F hst hfl hc hkf
  go_enter Try.func121,Try.ntmps121
  go_wp2
  refine wp_region_held_drew (S:=fun w'=>w'.cell? ⟨a.q,0,none⟩=some (.pointer (some ⟨g.hb,0,none⟩))∧w'.cell? ⟨w.heap.size,1,none⟩=some (.int .i64 (cc:Int))∧w'.cell? ⟨w.heap.size,2,none⟩=some (.int .i64 (k:Int))) (by kernel_rfl) ?_ (fun hHeld0=>?_)
  ·exact ⟨z0.out,z1.out,z2.out⟩
  refine tk (i:=0) (d:=some 20) rfl rfl (by kernel_rfl) (fun _ _ _ h=>h) (by rfl) (by intro _ h;(try dsimp only at h);go_split_ands;go_simp<;>with_reducible rfl) hHeld0 ?_
  try simp only [aS,aN,aT,a0,a1]
  refine tk (i:=1) (d:=some 21) rfl rfl (by kernel_rfl) (fun _ _ _ h=>h) (by rfl) (by intro _ h;(try dsimp only at h);go_split_ands;go_simp<;>with_reducible rfl) hHeld0 ?_
  try simp only [aS,aN,aT,a0,a1]
  refine tk (i:=2) (d:=some 22) rfl rfl (by kernel_rfl) (fun _ _ _ h=>h) (by rfl) (by intro _ h;(try dsimp only at h);go_split_ands;go_simp<;>with_reducible rfl) hHeld0 ?_
  try simp only [aS,aN,aT,a0,a1]
  refine tk (i:=3) (d:=some 23) rfl rfl (by kernel_rfl) (fun _ _ _ h=>h) (by rfl) (by intro _ h;(try dsimp only at h);go_split_ands;go_simp<;>with_reducible rfl) hHeld0 ?_
  try simp only [aS,aN,aT,a0,a1]
  refine tk (i:=4) (d:=some 24) rfl rfl (by kernel_rfl) (fun _ _ _ h=>h) (by rfl) (by intro _ h;(try dsimp only at h);go_split_ands;go_simp<;>with_reducible rfl) hHeld0 ?_
  try simp only [aS,aN,aT,a0,a1]
  refine tk (i:=5) (d:=some 25) rfl rfl (by kernel_rfl) (fun _ _ _ h=>h) (by rfl) (by intro _ h;(try dsimp only at h);go_split_ands;go_simp<;>with_reducible rfl) hHeld0 ?_
  try simp only [aS,aN,aT,a0,a1]
  refine tk (i:=6) (d:=some 26) rfl rfl (by kernel_rfl) (fun _ _ _ h=>h) (by rfl) (by intro _ h;(try dsimp only at h);go_split_ands;go_simp<;>with_reducible rfl) hHeld0 ?_
  try simp only [aS,aN,aT,a0,a1]
  refine tk (i:=7) (d:=some 27) rfl rfl (by kernel_rfl) (fun _ _ _ h=>h) (by rfl) (by intro _ h;(try dsimp only at h);go_split_ands;go_simp<;>with_reducible rfl) hHeld0 ?_
  try simp only [aS,aN,aT,a0,a1]
  refine tk (i:=10) (d:=some 30) rfl rfl (by kernel_rfl) (fun _ _ _ h=>h) (by rfl) (by intro _ h;(try dsimp only at h);go_split_ands;go_simp<;>with_reducible rfl) hHeld0 ?_
  try simp only [aS,aN,aT,a0,a1]
  refine tk (i:=11) (d:=some 31) rfl rfl (by kernel_rfl) (fun _ _ _ h=>h) (by rfl) (by intro _ h;(try dsimp only at h);go_split_ands;go_simp<;>with_reducible rfl) hHeld0 ?_
  try simp only [aS,aN,aT,a0,a1]
  refine tk (i:=12) (d:=some 32) rfl rfl (by kernel_rfl) (fun _ _ _ h=>h) (by rfl) (by intro _ h;(try dsimp only at h);go_split_ands;go_simp<;>with_reducible rfl) hHeld0 ?_
  try simp only [aS,aN,aT,a0,a1]
  refine tk (i:=13) (d:=some 33) rfl rfl (by kernel_rfl) (fun _ _ _ h=>h) (by rfl) (by intro _ h;(try dsimp only at h);go_split_ands;go_simp<;>with_reducible rfl) hHeld0 ?_
  try simp only [aS,aN,aT,a0,a1]
  refine rd1 (i:=8) (by kernel_rfl) rfl fun K hK=>?_
  go_simp
  go_at_call 138
  refine (refOf_any (cc:Int) _).mono ?_
  rintro e w1 ⟨rfl,b1⟩
  have d0:=hid (b1.cell hHeld0.1)
  have d1:=hid (b1.cell hHeld0.2.1)
  have d2:=hid (b1.cell hHeld0.2.2)
  have bx1:=hid (bl_blk b1 HL.out)
  replace b1:=hid b1
  go_wp2_with fail
  refine hK.out _ _ (⟨d0.out,d1.out,d2.out⟩) (fun hHeld1=>?_)
  try simp only [aS,aN,aT,a0,a1]
  refine rd1 (i:=9) (by kernel_rfl) rfl fun K hK=>?_
  go_simp
  go_at_call 114
  refine (HH.out.y.useN (HB.out.drew.trans b1.out) (fun X wx w H=>takeType_no 1 X wx w0 g h qs a c ⟨3,(cc:Int)⟩ w H HN.out.2.1 HN.out.2.2 HN.out.1)).mono ?_
  rintro e w2 ⟨rfl,H1⟩
  exact ⟨rfl,did_fin (s:=0) (hs_over HS.out) rfl H1.less⟩
 have hd:doesP h c ⟨15,(cc:Int),(k:Int),ic,ii,args⟩=givesP h c ⟨15,(cc:Int),(k:Int),ic,ii,args⟩:=rfl
 have em:manyOf 15=1:=by decide
 rw [hd]
 unfold givesP
 dsimp only
 rw [em]
 rcases stk_one (c:=c) with h0|⟨l,v,h0⟩
 ·rw [must_no (has_nil h0),gives_over (fin6 ho 6).1,if_pos (fin_stops hs 6)]
  exact (bad (Or.inl h0)).mono fun e w' q=>did_chg (d:=⟨h.fin 6,c,0⟩) rfl (fin_stops hs 6) q
 obtain ⟨h1,h2,h4⟩:=has_one h0
 rw [must_yes h1,h2,h4]
 generalize nth va0 (c.top 1) 1=y
 have hvg:=hst v (by rw [h0];simp)
 have eg0:givesH h v y ⟨15,(cc:Int),(k:Int),ic,ii,args⟩=h.findH v cc:=by
  unfold givesH
  rw [if_neg (by rw [ho];decide)]
  simp
 have ev0:givesV h v y ⟨15,(cc:Int),(k:Int),ic,ii,args⟩=h.getV v cc k:=by
  unfold givesV
  rw [if_neg (by rw [ho];decide)]
  simp
 rw [eg0,ev0]
 cases hz:h.of v ⟨3,(cc:Int)⟩ with
 | false =>
  have hm:h.mustB false=false:=rfl
  have eg:h.findH v cc=h.fin 6:=by unfold Hp.findH;rw [hz,if_neg (by rw [hm];decide),must_no rfl]
  rw [eg,if_pos (fin_stops hs 6)]
  exact (bad (Or.inr ⟨l,v,h0,hvg,hz⟩)).mono fun e w' q=>did_chg (d:=⟨h.fin 6,c,0⟩) rfl (fin_stops hs 6) q
 | true =>
  have hk:v.kind=3:=of_ref hz
  have hv3:=hvg hk
  have hm:h.mustB true=true:=by unfold Hp.mustB;rw [ho];rfl
  have HT:Hid (∀X wx w,RX 1 X wx w0 g w h qs a c→Calls Try.prog 114 #[.pointer (some ⟨a.q,0,none⟩),tyMV ⟨3,(cc:Int)⟩] w fun e w'=>e=.returned (mvV (im v))∧RX 1 X wx w0 g w' h qs a { c with stk:=l }):=fun X wx w H=>takeType_yes 1 X wx w0 g h qs a c l v ⟨3,(cc:Int)⟩ w H F hob h0 hvg hz
  by_cases hn:v.n<0
  ·have eg:h.findH v cc=h.raise 1:=by unfold Hp.findH;rw [hz,if_pos hm,if_pos hn]
   rw [eg,if_pos (raise_stops hs 1)]
   obtain ⟨E,hE⟩:∃E,raiseE h=E:=⟨_,rfl⟩
   have HX0:Hid (∃ch,E=.panicked ch):=by
    rw [←hE];unfold raiseE;split<;>exact ⟨_,rfl⟩
   have HG:Hid (∀X wx w,RX 1 X wx w0 g w h qs a { c with stk:=l }→Calls Try.prog 137 #[.pointer (some ⟨g.hb,0,none⟩),mvV (im v),.int .i64 (cc:Int),.int .i64 (k:Int)] w fun e w'=>e=E∧RX 1 X wx w0 g w' (h.raise 1) qs a { c with stk:=l }):=fun X wx w H=>hE▸mget_nil 1 X wx w0 g h qs a { c with stk:=l } v cc k w H hob ho hk (by omega)
   have HD:Hid (∀w',RS 0 X wx w0 g w' (h.raise 1) qs a c→DidQ X wx w0 g qs a c ⟨h.raise 1,{ c with stk:=l },c.pc+1⟩ E w'):=fun w' H=>hE▸did_raise hs rfl H
   generalize im v=V at HT HG
   clear H hs hd bad em h0 h1 h2 h4 eg eg0 ev0 hz hm F hst hv3 hk hE hn hvg hfl hc hkf
   obtain ⟨ch,rfl⟩:=HX0.out
   go_enter Try.func121,Try.ntmps121
   go_wp2
   refine wp_region_held_drew (S:=fun w'=>w'.cell? ⟨a.q,0,none⟩=some (.pointer (some ⟨g.hb,0,none⟩))∧w'.cell? ⟨w.heap.size,1,none⟩=some (.int .i64 (cc:Int))∧w'.cell? ⟨w.heap.size,2,none⟩=some (.int .i64 (k:Int))) (by kernel_rfl) ?_ (fun hHeld0=>?_)
   ·exact ⟨z0.out,z1.out,z2.out⟩
   refine tk (i:=0) (d:=some 20) rfl rfl (by kernel_rfl) (fun _ _ _ h=>h) (by rfl) (by intro _ h;(try dsimp only at h);go_split_ands;go_simp<;>with_reducible rfl) hHeld0 ?_
   try simp only [aS,aN,aT,a0,a1]
   refine tk (i:=1) (d:=some 21) rfl rfl (by kernel_rfl) (fun _ _ _ h=>h) (by rfl) (by intro _ h;(try dsimp only at h);go_split_ands;go_simp<;>with_reducible rfl) hHeld0 ?_
   try simp only [aS,aN,aT,a0,a1]
   refine tk (i:=2) (d:=some 22) rfl rfl (by kernel_rfl) (fun _ _ _ h=>h) (by rfl) (by intro _ h;(try dsimp only at h);go_split_ands;go_simp<;>with_reducible rfl) hHeld0 ?_
   try simp only [aS,aN,aT,a0,a1]
   refine tk (i:=3) (d:=some 23) rfl rfl (by kernel_rfl) (fun _ _ _ h=>h) (by rfl) (by intro _ h;(try dsimp only at h);go_split_ands;go_simp<;>with_reducible rfl) hHeld0 ?_
   try simp only [aS,aN,aT,a0,a1]
   refine tk (i:=4) (d:=some 24) rfl rfl (by kernel_rfl) (fun _ _ _ h=>h) (by rfl) (by intro _ h;(try dsimp only at h);go_split_ands;go_simp<;>with_reducible rfl) hHeld0 ?_
   try simp only [aS,aN,aT,a0,a1]
   refine tk (i:=5) (d:=some 25) rfl rfl (by kernel_rfl) (fun _ _ _ h=>h) (by rfl) (by intro _ h;(try dsimp only at h);go_split_ands;go_simp<;>with_reducible rfl) hHeld0 ?_
   try simp only [aS,aN,aT,a0,a1]
   refine tk (i:=6) (d:=some 26) rfl rfl (by kernel_rfl) (fun _ _ _ h=>h) (by rfl) (by intro _ h;(try dsimp only at h);go_split_ands;go_simp<;>with_reducible rfl) hHeld0 ?_
   try simp only [aS,aN,aT,a0,a1]
   refine tk (i:=7) (d:=some 27) rfl rfl (by kernel_rfl) (fun _ _ _ h=>h) (by rfl) (by intro _ h;(try dsimp only at h);go_split_ands;go_simp<;>with_reducible rfl) hHeld0 ?_
   try simp only [aS,aN,aT,a0,a1]
   refine tk (i:=10) (d:=some 30) rfl rfl (by kernel_rfl) (fun _ _ _ h=>h) (by rfl) (by intro _ h;(try dsimp only at h);go_split_ands;go_simp<;>with_reducible rfl) hHeld0 ?_
   try simp only [aS,aN,aT,a0,a1]
   refine tk (i:=11) (d:=some 31) rfl rfl (by kernel_rfl) (fun _ _ _ h=>h) (by rfl) (by intro _ h;(try dsimp only at h);go_split_ands;go_simp<;>with_reducible rfl) hHeld0 ?_
   try simp only [aS,aN,aT,a0,a1]
   refine tk (i:=12) (d:=some 32) rfl rfl (by kernel_rfl) (fun _ _ _ h=>h) (by rfl) (by intro _ h;(try dsimp only at h);go_split_ands;go_simp<;>with_reducible rfl) hHeld0 ?_
   try simp only [aS,aN,aT,a0,a1]
   refine tk (i:=13) (d:=some 33) rfl rfl (by kernel_rfl) (fun _ _ _ h=>h) (by rfl) (by intro _ h;(try dsimp only at h);go_split_ands;go_simp<;>with_reducible rfl) hHeld0 ?_
   try simp only [aS,aN,aT,a0,a1]
   refine rd1 (i:=8) (by kernel_rfl) rfl fun K hK=>?_
   go_simp
   go_at_call 138
   refine (refOf_any (cc:Int) _).mono ?_
   rintro e w1 ⟨rfl,b1⟩
   have d0:=hid (b1.cell hHeld0.1)
   have d1:=hid (b1.cell hHeld0.2.1)
   have d2:=hid (b1.cell hHeld0.2.2)
   have bx1:=hid (bl_blk b1 HL.out)
   replace b1:=hid b1
   go_wp2_with fail
   refine hK.out _ _ (⟨d0.out,d1.out,d2.out⟩) (fun hHeld1=>?_)
   try simp only [aS,aN,aT,a0,a1]
   refine rd1 (i:=9) (by kernel_rfl) rfl fun K hK=>?_
   go_simp
   go_at_call 114
   refine (HH.out.y.useY (HB.out.drew.trans b1.out) HT.out).mono ?_
   rintro e w2 ⟨rfl,H1,K1⟩
   have bxK1:=K1.at (Xp.new (Nat.le_refl _) (lt_some bx1.out)) bx1.out
   have K1a:=hid H1.hb
   have K1b:=hid (ins_of bxK1).1
   have K1c:=hid (ins_of bxK1).2
   replace bxK1:=hid bxK1
   replace H1:=hid H1
   go_wp2_with fail
   refine hK.out _ _ (⟨K1a.out,K1b.out,K1c.out⟩) (fun hHeld2=>?_)
   try simp only [aS,aN,aT,a0,a1]
   refine rd1 (i:=14) (by kernel_rfl) rfl fun K hK=>?_
   go_simp
   go_at_call 137
   refine (H1.out.useY (Bl.refl _) HG.out).mono ?_
   rintro e w3 ⟨rfl,H2,K2⟩
   exact ⟨rfl,HD.out _ (H2.x.less.rs.of rfl ⟨rfl,rfl⟩)⟩
  ·have eg:h.findH v cc=h:=by unfold Hp.findH;rw [hz,if_pos hm,if_neg hn]
   rw [eg,if_neg (by rw [hs];decide)]
   obtain ⟨o,ho'⟩:∃o:Nat,v.n=o:=⟨v.n.toNat,by omega⟩
   have hol:o<h.objs.length:=by omega
   have hobj:h.obj v.n=nth ob0 h.objs o:=by unfold Hp.obj;rw [ho',Int.toNat_natCast]
   have hbel:belI h.file.classes (nth ob0 h.objs o).cls (cc:Int)=true:=by
    have hz':=hz
    unfold Hp.of at hz'
    rw [hobj] at hz'
    simp [hn] at hz'
    exact hz'.2
   obtain ⟨j,j1,j2,j3,j4,j5⟩:=H.find hol hbel hkf
   have egv:h.getV v cc k=(nth hel0 (nth ob0 h.objs o).held j).v:=by
    have hfn:h.findN v cc k=j:=by
     unfold Hp.findN
     rw [hz,if_pos hm,if_neg hn,hobj]
     exact j2
    unfold Hp.getV
    rw [hfn,if_neg (by omega),hobj,Int.toNat_natCast]
   rw [egv]
   have him:im v=⟨3,(o:Int)+1⟩:=by rw [im_ref hk,ho']
   have hkd:1≤(nth hel0 (nth ob0 h.objs o).held j).v.kind∧(nth hel0 (nth ob0 h.objs o).held j).v.kind≤3:=by rw [j5];exact field_kind F.may hc hkf
   have HG:Hid (∀X wx w,RX 1 X wx w0 g w h qs a { c with stk:=l }→Calls Try.prog 137 #[.pointer (some ⟨g.hb,0,none⟩),mvV (im v),.int .i64 (cc:Int),.int .i64 (k:Int)] w fun e w'=>e=.returned (mvV (im (nth hel0 (nth ob0 h.objs o).held j).v))∧RX 1 X wx w0 g w' h qs a { c with stk:=l }):=fun X wx w H=>him.symm▸mget_obj 1 X wx w0 g h qs a { c with stk:=l } o cc k j w H F hob hol hc hkf j1 j3 j4
   generalize (nth hel0 (nth ob0 h.objs o).held j).v=U at HG hkd
   obtain ⟨E,hE⟩:∃E,(if (sizP (({ c with stk:=l }).stk++[U]):Int)≤({ c with stk:=l }).m.stack then Ending.returned (.tuple #[]) else stopE 6 0 0)=E:=⟨_,rfl⟩
   have HP:Hid (∀X wx w,RX 1 X wx w0 g w h qs a ({ c with stk:=l })→Calls Try.prog 95 #[.pointer (some ⟨a.q,0,none⟩),mvV (im U)] w fun e w2=>e=E∧RX 1 X wx w0 g w2 h qs a (({ c with stk:=l }).put U)):=fun X wx w H=>hE▸mput_any 1 X wx w0 g h qs a ({ c with stk:=l }) U w H (hkd) (by have e:c.stk.length=l.length+1:=(by rw [h0];simp);show l.length≤1000;omega)
   have HE:Hid (∀w',RX 1 X wx w0 g w' h qs a (({ c with stk:=l }).put U)→DidQ X wx w0 g qs a c ⟨(h).putH ({ c with stk:=l }) U,({ c with stk:=l }).put U,c.pc+1⟩ E w'):=fun w' H=>did_put hs rfl ⟨rfl,rfl⟩ hE.symm H.less
   have hE2:E=.returned (.tuple #[])∨E=stopE 6 0 0:=by rw [←hE];split;exact Or.inl rfl;exact Or.inr rfl
   clear hE
   generalize im v=V at HT HG
   generalize im U=UI at HG HP
   clear H hs hd bad em h0 h1 h2 h4 eg eg0 ev0 hz hm F hst hv3 hk hn hvg hfl hc hkf ho' hol hobj hbel j1 j2 j3 j4 j5 egv him
   rcases hE2 with rfl|rfl
   ·go_enter Try.func121,Try.ntmps121
    go_wp2
    refine wp_region_held_drew (S:=fun w'=>w'.cell? ⟨a.q,0,none⟩=some (.pointer (some ⟨g.hb,0,none⟩))∧w'.cell? ⟨w.heap.size,1,none⟩=some (.int .i64 (cc:Int))∧w'.cell? ⟨w.heap.size,2,none⟩=some (.int .i64 (k:Int))) (by kernel_rfl) ?_ (fun hHeld0=>?_)
    ·exact ⟨z0.out,z1.out,z2.out⟩
    refine tk (i:=0) (d:=some 20) rfl rfl (by kernel_rfl) (fun _ _ _ h=>h) (by rfl) (by intro _ h;(try dsimp only at h);go_split_ands;go_simp<;>with_reducible rfl) hHeld0 ?_
    try simp only [aS,aN,aT,a0,a1]
    refine tk (i:=1) (d:=some 21) rfl rfl (by kernel_rfl) (fun _ _ _ h=>h) (by rfl) (by intro _ h;(try dsimp only at h);go_split_ands;go_simp<;>with_reducible rfl) hHeld0 ?_
    try simp only [aS,aN,aT,a0,a1]
    refine tk (i:=2) (d:=some 22) rfl rfl (by kernel_rfl) (fun _ _ _ h=>h) (by rfl) (by intro _ h;(try dsimp only at h);go_split_ands;go_simp<;>with_reducible rfl) hHeld0 ?_
    try simp only [aS,aN,aT,a0,a1]
    refine tk (i:=3) (d:=some 23) rfl rfl (by kernel_rfl) (fun _ _ _ h=>h) (by rfl) (by intro _ h;(try dsimp only at h);go_split_ands;go_simp<;>with_reducible rfl) hHeld0 ?_
    try simp only [aS,aN,aT,a0,a1]
    refine tk (i:=4) (d:=some 24) rfl rfl (by kernel_rfl) (fun _ _ _ h=>h) (by rfl) (by intro _ h;(try dsimp only at h);go_split_ands;go_simp<;>with_reducible rfl) hHeld0 ?_
    try simp only [aS,aN,aT,a0,a1]
    refine tk (i:=5) (d:=some 25) rfl rfl (by kernel_rfl) (fun _ _ _ h=>h) (by rfl) (by intro _ h;(try dsimp only at h);go_split_ands;go_simp<;>with_reducible rfl) hHeld0 ?_
    try simp only [aS,aN,aT,a0,a1]
    refine tk (i:=6) (d:=some 26) rfl rfl (by kernel_rfl) (fun _ _ _ h=>h) (by rfl) (by intro _ h;(try dsimp only at h);go_split_ands;go_simp<;>with_reducible rfl) hHeld0 ?_
    try simp only [aS,aN,aT,a0,a1]
    refine tk (i:=7) (d:=some 27) rfl rfl (by kernel_rfl) (fun _ _ _ h=>h) (by rfl) (by intro _ h;(try dsimp only at h);go_split_ands;go_simp<;>with_reducible rfl) hHeld0 ?_
    try simp only [aS,aN,aT,a0,a1]
    refine tk (i:=10) (d:=some 30) rfl rfl (by kernel_rfl) (fun _ _ _ h=>h) (by rfl) (by intro _ h;(try dsimp only at h);go_split_ands;go_simp<;>with_reducible rfl) hHeld0 ?_
    try simp only [aS,aN,aT,a0,a1]
    refine tk (i:=11) (d:=some 31) rfl rfl (by kernel_rfl) (fun _ _ _ h=>h) (by rfl) (by intro _ h;(try dsimp only at h);go_split_ands;go_simp<;>with_reducible rfl) hHeld0 ?_
    try simp only [aS,aN,aT,a0,a1]
    refine tk (i:=12) (d:=some 32) rfl rfl (by kernel_rfl) (fun _ _ _ h=>h) (by rfl) (by intro _ h;(try dsimp only at h);go_split_ands;go_simp<;>with_reducible rfl) hHeld0 ?_
    try simp only [aS,aN,aT,a0,a1]
    refine tk (i:=13) (d:=some 33) rfl rfl (by kernel_rfl) (fun _ _ _ h=>h) (by rfl) (by intro _ h;(try dsimp only at h);go_split_ands;go_simp<;>with_reducible rfl) hHeld0 ?_
    try simp only [aS,aN,aT,a0,a1]
    refine rd1 (i:=8) (by kernel_rfl) rfl fun K hK=>?_
    go_simp
    go_at_call 138
    refine (refOf_any (cc:Int) _).mono ?_
    rintro e w1 ⟨rfl,b1⟩
    have d0:=hid (b1.cell hHeld0.1)
    have d1:=hid (b1.cell hHeld0.2.1)
    have d2:=hid (b1.cell hHeld0.2.2)
    have bx1:=hid (bl_blk b1 HL.out)
    replace b1:=hid b1
    go_wp2_with fail
    refine hK.out _ _ (⟨d0.out,d1.out,d2.out⟩) (fun hHeld1=>?_)
    try simp only [aS,aN,aT,a0,a1]
    refine rd1 (i:=9) (by kernel_rfl) rfl fun K hK=>?_
    go_simp
    go_at_call 114
    refine (HH.out.y.useY (HB.out.drew.trans b1.out) HT.out).mono ?_
    rintro e w2 ⟨rfl,H1,K1⟩
    have bxK1:=K1.at (Xp.new (Nat.le_refl _) (lt_some bx1.out)) bx1.out
    have K1a:=hid H1.hb
    have K1b:=hid (ins_of bxK1).1
    have K1c:=hid (ins_of bxK1).2
    replace bxK1:=hid bxK1
    replace H1:=hid H1
    go_wp2_with fail
    refine hK.out _ _ (⟨K1a.out,K1b.out,K1c.out⟩) (fun hHeld2=>?_)
    try simp only [aS,aN,aT,a0,a1]
    refine rd1 (i:=14) (by kernel_rfl) rfl fun K hK=>?_
    go_simp
    go_at_call 137
    refine (H1.out.useY (Bl.refl _) HG.out).mono ?_
    rintro e w3 ⟨rfl,H2,K2⟩
    have bxK2:=K2.at (Xp.old (Xp.new (Nat.le_refl _) (lt_some bx1.out))) bxK1.out
    have K2a:=hid H2.hb
    have K2b:=hid (ins_of bxK2).1
    have K2c:=hid (ins_of bxK2).2
    replace bxK2:=hid bxK2
    replace H2:=hid H2
    go_wp2_with fail
    refine hK.out _ _ (⟨K2a.out,K2b.out,K2c.out⟩) (fun hHeld3=>?_)
    try simp only [aS,aN,aT,a0,a1]
    refine rd1 (i:=15) (by kernel_rfl) rfl fun K hK=>?_
    go_simp
    go_at_call 95
    refine (H2.out.useY (Bl.refl _) HP.out).mono ?_
    rintro e w4 ⟨rfl,HX,KX⟩
    have bxX:=KX.at (Xp.old (Xp.old (Xp.new (Nat.le_refl _) (lt_some bx1.out)))) bxK2.out
    have Xa:=hid HX.hb
    have Xb:=hid (ins_of bxX).1
    have Xc:=hid (ins_of bxX).2
    replace HX:=hid HX
    go_wp2_with fail
    refine hK.out _ _ (⟨Xa.out,Xb.out,Xc.out⟩) (fun hHeld4=>?_)
    try simp only [aS,aN,aT,a0,a1]
    refine wpAnyH_done (by kernel_rfl) ?_ _
    go_wp2
    go_end0
    exact HE.out _ HX.out.x
   ·go_enter Try.func121,Try.ntmps121
    go_wp2
    refine wp_region_held_drew (S:=fun w'=>w'.cell? ⟨a.q,0,none⟩=some (.pointer (some ⟨g.hb,0,none⟩))∧w'.cell? ⟨w.heap.size,1,none⟩=some (.int .i64 (cc:Int))∧w'.cell? ⟨w.heap.size,2,none⟩=some (.int .i64 (k:Int))) (by kernel_rfl) ?_ (fun hHeld0=>?_)
    ·exact ⟨z0.out,z1.out,z2.out⟩
    refine tk (i:=0) (d:=some 20) rfl rfl (by kernel_rfl) (fun _ _ _ h=>h) (by rfl) (by intro _ h;(try dsimp only at h);go_split_ands;go_simp<;>with_reducible rfl) hHeld0 ?_
    try simp only [aS,aN,aT,a0,a1]
    refine tk (i:=1) (d:=some 21) rfl rfl (by kernel_rfl) (fun _ _ _ h=>h) (by rfl) (by intro _ h;(try dsimp only at h);go_split_ands;go_simp<;>with_reducible rfl) hHeld0 ?_
    try simp only [aS,aN,aT,a0,a1]
    refine tk (i:=2) (d:=some 22) rfl rfl (by kernel_rfl) (fun _ _ _ h=>h) (by rfl) (by intro _ h;(try dsimp only at h);go_split_ands;go_simp<;>with_reducible rfl) hHeld0 ?_
    try simp only [aS,aN,aT,a0,a1]
    refine tk (i:=3) (d:=some 23) rfl rfl (by kernel_rfl) (fun _ _ _ h=>h) (by rfl) (by intro _ h;(try dsimp only at h);go_split_ands;go_simp<;>with_reducible rfl) hHeld0 ?_
    try simp only [aS,aN,aT,a0,a1]
    refine tk (i:=4) (d:=some 24) rfl rfl (by kernel_rfl) (fun _ _ _ h=>h) (by rfl) (by intro _ h;(try dsimp only at h);go_split_ands;go_simp<;>with_reducible rfl) hHeld0 ?_
    try simp only [aS,aN,aT,a0,a1]
    refine tk (i:=5) (d:=some 25) rfl rfl (by kernel_rfl) (fun _ _ _ h=>h) (by rfl) (by intro _ h;(try dsimp only at h);go_split_ands;go_simp<;>with_reducible rfl) hHeld0 ?_
    try simp only [aS,aN,aT,a0,a1]
    refine tk (i:=6) (d:=some 26) rfl rfl (by kernel_rfl) (fun _ _ _ h=>h) (by rfl) (by intro _ h;(try dsimp only at h);go_split_ands;go_simp<;>with_reducible rfl) hHeld0 ?_
    try simp only [aS,aN,aT,a0,a1]
    refine tk (i:=7) (d:=some 27) rfl rfl (by kernel_rfl) (fun _ _ _ h=>h) (by rfl) (by intro _ h;(try dsimp only at h);go_split_ands;go_simp<;>with_reducible rfl) hHeld0 ?_
    try simp only [aS,aN,aT,a0,a1]
    refine tk (i:=10) (d:=some 30) rfl rfl (by kernel_rfl) (fun _ _ _ h=>h) (by rfl) (by intro _ h;(try dsimp only at h);go_split_ands;go_simp<;>with_reducible rfl) hHeld0 ?_
    try simp only [aS,aN,aT,a0,a1]
    refine tk (i:=11) (d:=some 31) rfl rfl (by kernel_rfl) (fun _ _ _ h=>h) (by rfl) (by intro _ h;(try dsimp only at h);go_split_ands;go_simp<;>with_reducible rfl) hHeld0 ?_
    try simp only [aS,aN,aT,a0,a1]
    refine tk (i:=12) (d:=some 32) rfl rfl (by kernel_rfl) (fun _ _ _ h=>h) (by rfl) (by intro _ h;(try dsimp only at h);go_split_ands;go_simp<;>with_reducible rfl) hHeld0 ?_
    try simp only [aS,aN,aT,a0,a1]
    refine tk (i:=13) (d:=some 33) rfl rfl (by kernel_rfl) (fun _ _ _ h=>h) (by rfl) (by intro _ h;(try dsimp only at h);go_split_ands;go_simp<;>with_reducible rfl) hHeld0 ?_
    try simp only [aS,aN,aT,a0,a1]
    refine rd1 (i:=8) (by kernel_rfl) rfl fun K hK=>?_
    go_simp
    go_at_call 138
    refine (refOf_any (cc:Int) _).mono ?_
    rintro e w1 ⟨rfl,b1⟩
    have d0:=hid (b1.cell hHeld0.1)
    have d1:=hid (b1.cell hHeld0.2.1)
    have d2:=hid (b1.cell hHeld0.2.2)
    have bx1:=hid (bl_blk b1 HL.out)
    replace b1:=hid b1
    go_wp2_with fail
    refine hK.out _ _ (⟨d0.out,d1.out,d2.out⟩) (fun hHeld1=>?_)
    try simp only [aS,aN,aT,a0,a1]
    refine rd1 (i:=9) (by kernel_rfl) rfl fun K hK=>?_
    go_simp
    go_at_call 114
    refine (HH.out.y.useY (HB.out.drew.trans b1.out) HT.out).mono ?_
    rintro e w2 ⟨rfl,H1,K1⟩
    have bxK1:=K1.at (Xp.new (Nat.le_refl _) (lt_some bx1.out)) bx1.out
    have K1a:=hid H1.hb
    have K1b:=hid (ins_of bxK1).1
    have K1c:=hid (ins_of bxK1).2
    replace bxK1:=hid bxK1
    replace H1:=hid H1
    go_wp2_with fail
    refine hK.out _ _ (⟨K1a.out,K1b.out,K1c.out⟩) (fun hHeld2=>?_)
    try simp only [aS,aN,aT,a0,a1]
    refine rd1 (i:=14) (by kernel_rfl) rfl fun K hK=>?_
    go_simp
    go_at_call 137
    refine (H1.out.useY (Bl.refl _) HG.out).mono ?_
    rintro e w3 ⟨rfl,H2,K2⟩
    have bxK2:=K2.at (Xp.old (Xp.new (Nat.le_refl _) (lt_some bx1.out))) bxK1.out
    have K2a:=hid H2.hb
    have K2b:=hid (ins_of bxK2).1
    have K2c:=hid (ins_of bxK2).2
    replace bxK2:=hid bxK2
    replace H2:=hid H2
    go_wp2_with fail
    refine hK.out _ _ (⟨K2a.out,K2b.out,K2c.out⟩) (fun hHeld3=>?_)
    try simp only [aS,aN,aT,a0,a1]
    refine rd1 (i:=15) (by kernel_rfl) rfl fun K hK=>?_
    go_simp
    go_at_call 95
    refine (H2.out.useY (Bl.refl _) HP.out).mono ?_
    rintro e w4 ⟨rfl,HX,KX⟩
    exact ⟨rfl,HE.out _ HX.x⟩
end
end Go.Proofs.Ytgiiapenmjollaa
