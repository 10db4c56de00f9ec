import Derived.Test.YtgiiapenmjollaaSlbj
namespace Go.Proofs.Ytgiiapenmjollaa
set_option linter.all false
set_option maxHeartbeats 40000000
open Go.RowKit
theorem call_step (w0:World) (g:Mg) (h:Hp) (k:Kl) (L:List Kl) (i:In) (hin:nth in0 k.c.m.code k.c.pc.toNat=i) (hop:i.op=19) (hia:0≤i.a∧i.a<h.file.methods.length) (hmay:MayF h.file) (hmm:h.file.methods.length≤8) (gh:Gh 1 h) (gc:Gc h k.c) (hp:0≤k.c.pc∧k.c.pc<k.c.m.code.length) (hI:IC h (L.map (·.c))) (hcl:h.calls=((k::L).length:Int)) (F:Fix w0 g h) :
  DrA w0 g h k L (calM h k.c (L.map (·.c)) i)∨DrB w0 g h k L (calM h k.c (L.map (·.c)) i):=by
 have hcb:=gh.calls
 have hat:∀{Z wx w},RR 1 Z wx w0 g w h (k::L)→∃cb co Q q,AtI w k.a k.c ⟨i.op,i.a,i.b,i.c,i.n,i.args⟩ cb co Q q k.c.pc.toNat:=fun {Z wx w} H=>by
  obtain ⟨cb,co,Q,q,A⟩:=H.top.ati hp
  rw [hin] at A
  exact ⟨cb,co,Q,q,A⟩
 have hidx:i.a.toNat<h.file.methods.length:=by omega
 have hmo:=hmay _ (nth_mem (d:=me0) hidx)
 rcases F.mes.2 with z0|⟨mb,mo,hM,hcell⟩
 ·omega
 obtain ⟨P,C,J,p,c,kk,m0,-,-,-,-,-,-,-,hme⟩:=hcell i.a.toNat hidx
 unfold calM
 dsimp only
 generalize hmE:nth me0 h.file.methods i.a.toNat=m at *
 obtain ⟨p1,p2,p3,p4,p5,p6,p7,p8,p9,p10,p11⟩:=smeP hmo.1
 have hg:∀v∈k.c.stk,v.kind=3→-1≤v.n∧v.n<h.objs.length:=fun v hv e=>(gc.stk v hv).ref e
 have hno:(∀l vs,k.c.stk=l++vs→vs.length=m.params.length→ofAll h vs m.params→False)→DrB w0 g h k L (endM 6 va0 h):=fun hn=>by
  refine ⟨⟨rfl,(by show (6:Int)≠2;decide)⟩,fun Z wx w H=>?_⟩
  obtain ⟨cb,co,Q,q,A⟩:=hat H
  refine (do_call_no Z wx w0 g h k.a k.c k.vs k.l L w H i.op i.a i.b i.c i.n i.args cb co Q q _ A hop mb mo P p m.params hM hia m0 hmm (fun Z wx w H=>types_no_rr Z wx w0 g h k L w H F gh.len P p m.params hme.1 p5 hg hn)).mono ?_
  rintro e w' ⟨rfl,k',d1,d2,d3,H'⟩
  exact ⟨rfl,_,trivial,H'.less⟩
 by_cases hh:k.c.has m.params.length=false
 ·rw [if_pos hh]
  refine Or.inr (hno fun l vs e1 e2 e3=>?_)
  unfold Cal.has at hh
  have hh':¬m.params.length≤k.c.stk.length:=by simpa using hh
  rw [e1] at hh'
  simp at hh'
  omega
 rw [if_neg hh]
 have hle:m.params.length≤k.c.stk.length:=by unfold Cal.has at hh;simpa using hh
 have et:k.c.top m.params.length=k.c.stk.drop (k.c.stk.length-m.params.length):=by unfold Cal.top;rw [if_pos hle]
 have ec:k.c.cut m.params.length={ k.c with stk:=k.c.stk.take (k.c.stk.length-m.params.length) }:=by unfold Cal.cut;rw [if_pos hle]
 have es:k.c.stk=k.c.stk.take (k.c.stk.length-m.params.length)++k.c.top m.params.length:=by rw [et,List.take_append_drop]
 have el:=top_length k.c m.params.length
 generalize hvs:k.c.top m.params.length=vs at *
 generalize hls:k.c.stk.take (k.c.stk.length-m.params.length)=l at *
 by_cases he:h.enterL vs m.params=false
 ·rw [if_pos he]
  refine Or.inr (hno fun l2 vs2 e1 e2 e3=>?_)
  obtain ⟨-,rfl⟩:=split_len (e1.symm.trans es) (e2.trans el.symm)
  have:=(enter_all h vs2 m.params el).2 e3
  rw [he] at this
  cases this
 rw [if_neg he]
 have he':h.enterL vs m.params=true:=by simpa using he
 have hof:ofAll h vs m.params:=(enter_all h vs m.params el).1 he'
 obtain ⟨s1,s2⟩:=enter_sizes h h.file.classes.length vs m.params el he' p9
 have hT:∀Z wx w,RR 1 Z wx w0 g w h (⟨k.a,k.c,k.vs,k.l⟩::L)→Calls Try.prog 91 #[.pointer (some ⟨k.a.q,0,none⟩),.slice P m.params.length p] w fun e w'=>∃b,e=.returned (.slice (some ⟨b,0,none⟩) m.params.length m.params.length)∧LBox w' b (vs.map im)∧∃vs' l',RR 1 Z wx w0 g w' h (⟨k.a,{ k.c with stk:=l },vs',l'⟩::L) :=
  fun Z wx w H=>types_rr Z wx w0 g h k L w H F gh.len P p m.params hme.1 p5 hg l vs es el hof
 by_cases hd:h.deep=true
 ·rw [if_pos hd]
  refine Or.inr ⟨⟨rfl,(by show (5:Int)≠2;decide)⟩,fun Z wx w H=>?_⟩
  obtain ⟨cb,co,Q,q,A⟩:=hat H
  have hd':20≤h.calls:=by unfold Hp.deep at hd;simpa using hd
  refine (do_call_deep Z wx w0 g h k.a k.c k.vs k.l L w H i.op i.a i.b i.c i.n i.args cb co Q q _ A hop mb mo P p m.params hM hia m0 hmm (vs.map im) _ hT (fun Z wx w b vs' l' H _=>call_deep 1 Z wx w0 g h _ L w H i.a _ (by rw [hcl] at hd';simp at hd' ⊢;omega) (by rw [hcl] at hcb;simp at hcb ⊢;omega))).mono ?_
  rintro e w' ⟨rfl,vs',l',H'⟩
  exact ⟨rfl,_,trivial,H'.less⟩
 ·rw [if_neg hd]
  have hd':h.calls<20:=by unfold Hp.deep at hd;simp at hd;exact hd
  refine Or.inl ⟨rfl,fun Z wx w H=>?_⟩
  obtain ⟨cb,co,Q,q,A⟩:=hat H
  have eia:((i.a.toNat:Nat):Int)=i.a:=by omega
  refine (do_call_go Z wx w0 g h k.a k.c k.vs k.l L w H i.op i.a i.b i.c i.n i.args cb co Q q _ A hop mb mo P p m.params hM hia m0 hmm (vs.map im) _ (fun k2=>k2.c=newCal m vs) hT (fun Z wx w b vs' l' H B=>?_)).mono ?_
  ·have:=call_rr 1 Z wx w0 g h _ w H i.a.toNat m m.locs.toNat b m.params.length vs (by rw [hcl] at hd';simp at hd' ⊢;omega) hidx hmE F.mes (by omega) (by omega) B (by omega) s2
   rw [eia,el] at this
   exact this
  ·rintro e w' ⟨rfl,k2,vs',l',hk2,H'⟩
   refine ⟨rfl,k2::⟨k.a,{ k.c with stk:=l },vs',l'⟩::L,?_,(H'.less).heap (h.calls+1) h.thrown⟩
   show k2.c::{ k.c with stk:=l }::L.map (·.c)=newCal m vs::k.c.cut m.params.length::L.map (·.c)
   rw [hk2,ec]
section
open Go.Maps (Keyed has)
set_option maxRecDepth 100000 in
theorem handle_op14 (X:Nat→Prop) (wx w0:World) (g:Mg) (h:Hp) (qs:List Nat) (a:Mc) (c:Cal) (ia ib ic ii:Int) (args:List Int) (Q:Option Addr) (nl q:Nat) (w:World) (H:RX 1 X wx w0 g w h qs a c) (hs:h.stops=false) (hl:c.stk.length≤1000) (hob:h.objs.length≤100) :
  Calls Try.prog 121 #[.pointer (some ⟨a.q,0,none⟩),.agg #[.int .i64 14,.int .i64 ia,.int .i64 ib,.int .i64 ic,.int .i64 ii,.slice Q nl q]] w fun e w'=>DidQ X wx w0 g qs a c (doesP h c ⟨14,ia,ib,ic,ii,args⟩) e w':=by
 have ho:=hs_over hs
 have HH:=hid H
 have HS:=hid hs
 have HB:Hid (Bl w (w.alloc (.cells #[.int .i64 14,.int .i64 ia,.int .i64 ib,.int .i64 ic,.int .i64 ii,.slice Q nl q] 51))):=(Bl.refl w).alloc _
 have HL:=hid (blk_new w #[.int .i64 14,.int .i64 ia,.int .i64 ib,.int .i64 ic,.int .i64 ii,.slice Q nl q] 51)
 have z0:=hid ((H.y.bl HB.out).hb)
 have z1:=hid (ins_of HL.out).1
 have hd:doesP h c ⟨14,ia,ib,ic,ii,args⟩=givesP h c ⟨14,ia,ib,ic,ii,args⟩:=rfl
 have em:manyOf 14=0:=by decide
 have e2:c.cut 0=c:=by unfold Cal.cut;simp
 have e3:h.must (c.has 0)=h:=by unfold Hp.must Cal.has;simp
 have eg:∀x y,givesH h x y ⟨14,ia,ib,ic,ii,args⟩=h.new ia:=by intro x y;unfold givesH;rw [if_neg (by rw [ho];decide)];simp
 have ev:∀x y,givesV h x y ⟨14,ia,ib,ic,ii,args⟩=h.newV:=by intro x y;unfold givesV;rw [if_neg (by rw [ho];decide)];simp
 rw [hd]
 unfold givesP
 dsimp only
 rw [em,e3,eg,ev,e2]
 cases hf:h.full with
 | true =>
  have e1:h.new ia=h.fin 4:=by unfold Hp.new;rw [if_pos hf]
  rw [e1,if_pos (fin_stops hs 4)]
  have HF:=hid (And.intro hf hob)
  clear H hs hd em e1 e2 e3 eg ev hf
  go_enter Try.func121,Try.ntmps121
  go_wp2
  refine wp_region_held_drew (S:=fun w'=>w'.cell? ⟨a.q,0,none⟩=some (.pointer (some ⟨g.hb,0,none⟩))∧w'.cell? ⟨w.heap.size,1,none⟩=some (.int .i64 ia)) (by kernel_rfl) ?_ (fun hHeld0=>?_)
  ·exact ⟨z0.out,z1.out⟩
  refine tk (i:=0) (d:=some 9) rfl rfl (by kernel_rfl) (fun _ _ _ h=>h) (by rfl) (by intro _ h;(try dsimp only at h);go_split_ands;go_simp<;>with_reducible rfl) hHeld0 ?_
  try simp only [aS,aN,aT,a0,a1]
  refine tk (i:=1) (d:=some 10) rfl rfl (by kernel_rfl) (fun _ _ _ h=>h) (by rfl) (by intro _ h;(try dsimp only at h);go_split_ands;go_simp<;>with_reducible rfl) hHeld0 ?_
  try simp only [aS,aN,aT,a0,a1]
  refine tk (i:=2) (d:=some 11) rfl rfl (by kernel_rfl) (fun _ _ _ h=>h) (by rfl) (by intro _ h;(try dsimp only at h);go_split_ands;go_simp<;>with_reducible rfl) hHeld0 ?_
  try simp only [aS,aN,aT,a0,a1]
  refine tk (i:=3) (d:=some 12) rfl rfl (by kernel_rfl) (fun _ _ _ h=>h) (by rfl) (by intro _ h;(try dsimp only at h);go_split_ands;go_simp<;>with_reducible rfl) hHeld0 ?_
  try simp only [aS,aN,aT,a0,a1]
  refine tk (i:=4) (d:=some 13) rfl rfl (by kernel_rfl) (fun _ _ _ h=>h) (by rfl) (by intro _ h;(try dsimp only at h);go_split_ands;go_simp<;>with_reducible rfl) hHeld0 ?_
  try simp only [aS,aN,aT,a0,a1]
  refine tk (i:=5) (d:=some 14) rfl rfl (by kernel_rfl) (fun _ _ _ h=>h) (by rfl) (by intro _ h;(try dsimp only at h);go_split_ands;go_simp<;>with_reducible rfl) hHeld0 ?_
  try simp only [aS,aN,aT,a0,a1]
  refine tk (i:=6) (d:=some 15) rfl rfl (by kernel_rfl) (fun _ _ _ h=>h) (by rfl) (by intro _ h;(try dsimp only at h);go_split_ands;go_simp<;>with_reducible rfl) hHeld0 ?_
  try simp only [aS,aN,aT,a0,a1]
  refine rd1 (i:=7) (by kernel_rfl) rfl fun K hK=>?_
  go_simp
  go_at_call 136
  refine (HH.out.y.useY HB.out.drew (fun X wx w H=>mnew_no 1 X wx w0 g h qs a c ia w H HF.out.1 HF.out.2)).mono ?_
  rintro e w1 ⟨rfl,H1,K1⟩
  exact ⟨rfl,did_fin (s:=0) (hs_over HS.out) rfl H1.x.less.rs⟩
 | false =>
  have e1:h.new ia=h.mk' ia:=by unfold Hp.new Hp.mk';rw [if_neg (by rw [hf];decide)]
  have e5:h.newV=⟨3,(h.objs.length:Nat)⟩:=by unfold Hp.newV;rw [if_neg (by rw [hf];decide)]
  have hs2:(h.mk' ia).stops=false:=hs
  rw [e1,e5,if_neg (by rw [hs2];decide)]
  have HF:=hid hf
  have HR:Hid (∀X wx w,RX 1 X wx w0 g w h qs a c→Calls Try.prog 136 #[.pointer (some ⟨g.hb,0,none⟩),.int .i64 ia] w fun e w'=>e=.returned (mvV (im ⟨3,(h.objs.length:Nat)⟩))∧RX 1 X wx w0 g w' (h.mk' ia) qs a c):=fun X wx w H=>mnew_yes 1 X wx w0 g h qs a c ia w H hf
  obtain ⟨E,hE⟩:∃E,(if (sizP ((c).stk++[(⟨3,(h.objs.length:Nat)⟩:Va)]):Int)≤(c).m.stack then Ending.returned (.tuple #[]) else stopE 6 0 0)=E:=⟨_,rfl⟩
  have HP:Hid (∀X wx w,RX 1 X wx w0 g w (h.mk' ia) qs a (c)→Calls Try.prog 95 #[.pointer (some ⟨a.q,0,none⟩),mvV (im (⟨3,(h.objs.length:Nat)⟩:Va))] w fun e w2=>e=E∧RX 1 X wx w0 g w2 (h.mk' ia) qs a ((c).put (⟨3,(h.objs.length:Nat)⟩:Va))):=fun X wx w H=>hE▸mput_any 1 X wx w0 g (h.mk' ia) qs a (c) (⟨3,(h.objs.length:Nat)⟩:Va) w H (show (1:Int)≤3∧(3:Int)≤3 from by decide) (hl)
  have HE:Hid (∀w',RX 1 X wx w0 g w' (h.mk' ia) qs a ((c).put (⟨3,(h.objs.length:Nat)⟩:Va))→DidQ X wx w0 g qs a c ⟨((h.mk' ia)).putH (c) (⟨3,(h.objs.length:Nat)⟩:Va),(c).put (⟨3,(h.objs.length:Nat)⟩:Va),c.pc+1⟩ E w'):=fun w' H=>did_put hs2 rfl ⟨rfl,rfl⟩ hE.symm H.less
  have hE2:E=.returned (.tuple #[])∨E=stopE 6 0 0:=by rw [←hE];split;exact Or.inl rfl;exact Or.inr rfl
  clear hE
  generalize im (⟨3,(h.objs.length:Nat)⟩:Va)=V at HR HP
  clear H hs hd em e1 e2 e3 e5 eg ev hf hs2
  rcases hE2 with rfl|rfl
  ·go_enter Try.func121,Try.ntmps121
   go_wp2
   refine wp_region_held_drew (S:=fun w'=>w'.cell? ⟨a.q,0,none⟩=some (.pointer (some ⟨g.hb,0,none⟩))∧w'.cell? ⟨w.heap.size,1,none⟩=some (.int .i64 ia)) (by kernel_rfl) ?_ (fun hHeld0=>?_)
   ·exact ⟨z0.out,z1.out⟩
   refine tk (i:=0) (d:=some 9) rfl rfl (by kernel_rfl) (fun _ _ _ h=>h) (by rfl) (by intro _ h;(try dsimp only at h);go_split_ands;go_simp<;>with_reducible rfl) hHeld0 ?_
   try simp only [aS,aN,aT,a0,a1]
   refine tk (i:=1) (d:=some 10) rfl rfl (by kernel_rfl) (fun _ _ _ h=>h) (by rfl) (by intro _ h;(try dsimp only at h);go_split_ands;go_simp<;>with_reducible rfl) hHeld0 ?_
   try simp only [aS,aN,aT,a0,a1]
   refine tk (i:=2) (d:=some 11) rfl rfl (by kernel_rfl) (fun _ _ _ h=>h) (by rfl) (by intro _ h;(try dsimp only at h);go_split_ands;go_simp<;>with_reducible rfl) hHeld0 ?_
   try simp only [aS,aN,aT,a0,a1]
   refine tk (i:=3) (d:=some 12) rfl rfl (by kernel_rfl) (fun _ _ _ h=>h) (by rfl) (by intro _ h;(try dsimp only at h);go_split_ands;go_simp<;>with_reducible rfl) hHeld0 ?_
   try simp only [aS,aN,aT,a0,a1]
   refine tk (i:=4) (d:=some 13) rfl rfl (by kernel_rfl) (fun _ _ _ h=>h) (by rfl) (by intro _ h;(try dsimp only at h);go_split_ands;go_simp<;>with_reducible rfl) hHeld0 ?_
   try simp only [aS,aN,aT,a0,a1]
   refine tk (i:=5) (d:=some 14) rfl rfl (by kernel_rfl) (fun _ _ _ h=>h) (by rfl) (by intro _ h;(try dsimp only at h);go_split_ands;go_simp<;>with_reducible rfl) hHeld0 ?_
   try simp only [aS,aN,aT,a0,a1]
   refine tk (i:=6) (d:=some 15) rfl rfl (by kernel_rfl) (fun _ _ _ h=>h) (by rfl) (by intro _ h;(try dsimp only at h);go_split_ands;go_simp<;>with_reducible rfl) hHeld0 ?_
   try simp only [aS,aN,aT,a0,a1]
   refine rd1 (i:=7) (by kernel_rfl) rfl fun K hK=>?_
   go_simp
   go_at_call 136
   refine (HH.out.y.useY HB.out.drew HR.out).mono ?_
   rintro e w1 ⟨rfl,H1,K1⟩
   have bxK1:=K1.at (Xp.new (Nat.le_refl _) (lt_w1 w _)) HL.out
   have K1a:=hid H1.hb
   have K1b:=hid (ins_of bxK1).1
   replace bxK1:=hid bxK1
   replace H1:=hid H1
   go_wp2_with fail
   refine hK.out _ _ (⟨K1a.out,K1b.out⟩) (fun hHeld1=>?_)
   try simp only [aS,aN,aT,a0,a1]
   refine rd1 (i:=8) (by kernel_rfl) rfl fun K hK=>?_
   go_simp
   go_at_call 95
   refine (H1.out.useY (Bl.refl _) HP.out).mono ?_
   rintro e w2 ⟨rfl,HX,KX⟩
   have bxX:=KX.at (Xp.old (Xp.new (Nat.le_refl _) (lt_w1 w _))) bxK1.out
   have Xa:=hid HX.hb
   have Xb:=hid (ins_of bxX).1
   replace HX:=hid HX
   go_wp2_with fail
   refine hK.out _ _ (⟨Xa.out,Xb.out⟩) (fun hHeld2=>?_)
   try simp only [aS,aN,aT,a0,a1]
   refine wpAnyH_done (by kernel_rfl) ?_ _
   go_wp2
   go_end0
   exact HE.out _ HX.out.x
  ·go_enter Try.func121,Try.ntmps121
   go_wp2
   refine wp_region_held_drew (S:=fun w'=>w'.cell? ⟨a.q,0,none⟩=some (.pointer (some ⟨g.hb,0,none⟩))∧w'.cell? ⟨w.heap.size,1,none⟩=some (.int .i64 ia)) (by kernel_rfl) ?_ (fun hHeld0=>?_)
   ·exact ⟨z0.out,z1.out⟩
   refine tk (i:=0) (d:=some 9) rfl rfl (by kernel_rfl) (fun _ _ _ h=>h) (by rfl) (by intro _ h;(try dsimp only at h);go_split_ands;go_simp<;>with_reducible rfl) hHeld0 ?_
   try simp only [aS,aN,aT,a0,a1]
   refine tk (i:=1) (d:=some 10) rfl rfl (by kernel_rfl) (fun _ _ _ h=>h) (by rfl) (by intro _ h;(try dsimp only at h);go_split_ands;go_simp<;>with_reducible rfl) hHeld0 ?_
   try simp only [aS,aN,aT,a0,a1]
   refine tk (i:=2) (d:=some 11) rfl rfl (by kernel_rfl) (fun _ _ _ h=>h) (by rfl) (by intro _ h;(try dsimp only at h);go_split_ands;go_simp<;>with_reducible rfl) hHeld0 ?_
   try simp only [aS,aN,aT,a0,a1]
   refine tk (i:=3) (d:=some 12) rfl rfl (by kernel_rfl) (fun _ _ _ h=>h) (by rfl) (by intro _ h;(try dsimp only at h);go_split_ands;go_simp<;>with_reducible rfl) hHeld0 ?_
   try simp only [aS,aN,aT,a0,a1]
   refine tk (i:=4) (d:=some 13) rfl rfl (by kernel_rfl) (fun _ _ _ h=>h) (by rfl) (by intro _ h;(try dsimp only at h);go_split_ands;go_simp<;>with_reducible rfl) hHeld0 ?_
   try simp only [aS,aN,aT,a0,a1]
   refine tk (i:=5) (d:=some 14) rfl rfl (by kernel_rfl) (fun _ _ _ h=>h) (by rfl) (by intro _ h;(try dsimp only at h);go_split_ands;go_simp<;>with_reducible rfl) hHeld0 ?_
   try simp only [aS,aN,aT,a0,a1]
   refine tk (i:=6) (d:=some 15) rfl rfl (by kernel_rfl) (fun _ _ _ h=>h) (by rfl) (by intro _ h;(try dsimp only at h);go_split_ands;go_simp<;>with_reducible rfl) hHeld0 ?_
   try simp only [aS,aN,aT,a0,a1]
   refine rd1 (i:=7) (by kernel_rfl) rfl fun K hK=>?_
   go_simp
   go_at_call 136
   refine (HH.out.y.useY HB.out.drew HR.out).mono ?_
   rintro e w1 ⟨rfl,H1,K1⟩
   have bxK1:=K1.at (Xp.new (Nat.le_refl _) (lt_w1 w _)) HL.out
   have K1a:=hid H1.hb
   have K1b:=hid (ins_of bxK1).1
   replace bxK1:=hid bxK1
   replace H1:=hid H1
   go_wp2_with fail
   refine hK.out _ _ (⟨K1a.out,K1b.out⟩) (fun hHeld1=>?_)
   try simp only [aS,aN,aT,a0,a1]
   refine rd1 (i:=8) (by kernel_rfl) rfl fun K hK=>?_
   go_simp
   go_at_call 95
   refine (H1.out.useY (Bl.refl _) HP.out).mono ?_
   rintro e wx' ⟨rfl,HX,KX⟩
   exact ⟨rfl,HE.out _ HX.x⟩
end
end Go.Proofs.Ytgiiapenmjollaa
