import Derived.Test.YtimjmdfokicbkaaSlaj
import Derived.Test.YtimjmdfokicbkaaSlap
import Derived.Deep.RegionLaw
namespace Go.Proofs.Ytimjmdfokicbkaa
set_option linter.unusedVariables false
set_option linter.unusedSimpArgs false
set_option maxHeartbeats 40000000
open Go.RowKit
section
open Go.Maps (Keyed has)
theorem info_i641:(Try.prog.info? 2).map (fun i=>(i.zero,i.size,i.bytes))=some (some (.int .i64 0),1,8):=by kernel_rfl
theorem RH.runCells {s:Nat} {w0 w:World} {g:Mg} {h:Hp} {qs:List Nat} {vc vo vx:Value} (H:RH s w0 g w h qs vc vo vx) :
  w.cell? ⟨g.r,0,none⟩=some (.pointer (some ⟨g.hb,0,none⟩))∧w.cell? ⟨g.r,1,none⟩=some (.slice g.M h.file.methods.length g.m)∧w.cell? ⟨g.r,2,none⟩=some (.func (.func 51) #[] #[])∧w.cell? ⟨g.r,3,none⟩=some vc
  ∧ w.cell? ⟨g.r,4,none⟩=some (.slice g.I h.input.length g.i)∧w.cell? ⟨g.r,5,none⟩=some (.int .i64 h.fuel)∧w.cell? ⟨g.r,6,none⟩=some (.int .i64 h.sh.steps)∧w.cell? ⟨g.r,7,none⟩=some (.int .i64 h.sh.used)∧w.cell? ⟨g.r,8,none⟩=some vx:=by
 refine ⟨?_,?_,?_,?_,?_,?_,?_,?_,?_⟩<;>(rw [cell_blk H.run];rfl)
def Hp.outs (h:Hp) (n:Int):Hp:={ h with sh:={ h.sh with out:=h.sh.out++[n] } }
def Hp.uses (h:Hp):Hp:={ h with sh:={ h.sh with used:=h.sh.used+1 } }
theorem RXA.emit {s:Nat} {X:Nat→Prop} {wx w0 w w2:World} {g:Mg} {h:Hp} {qs:List Nat} {a:Mc} {c:Cal} {vc vo vx vs v':Value} {l:List Va} (H:RXA s X wx w0 g w h qs a c vc vo vx vs l) (hg:w.grownBy w2 vx.ownBlock) {k:Int}
  (ho:w2.ownsRow w0.heap.size 2 1 v' (h.sh.out.length+1) (h.sh.out.map (Value.int .i64)++[.int .i64 k])) (hat:v'.ownBlock=vx.ownBlock∨∀b,v'.ownBlock=some b→w.heap.size≤b) :
  RXA s X wx w0 g (w2.setCell ⟨g.r,8,none⟩ v') (h.outs k) qs a c vc vo v' vs l:=by
 have R:=H.rh
 obtain ⟨n,D,F⟩:=R.fld
 obtain ⟨fr,fh,fm,fc,fo,fx⟩:=H.ca.farC R
 have hrow:∀b,vx.ownBlock=some b→w0.heap.size≤b:=fun b e=>(R.out.lt b e).1
 have n1:vx.ownBlock≠some g.r:=own_far R.out R.run (by decide)
 have n2:vx.ownBlock≠some g.hb:=own_far R.out R.hp (by decide)
 have n3:vx.ownBlock≠some g.mp:=map_row R.out F.own
 have hr2:=grown_blk hg R.run n1
 have hg2:=grown_set (w:=w2) g.r 8 v'
 have nrh:(some g.r:Option Nat)≠some g.hb:=fun e=>blk_ne R.hp R.run (by decide) (Option.some.inj e).symm
 have nrm:g.r≠g.mp:=map_ne R.run F.own
 have hne:∀(vv:Value) {b e sz nn xs},w.ownsRow b e sz vv nn xs→e≠2→vv.ownBlock=none∨vv.ownBlock≠vx.ownBlock:=fun vv b e sz nn xs hr he=>row_ne hr R.out he
 have C2:=H.ca.kept hg (fun b e=>fx b e)
 have far':∀b,X b→FarR g vc vo v' b:=fun b hx=>⟨(H.farr b hx).r,(H.farr b hx).h,(H.farr b hx).m,(H.farr b hx).c,(H.farr b hx).o,fun e=>by
  rcases hat with q|q
  ·rw [q] at e;exact (H.farr b hx).x e
  ·have:=q b e;have:=(H.kept.blk b hx).1;have:=H.kept.size;omega⟩
 refine ⟨⟨R.ownr,R.ownh,R.ownm,?_,?_,?_,?_,?_,?_,n,D,?_⟩,?_,far',H.farc,?_⟩
 ·exact Below.setCell (Below.grown R.bl hg R.bl.size hrow) R.ownr _
 ·rw [block_set hr2];rfl
 ·exact grown_blk hg2 (grown_blk hg R.hp n2) nrh
 ·have:=ho.kept hg2 (Or.inr (own_far ho hr2 (by decide)))
  simpa [Hp.outs] using this
 ·exact (R.obs.kept hg (hne vo R.obs (by decide))).kept hg2 (Or.inr (own_far (R.obs.kept hg (hne vo R.obs (by decide))) hr2 (by decide)))
 ·exact (R.calls.kept hg (hne vc R.calls (by decide))).kept hg2 (Or.inr (own_far (R.calls.kept hg (hne vc R.calls (by decide))) hr2 (by decide)))
 ·exact ⟨(F.own.kept hg (fun e=>n3 e.symm)).kept hg2 (fun e=>nrm (Option.some.inj e).symm),F.few,F.hit,F.miss,F.new,F.ks,F.kd⟩
 ·exact C2.kept hg2 (fun b e=>by cases e;exact ⟨fr.q,fr.l,fr.s⟩)
 ·exact (H.kept.kept hg (fun b e hx=>(H.farr b hx).x e)).kept hg2 (fun b e hx=>by cases e;exact (H.farr _ hx).r rfl)
theorem RXA.setr {s s':Nat} {X:Nat→Prop} {wx w0 w:World} {g:Mg} {h h':Hp} {qs:List Nat} {a:Mc} {c:Cal} {vc vo vx vs v':Value} {l:List Va} (H:RXA s X wx w0 g w h qs a c vc vo vx vs l) {i:Nat} (hrow:(runRow g h vc vx).setIfInBounds i v'=runRow g h' vc vx)
  (e1:h'.file=h.file) (e2:h'.objs=h.objs) (e3:h'.sh.out=h.sh.out) (e4:h.sh.steps-s≤h'.sh.steps-s'):RXA s' X wx w0 g (w.setCell ⟨g.r,i,none⟩ v') h' qs a c vc vo vx vs l:=by
 have R:=H.rh
 obtain ⟨n,D,F⟩:=R.fld
 obtain ⟨fr,-⟩:=H.ca.farC R
 have hg2:=grown_set (w:=w) g.r i v'
 have nrh:(some g.r:Option Nat)≠some g.hb:=fun e=>blk_ne R.hp R.run (by decide) (Option.some.inj e).symm
 have nrm:g.r≠g.mp:=map_ne R.run F.own
 have r2:heapRow g h' vo=heapRow g h vo:=by unfold heapRow;rw [e1]
 refine ⟨⟨R.ownr,R.ownh,R.ownm,Below.setCell R.bl R.ownr _,?_,?_,?_,?_,?_,n,D,?_⟩,H.ca.kept hg2 (fun b e=>by cases e;exact fr),H.farr,H.farc,H.kept.kept hg2 (fun b e hx=>by cases e;exact (H.farr _ hx).r rfl)⟩
 ·rw [block_set R.run,hrow]
 ·rw [r2];exact grown_blk hg2 R.hp nrh
 ·rw [e3];exact R.out.kept hg2 (Or.inr (own_far R.out R.run (by decide)))
 ·rw [e2];exact R.obs.kept hg2 (Or.inr (own_far R.obs R.run (by decide)))
 ·exact R.calls.kept hg2 (Or.inr (own_far R.calls R.run (by decide)))
 ·exact ⟨F.own.kept hg2 (fun e=>nrm (Option.some.inj e).symm),by have:=F.few;omega,by rw [e2];exact F.hit,by rw [e2,e1];exact F.miss,by rw [e2];exact F.new,by rw [e2,e1];exact F.ks,by rw [e2,e1];exact F.kd⟩
set_option maxRecDepth 100000 in
theorem memit_any (s:Nat) (X:Nat→Prop) (wx w0:World) (g:Mg) (h:Hp) (qs:List Nat) (a:Mc) (c:Cal) (v:Va) (w:World) (H:RX s X wx w0 g w h qs a c) (ho:h.sh.out.length≤100000) :
  Calls Try.prog 117 #[.pointer (some ⟨g.r,0,none⟩),mvV v] w fun e w'=>e=.returned (.tuple #[])∧RX s X wx w0 g w' (h.outs v.n) qs a c:=by
 obtain ⟨i0,hi0,hz0,hz1,hz2⟩:=info_parts info_i641
 have hbs:=H.size
 obtain ⟨vc,vo,vx,vs,l,H⟩:=H
 obtain ⟨A,cap,hvx,h1,h2⟩:=own_form H.rh.out
 subst hvx
 have HH:=hid (H.bl ((Bl.refl w).alloc (mvO v)))
 have HL:=hid (blk_new w #[.int .i64 v.kind,.int .i64 v.n] 110)
 have x1:=c1_of HL.out
 have HX1:=H.rh.out
 have c8:=HH.out.rh.runCells.2.2.2.2.2.2.2.2
 have fz:=free_blk HH.out.rh.run 8
 have hq:=lt_some H.rh.run
 have HO:=hid HH.out.rh.out
 have HP:=hid (HH.out.rh.run)
 have HNB:Hid ((Value.slice A h.sh.out.length cap).ownBlock≠some w.heap.size):=fun e=>by have:=row_lt HX1 e;omega
 have HNH:=hid (own_far HO.out HP.out (by decide))
 clear H HX1
 go_enter Try.func117,Try.ntmps117
 go_wp2
 go_region_law ((refine step_append_lies _ (by rfl) _ _ _ (by rfl) w0.heap.size 2 i0 _ 1 8 Try.underlying38 hi0 hz0 hz1 hz2 rfl (by omega) (.slice A h.sh.out.length cap) h.sh.out.length (h.sh.out.map (Value.int .i64)) (by rfl) ((HO.out.alloc _).drew) ⟨w.heap.size+1,0,none⟩ 1 1 [.int .i64 v.n] (by rfl) (by rfl) (World.news_of_block (cs:=#[.int .i64 v.n]) (t:=2) (fr:=(0,0)) (by rw [←lt_sz w (mvO v)];exact blk_new _ _ _)) (by simp [Value.oneCell']) (by omega) (by unfold maxLen;omega) (by omega) (by simp;omega) _ rfl ?_;intro gb cp w1 hown hgrow hat hlt1;have hp2:=grown_blk hgrow ((Below.heap_alloc _ _ _ (lt_some HP.out)).trans HP.out) HNH.out;have hb2:=grown_blk hgrow ((Below.heap_alloc _ _ _ (lt_some HL.out)).trans HL.out) HNB.out;have q8:w1.cell? ⟨g.r,8,none⟩=some (.slice A h.sh.out.length cap):=(cell_blk hp2).trans rfl;have z8:=free_blk hp2 8;have y1:=c1_of hb2;have hql:=lt_some hp2;replace hown:=hid hown;replace hgrow:=hid hgrow;replace hat:=hid hat;clear hb2 hp2))
 all_goals
  go_wp2
  go_end0
  exact ⟨rfl,_,_,_,_,_,RXA.emit (HH.out.bl (((Bl.refl _).alloc _).drew)) hgrow.out hown.out (hat.out.elim (fun e=>Or.inl e.symm) (fun e=>Or.inr fun b hb=>Nat.le_of_eq (e.symm.trans (by simpa [Value.ownBlock] using hb))))⟩
set_option maxRecDepth 100000 in
theorem min_no (s:Nat) (X:Nat→Prop) (wx w0:World) (g:Mg) (h:Hp) (qs:List Nat) (a:Mc) (c:Cal) (w:World) (H:RX s X wx w0 g w h qs a c) (hd:h.dry=true) :
  Calls Try.prog 118 #[.pointer (some ⟨g.r,0,none⟩)] w fun e w'=>e=stopE 3 0 0∧RX s X wx w0 g w' h qs a c:=by
 have HH:=hid H
 obtain ⟨vc,vo,vx,vs,l,H⟩:=H
 have c4:=H.rh.runCells.2.2.2.2.1
 have c7:=H.rh.runCells.2.2.2.2.2.2.2.1
 have hq:=lt_some H.rh.run
 have hge:(h.input.length:Int)≤h.sh.used:=of_decide_eq_true hd
 clear H hd
 go_enter Try.func118,Try.ntmps118
 go_wp2
 go_quiet (fail)
 go_wp2_with (go_at_call 97;refine (mend_any 3 _).mono ?_;rintro e w1 ⟨rfl,hw⟩;rw [hw];clear hw w1)
 exact ⟨rfl,rfl,HH.out.bl (bl_drewN ((Bl.refl w).alloc _) _)⟩
set_option maxRecDepth 100000 in
theorem min_yes (s:Nat) (X:Nat→Prop) (wx w0:World) (g:Mg) (h:Hp) (qs:List Nat) (a:Mc) (c:Cal) (w:World) (H:RX s X wx w0 g w h qs a c) (hI:IntsAt w0 g.I h.input) (hd:h.dry=false) (hu:0≤h.sh.used) (hl:h.input.length≤1000000) :
  Calls Try.prog 118 #[.pointer (some ⟨g.r,0,none⟩)] w fun e w'=>e=.returned (mvV ⟨2,nth (0:Int) h.input h.sh.used.toNat⟩)∧RX s X wx w0 g w' h.uses qs a c:=by
 have hlt:h.sh.used<(h.input.length:Int):=by have:=of_decide_eq_false hd;omega
 obtain ⟨u,hu'⟩:∃u:Nat,h.sh.used=u:=⟨h.sh.used.toNat,by omega⟩
 have hul:u<h.input.length:=by omega
 rcases hI.2 with h0|⟨ib,io,hI',hic⟩
 ·omega
 have hx:=(hic u hul).1
 have e1:h.sh.used.toNat=u:=by omega
 rw [e1]
 have hbs:=H.size
 obtain ⟨vc,vo,vx,vs,l,H⟩:=H
 have HH:=hid (H.bl ((Bl.refl w).alloc mvZ))
 have HL:=hid (blk_new w #[.int .i64 0,.int .i64 0] 110)
 have c4:=H.rh.runCells.2.2.2.2.1
 have c7:=H.rh.runCells.2.2.2.2.2.2.2.1
 have fz:=free_blk H.rh.run
 have hq:=lt_some H.rh.run
 have xi:=Bl.cell H.rh.bl hx
 have hib:=cell_lt xi
 have hibr:ib≠g.r:=by have h1:=cell_lt hx;have h2:=H.rh.ownr;omega
 have HHR:Hid (∀nq,RXA s X wx w0 g (((w.alloc mvZ).drewN nq).setCell ⟨g.r,7,none⟩ (.int .i64 ((u:Int)+1))) h.uses qs a c vc vo vx vs l):=fun nq=>RXA.setr (HH.out.bl (bl_drewN (Bl.refl _) nq)) (by unfold runRow Hp.uses;simp [hu']) rfl rfl rfl (Int.le_refl _)
 have hqr:g.r≠w.heap.size:=by omega
 rw [hI'] at c4
 rw [hu'] at c7 hlt
 have hu0:(0:Int)≤(u:Int):=by omega
 have hlt':(u:Int)<(h.input.length:Int):=by omega
 have hs1:((u:Int)+1-1)=(u:Int):=by omega
 have hw1:IntKind.i64.wrap (u:Int)=(u:Int):=by rw [IntKind.wrap_i64];omega
 have HFar:=hid (H.rh.farNew (Nat.le_refl _))
 have HFac:=hid (H.ca.farNew (Nat.le_refl _))
 have HFx:Hid (¬X w.heap.size):=fun hx=>by have:=(H.kept.blk _ hx).1;have:=H.kept.size;omega
 have HX0:=hid hx
 have HU:=hid hu'
 have HI:=hid hI'
 clear H hd hu hic hx hI hu' e1 hI'
 generalize nth (0:Int) h.input u=V at *
 go_enter Try.func118,Try.ntmps118
 go_wp2
 go_quiet (fail)
 go_wp2
 have HA:=HHR.out nq
 have b0:(((w.alloc mvZ).drewN nq).setCell ⟨g.r,7,none⟩ (.int .i64 ((u:Int)+1))).heap[w.heap.size]?=some (.cells #[.int .i64 0,.int .i64 0] 110 (0,0)):=block_far' HL.out (fun e=>hqr e.symm) _
 generalize (((w.alloc mvZ).drewN nq).setCell ⟨g.r,7,none⟩ (.int .i64 ((u:Int)+1)))=W at *
 have k4:=HA.rh.runCells.2.2.2.2.1
 have k7:=HA.rh.runCells.2.2.2.2.2.2.2.1
 have ki:=Bl.cell HA.rh.bl HX0.out
 have e7:h.uses.sh.used=(u:Int)+1:=by unfold Hp.uses;dsimp only;rw [HU.out]
 have e4:h.uses.input=h.input:=rfl
 rw [e7] at k7
 rw [e4,HI.out] at k4
 have hwl:=lt_some b0
 have n1:w.heap.size≠g.r:=fun e=>hqr e.symm
 have n2:w.heap.size≠ib:=by omega
 replace HA:=hid HA
 replace b0:=hid b0
 clear HHR e7 e4
 go_region_held3 (fun w'=>w'.cell? ⟨g.r,4,none⟩=some (.slice (some ⟨ib,io,none⟩) h.input.length g.i)∧w'.cell? ⟨g.r,7,none⟩=some (.int .i64 ((u:Int)+1))∧w'.cell? ⟨ib,io+u,none⟩=some (.int .i64 V))
  (go_keep)
  (first
   | (go_at_call 98;refine (mlong_any V _).mono ?_;rintro e w2 ⟨rfl,b2⟩;have d4:=b2.cell k4;have d7:=b2.cell k7;have di:=b2.cell ki;have q0:=bl_blk b2 b0.out;have r0:=c0_of q0;have r1:=c1_of q0;have rz:=free_blk q0;replace b2:=hid b2;replace q0:=hid q0))
 go_wp2
 refine bodyPost_ret (results_cell_row rfl _ _ w.heap.size _ _ _ _ rfl (set_two q0.out) Try.underlying110 rfl info_mv) rfl ?_
 refine ⟨rfl,RXY.x (RXY.set (Y:=fun b=>b=w.heap.size) (b:=w.heap.size) (RXY.set (Y:=fun b=>b=w.heap.size) (b:=w.heap.size) ⟨vc,vo,vx,vs,l,HA.out.bl ((Bl.refl _).drew.trans b2.out),fun b hb=>?_⟩ rfl 0 _) rfl 1 _)⟩
 subst hb
 exact ⟨lt_some q0.out,hbs,HFx.out,HFar.out,HFac.out⟩
end
section
open Go.Maps (Keyed has)
theorem gives_const {h:Hp} {c:Cal} {i:In} (hs:h.stops=false) (hop:i.op=1∨i.op=2∨i.op=3):doesP h c i=⟨h.putH c (givesV h va0 va0 i),c.put (givesV h va0 va0 i),c.pc+1⟩:=by
 have ho:h.over=false:=by unfold Hp.stops at hs;rw [Bool.or_eq_false_iff] at hs;exact hs.1
 have e1:manyOf i.op=0:=by unfold manyOf;rw [if_neg (by omega),if_neg (by omega)]
 have e2:c.cut 0=c:=by unfold Cal.cut;simp
 have e3:h.must (c.has 0)=h:=by unfold Hp.must Cal.has;simp
 have e4:∀x y,givesH h x y i=h:=by
  intro x y
  unfold givesH
  rw [if_neg (by rw [ho];decide)]
  rw [if_neg (by omega),if_neg (by omega),if_neg (by omega),if_neg (by omega),if_neg (by omega),if_neg (by omega),if_neg (by omega),if_neg (by omega),if_neg (by omega),if_pos hop]
 have e5:∀x y,givesV h x y i=givesV h va0 va0 i:=by
  intro x y
  unfold givesV
  rcases hop with q|q|q<;>simp [q,ho]
 unfold doesP
 rw [if_neg (by omega),if_neg (by omega),if_neg (by omega),if_neg (by omega),if_neg (by omega),if_neg (by omega),if_neg (by omega),if_neg (by omega),if_neg (by omega),if_neg (by omega)]
 unfold givesP
 dsimp only
 rw [e1,e3,e4,e2,if_neg (by rw [hs];decide),e5]
set_option maxRecDepth 100000 in
theorem work_op1 (X:Nat→Prop) (wx w0:World) (g:Mg) (h:Hp) (qs:List Nat) (a:Mc) (c:Cal) (ia ib ic ii:Int) (args:List Int) (Q:Option Addr) (nl q:Nat) (w:World) (H:RX 1 X wx w0 g w h qs a c) (hs:h.stops=false) (hl:c.stk.length≤1000) :
  Calls Try.prog 93 #[.pointer (some ⟨a.q,0,none⟩),.agg #[.int .i64 1,.int .i64 ia,.int .i64 ib,.int .i64 ic,.int .i64 ii,.slice Q nl q]] w fun e w'=>DidQ X wx w0 g qs a c (doesP h c ⟨1,ia,ib,ic,ii,args⟩) e w':=by
 have hv:givesV h va0 va0 ⟨1,ia,ib,ic,ii,args⟩=⟨1,ii⟩:=by
  have ho:h.over=false:=by unfold Hp.stops at hs;rw [Bool.or_eq_false_iff] at hs;exact hs.1
  unfold givesV
  rw [if_neg (by rw [ho];decide)]
  simp
 rw [gives_const hs (by simp),hv]
 obtain ⟨E,hE⟩:∃E,(if (sizP ((c).stk++[(⟨1,ii⟩:Va)]):Int)≤(c).m.stack then Ending.returned (.tuple #[]) else stopE 6 0 0)=E:=⟨_,rfl⟩
 have HP:Hid (∀X wx w,RX 1 X wx w0 g w h qs a (c)→Calls Try.prog 94 #[.pointer (some ⟨a.q,0,none⟩),mvV (im (⟨1,ii⟩:Va))] w fun e w2=>e=E∧RX 1 X wx w0 g w2 h qs a ((c).put (⟨1,ii⟩:Va))):=fun X wx w H=>hE▸mput_any 1 X wx w0 g h qs a (c) (⟨1,ii⟩:Va) w H (show (1:Int)≤1∧(1:Int)≤3 from by decide) (hl)
 have HE:Hid (∀w',RX 1 X wx w0 g w' h qs a ((c).put (⟨1,ii⟩:Va))→DidQ X wx w0 g qs a c ⟨(h).putH (c) (⟨1,ii⟩:Va),(c).put (⟨1,ii⟩:Va),c.pc+1⟩ E w'):=fun w' H=>did_put hs rfl ⟨rfl,rfl⟩ hE.symm H.less
 have hE2:E=.returned (.tuple #[])∨E=stopE 6 0 0:=by rw [←hE];split;exact Or.inl rfl;exact Or.inr rfl
 clear hE
 have HIM:Hid (im (⟨1,ii⟩:Va)=⟨1,ii⟩):=by rfl
 rw [HIM.out] at HP
 have HH:=hid H
 have HB:Hid (Bl w (w.alloc (.cells #[.int .i64 1,.int .i64 ia,.int .i64 ib,.int .i64 ic,.int .i64 ii,.slice Q nl q] 51))):=(Bl.refl w).alloc _
 clear H hv hs
 rcases hE2 with rfl|rfl
 ·go_enter Try.func93,Try.ntmps93
  go_wp2_with (first
   | (go_at_call 99;refine (mint_any ii _).mono ?_;rintro e w1 ⟨rfl,b1⟩;replace b1:=hid b1)
   | (go_at_call 94;refine (HH.out.y.useY (HB.out.trans b1.out) HP.out).mono ?_;rintro e w2 ⟨rfl,H2,K2⟩;replace H2:=hid H2;clear K2))
  go_end0
  exact HE.out _ H2.out.x
 ·go_enter Try.func93,Try.ntmps93
  go_wp2_with (first
   | (go_at_call 99;refine (mint_any ii _).mono ?_;rintro e w1 ⟨rfl,b1⟩;replace b1:=hid b1)
   | (go_at_call 94;refine (HH.out.y.useY (HB.out.trans b1.out) HP.out).mono ?_;rintro e w2 ⟨rfl,H2,K2⟩;replace H2:=hid H2;clear K2))
  exact ⟨rfl,HE.out _ H2.out.x⟩
set_option maxRecDepth 100000 in
theorem work_op2 (X:Nat→Prop) (wx w0:World) (g:Mg) (h:Hp) (qs:List Nat) (a:Mc) (c:Cal) (ia ib ic ii:Int) (args:List Int) (Q:Option Addr) (nl q:Nat) (w:World) (H:RX 1 X wx w0 g w h qs a c) (hs:h.stops=false) (hl:c.stk.length≤1000) :
  Calls Try.prog 93 #[.pointer (some ⟨a.q,0,none⟩),.agg #[.int .i64 2,.int .i64 ia,.int .i64 ib,.int .i64 ic,.int .i64 ii,.slice Q nl q]] w fun e w'=>DidQ X wx w0 g qs a c (doesP h c ⟨2,ia,ib,ic,ii,args⟩) e w':=by
 have hv:givesV h va0 va0 ⟨2,ia,ib,ic,ii,args⟩=⟨2,ii⟩:=by
  have ho:h.over=false:=by unfold Hp.stops at hs;rw [Bool.or_eq_false_iff] at hs;exact hs.1
  unfold givesV
  rw [if_neg (by rw [ho];decide)]
  simp
 rw [gives_const hs (by simp),hv]
 obtain ⟨E,hE⟩:∃E,(if (sizP ((c).stk++[(⟨2,ii⟩:Va)]):Int)≤(c).m.stack then Ending.returned (.tuple #[]) else stopE 6 0 0)=E:=⟨_,rfl⟩
 have HP:Hid (∀X wx w,RX 1 X wx w0 g w h qs a (c)→Calls Try.prog 94 #[.pointer (some ⟨a.q,0,none⟩),mvV (im (⟨2,ii⟩:Va))] w fun e w2=>e=E∧RX 1 X wx w0 g w2 h qs a ((c).put (⟨2,ii⟩:Va))):=fun X wx w H=>hE▸mput_any 1 X wx w0 g h qs a (c) (⟨2,ii⟩:Va) w H (show (1:Int)≤2∧(2:Int)≤3 from by decide) (hl)
 have HE:Hid (∀w',RX 1 X wx w0 g w' h qs a ((c).put (⟨2,ii⟩:Va))→DidQ X wx w0 g qs a c ⟨(h).putH (c) (⟨2,ii⟩:Va),(c).put (⟨2,ii⟩:Va),c.pc+1⟩ E w'):=fun w' H=>did_put hs rfl ⟨rfl,rfl⟩ hE.symm H.less
 have hE2:E=.returned (.tuple #[])∨E=stopE 6 0 0:=by rw [←hE];split;exact Or.inl rfl;exact Or.inr rfl
 clear hE
 have HIM:Hid (im (⟨2,ii⟩:Va)=⟨2,ii⟩):=by rfl
 rw [HIM.out] at HP
 have HH:=hid H
 have HB:Hid (Bl w (w.alloc (.cells #[.int .i64 2,.int .i64 ia,.int .i64 ib,.int .i64 ic,.int .i64 ii,.slice Q nl q] 51))):=(Bl.refl w).alloc _
 clear H hv hs
 rcases hE2 with rfl|rfl
 ·go_enter Try.func93,Try.ntmps93
  go_wp2_with (first
   | (go_at_call 98;refine (mlong_any ii _).mono ?_;rintro e w1 ⟨rfl,b1⟩;replace b1:=hid b1)
   | (go_at_call 94;refine (HH.out.y.useY (HB.out.trans b1.out) HP.out).mono ?_;rintro e w2 ⟨rfl,H2,K2⟩;replace H2:=hid H2;clear K2))
  go_end0
  exact HE.out _ H2.out.x
 ·go_enter Try.func93,Try.ntmps93
  go_wp2_with (first
   | (go_at_call 98;refine (mlong_any ii _).mono ?_;rintro e w1 ⟨rfl,b1⟩;replace b1:=hid b1)
   | (go_at_call 94;refine (HH.out.y.useY (HB.out.trans b1.out) HP.out).mono ?_;rintro e w2 ⟨rfl,H2,K2⟩;replace H2:=hid H2;clear K2))
  exact ⟨rfl,HE.out _ H2.out.x⟩
set_option maxRecDepth 100000 in
theorem work_op3 (X:Nat→Prop) (wx w0:World) (g:Mg) (h:Hp) (qs:List Nat) (a:Mc) (c:Cal) (ia ib ic ii:Int) (args:List Int) (Q:Option Addr) (nl q:Nat) (w:World) (H:RX 1 X wx w0 g w h qs a c) (hs:h.stops=false) (hl:c.stk.length≤1000) :
  Calls Try.prog 93 #[.pointer (some ⟨a.q,0,none⟩),.agg #[.int .i64 3,.int .i64 ia,.int .i64 ib,.int .i64 ic,.int .i64 ii,.slice Q nl q]] w fun e w'=>DidQ X wx w0 g qs a c (doesP h c ⟨3,ia,ib,ic,ii,args⟩) e w':=by
 have hv:givesV h va0 va0 ⟨3,ia,ib,ic,ii,args⟩=⟨3,-1⟩:=by
  have ho:h.over=false:=by unfold Hp.stops at hs;rw [Bool.or_eq_false_iff] at hs;exact hs.1
  unfold givesV
  rw [if_neg (by rw [ho];decide)]
  simp
 rw [gives_const hs (by simp),hv]
 obtain ⟨E,hE⟩:∃E,(if (sizP ((c).stk++[(⟨3,-1⟩:Va)]):Int)≤(c).m.stack then Ending.returned (.tuple #[]) else stopE 6 0 0)=E:=⟨_,rfl⟩
 have HP:Hid (∀X wx w,RX 1 X wx w0 g w h qs a (c)→Calls Try.prog 94 #[.pointer (some ⟨a.q,0,none⟩),mvV (im (⟨3,-1⟩:Va))] w fun e w2=>e=E∧RX 1 X wx w0 g w2 h qs a ((c).put (⟨3,-1⟩:Va))):=fun X wx w H=>hE▸mput_any 1 X wx w0 g h qs a (c) (⟨3,-1⟩:Va) w H (show (1:Int)≤3∧(3:Int)≤3 from by decide) (hl)
 have HE:Hid (∀w',RX 1 X wx w0 g w' h qs a ((c).put (⟨3,-1⟩:Va))→DidQ X wx w0 g qs a c ⟨(h).putH (c) (⟨3,-1⟩:Va),(c).put (⟨3,-1⟩:Va),c.pc+1⟩ E w'):=fun w' H=>did_put hs rfl ⟨rfl,rfl⟩ hE.symm H.less
 have hE2:E=.returned (.tuple #[])∨E=stopE 6 0 0:=by rw [←hE];split;exact Or.inl rfl;exact Or.inr rfl
 clear hE
 have HIM:Hid (im (⟨3,-1⟩:Va)=⟨3,0⟩):=by rfl
 rw [HIM.out] at HP
 have HH:=hid H
 have HB:Hid (Bl w (w.alloc (.cells #[.int .i64 3,.int .i64 ia,.int .i64 ib,.int .i64 ic,.int .i64 ii,.slice Q nl q] 51))):=(Bl.refl w).alloc _
 clear H hv hs
 rcases hE2 with rfl|rfl
 ·go_enter Try.func93,Try.ntmps93
  go_wp2_with (first
   | (go_at_call 112;refine (nothing_any _).mono ?_;rintro e w1 ⟨rfl,b1⟩;replace b1:=hid b1)
   | (go_at_call 94;refine (HH.out.y.useY (HB.out.trans b1.out) HP.out).mono ?_;rintro e w2 ⟨rfl,H2,K2⟩;replace H2:=hid H2;clear K2))
  go_end0
  exact HE.out _ H2.out.x
 ·go_enter Try.func93,Try.ntmps93
  go_wp2_with (first
   | (go_at_call 112;refine (nothing_any _).mono ?_;rintro e w1 ⟨rfl,b1⟩;replace b1:=hid b1)
   | (go_at_call 94;refine (HH.out.y.useY (HB.out.trans b1.out) HP.out).mono ?_;rintro e w2 ⟨rfl,H2,K2⟩;replace H2:=hid H2;clear K2))
  exact ⟨rfl,HE.out _ H2.out.x⟩
theorem hs_over {h:Hp} (hs:h.stops=false):h.over=false:=by unfold Hp.stops at hs;rw [Bool.or_eq_false_iff] at hs;exact hs.1
theorem hs_thr {h:Hp} (hs:h.stops=false):¬0≤h.thrown:=by unfold Hp.stops at hs;rw [Bool.or_eq_false_iff] at hs;simpa using hs.2
theorem did_go {X:Nat→Prop} {wx w0 w':World} {g:Mg} {h:Hp} {qs:List Nat} {a:Mc} {c c':Cal} {nx:Int} (hs:h.stops=false) (H:RX 0 X wx w0 g w' h qs a c'):DidQ X wx w0 g qs a c ⟨h,c',nx⟩ (.returned (.tuple #[])) w':=by
 refine ⟨?_,fun q=>?_,fun _=>H⟩
 ·unfold DidE;dsimp only;rw [if_neg (by rw [hs_over hs];decide),if_neg (hs_thr hs)]
 ·dsimp only at q;rw [hs] at q;exact absurd q (by decide)
theorem must_no {h:Hp} {b:Bool} (hb:b=false):h.must b=h.fin 6:=by unfold Hp.must;rw [if_neg (by rw [hb];decide)]
theorem must_yes {h:Hp} {b:Bool} (hb:b=true):h.must b=h:=by unfold Hp.must;rw [if_pos hb]
set_option maxRecDepth 100000 in
theorem work_op22 (X:Nat→Prop) (wx w0:World) (g:Mg) (h:Hp) (qs:List Nat) (a:Mc) (c:Cal) (ia ib ic ii:Int) (args:List Int) (Q:Option Addr) (nl q:Nat) (w:World) (H:RX 1 X wx w0 g w h qs a c) (hs:h.stops=false) (hl:c.stk.length≤1000) :
  Calls Try.prog 93 #[.pointer (some ⟨a.q,0,none⟩),.agg #[.int .i64 22,.int .i64 ia,.int .i64 ib,.int .i64 ic,.int .i64 ii,.slice Q nl q]] w fun e w'=>DidQ X wx w0 g qs a c (doesP h c ⟨22,ia,ib,ic,ii,args⟩) e w':=by
 have hd:doesP h c ⟨22,ia,ib,ic,ii,args⟩=popP h c ⟨22,ia,ib,ic,ii,args⟩:=rfl
 rw [hd]
 unfold popP
 have HH:=hid H
 have HS:=hid hs
 have HB:Hid (Bl w (w.alloc (.cells #[.int .i64 22,.int .i64 ia,.int .i64 ib,.int .i64 ic,.int .i64 ii,.slice Q nl q] 51))):=(Bl.refl w).alloc _
 rcases stk_one (c:=c) with h0|⟨l,v,h0⟩
 ·rw [must_no (has_nil h0)]
  have H0:=hid h0
  clear H hs h0 hd
  go_enter Try.func93,Try.ntmps93
  go_wp2_with (go_at_call 110;refine (HH.out.y.useY HB.out (fun X wx w H=>mtake_no 1 X wx w0 g h qs a c w H H0.out)).mono ?_;rintro e w2 ⟨rfl,H2,K2⟩;replace H2:=hid H2;clear K2)
  exact ⟨rfl,did_fin (s:=0) (hs_over HS.out) rfl H2.out.x.less.rs⟩
 ·obtain ⟨h1,h2,h3⟩:=has_one h0
  rw [must_yes h1,h3]
  have H0:=hid h0
  clear H hs h0 hd h1 h2 h3
  go_enter Try.func93,Try.ntmps93
  go_wp2_with (go_at_call 110;refine (HH.out.y.useY HB.out (fun X wx w H=>mtake_yes 1 X wx w0 g h qs a c l v w H H0.out)).mono ?_;rintro e w2 ⟨rfl,H2,K2⟩;replace H2:=hid H2;clear K2)
  go_end0
  exact did_go HS.out H2.out.x.less
set_option maxRecDepth 100000 in
theorem work_op25 (X:Nat→Prop) (wx w0:World) (g:Mg) (h:Hp) (qs:List Nat) (a:Mc) (c:Cal) (ia ib ic ii:Int) (args:List Int) (Q:Option Addr) (nl q:Nat) (w:World) (H:RX 1 X wx w0 g w h qs a c) (hs:h.stops=false) (hl:c.stk.length≤1000) (hI:IntsAt w0 g.I h.input) (hu:0≤h.sh.used) (hil:h.input.length≤1000000) :
  Calls Try.prog 93 #[.pointer (some ⟨a.q,0,none⟩),.agg #[.int .i64 25,.int .i64 ia,.int .i64 ib,.int .i64 ic,.int .i64 ii,.slice Q nl q]] w fun e w'=>DidQ X wx w0 g qs a c (doesP h c ⟨25,ia,ib,ic,ii,args⟩) e w':=by
 have ho:=hs_over hs
 have e2:c.cut 0=c:=by unfold Cal.cut;simp
 have e3:h.must (c.has 0)=h:=by unfold Hp.must Cal.has;simp
 have hd:doesP h c ⟨25,ia,ib,ic,ii,args⟩=givesP h c ⟨25,ia,ib,ic,ii,args⟩:=rfl
 have em:manyOf 25=0:=by decide
 have eg:∀x y,givesH h x y ⟨25,ia,ib,ic,ii,args⟩=h.input':=by intro x y;unfold givesH;rw [if_neg (by rw [ho];decide)];simp
 have ev:∀x y,givesV h x y ⟨25,ia,ib,ic,ii,args⟩=h.inV:=by intro x y;unfold givesV;rw [if_neg (by rw [ho];decide)];simp
 rw [hd]
 unfold givesP
 dsimp only
 rw [em,e3,eg,ev,e2]
 have HH:=hid H
 have HS:=hid hs
 have HI:=hid (And.intro hI (And.intro hu hil))
 have hqlt:=H.qlt
 have HB:Hid (Bl w (w.alloc (.cells #[.int .i64 25,.int .i64 ia,.int .i64 ib,.int .i64 ic,.int .i64 ii,.slice Q nl q] 51))):=(Bl.refl w).alloc _
 have x1:w.cell? ⟨a.q,1,none⟩=some (.pointer (some ⟨g.r,0,none⟩)):=by
  obtain ⟨vc,vo,vx,vs,l,H⟩:=H
  exact H.ca.cells.c1
 cases hdry:h.dry with
 | true =>
  have e1:h.input'=h.fin 3:=by unfold Hp.input';rw [if_pos hdry]
  rw [e1,if_pos (by simp [Hp.stops,(fin6 ho 3).1])]
  have HD:=hid hdry
  clear H hs hd hI hu hil eg ev e1 e2 e3 em hdry
  go_enter Try.func93,Try.ntmps93
  go_wp2_with (go_at_call 118;refine (HH.out.y.useY HB.out (fun X wx w H=>min_no 1 X wx w0 g h qs a c w H HD.out)).mono ?_;rintro e w2 ⟨rfl,H2,K2⟩;replace H2:=hid H2;clear K2)
  exact ⟨rfl,did_fin (s:=0) ho rfl H2.out.x.less.rs⟩
 | false =>
  have e1:h.input'=h.uses:=by unfold Hp.input' Hp.uses;rw [if_neg (by rw [hdry];decide)]
  have e5:h.inV=⟨2,nth (0:Int) h.input h.sh.used.toNat⟩:=by unfold Hp.inV;rw [if_neg (by rw [hdry];decide)]
  rw [e1,e5]
  have hs2:h.uses.stops=false:=hs
  rw [if_neg (by rw [hs2];decide)]
  obtain ⟨N,hN⟩:∃N,nth (0:Int) h.input h.sh.used.toNat=N:=⟨_,rfl⟩
  rw [hN]
  have HD:=hid hdry
  have HNN:=hid hN
  obtain ⟨E,hE⟩:∃E,(if (sizP ((c).stk++[(⟨2,N⟩:Va)]):Int)≤(c).m.stack then Ending.returned (.tuple #[]) else stopE 6 0 0)=E:=⟨_,rfl⟩
  have HP:Hid (∀X wx w,RX 1 X wx w0 g w h.uses qs a (c)→Calls Try.prog 94 #[.pointer (some ⟨a.q,0,none⟩),mvV (im (⟨2,N⟩:Va))] w fun e w2=>e=E∧RX 1 X wx w0 g w2 h.uses qs a ((c).put (⟨2,N⟩:Va))):=fun X wx w H=>hE▸mput_any 1 X wx w0 g h.uses qs a (c) (⟨2,N⟩:Va) w H (show (1:Int)≤2∧(2:Int)≤3 from by decide) (hl)
  have HE:Hid (∀w',RX 1 X wx w0 g w' h.uses qs a ((c).put (⟨2,N⟩:Va))→DidQ X wx w0 g qs a c ⟨(h.uses).putH (c) (⟨2,N⟩:Va),(c).put (⟨2,N⟩:Va),c.pc+1⟩ E w'):=fun w' H=>did_put hs2 rfl ⟨rfl,rfl⟩ hE.symm H.less
  have hE2:E=.returned (.tuple #[])∨E=stopE 6 0 0:=by rw [←hE];split;exact Or.inl rfl;exact Or.inr rfl
  clear hE
  clear H hs hd hI hu hil eg ev e1 e2 e3 e5 em hdry hN hs2
  rcases hE2 with rfl|rfl
  ·go_enter Try.func93,Try.ntmps93
   go_wp2_with (first
    | (go_at_call 118;refine (HH.out.y.useY HB.out (fun X wx w H=>HNN.out▸min_yes 1 X wx w0 g h qs a c w H HI.out.1 HD.out HI.out.2.1 HI.out.2.2)).mono ?_;rintro e w1 ⟨rfl,H1,K1⟩;replace H1:=hid H1;clear K1)
    | (go_at_call 94;refine (H1.out.useY (Bl.refl _) HP.out).mono ?_;rintro e w2 ⟨rfl,H2,K2⟩;replace H2:=hid H2;clear K2))
   go_end0
   exact HE.out _ H2.out.x
  ·go_enter Try.func93,Try.ntmps93
   go_wp2_with (first
    | (go_at_call 118;refine (HH.out.y.useY HB.out (fun X wx w H=>HNN.out▸min_yes 1 X wx w0 g h qs a c w H HI.out.1 HD.out HI.out.2.1 HI.out.2.2)).mono ?_;rintro e w1 ⟨rfl,H1,K1⟩;replace H1:=hid H1;clear K1)
    | (go_at_call 94;refine (H1.out.useY (Bl.refl _) HP.out).mono ?_;rintro e w2 ⟨rfl,H2,K2⟩;replace H2:=hid H2;clear K2))
   exact ⟨rfl,HE.out _ H2.out.x⟩
end
end Go.Proofs.Ytimjmdfokicbkaa
