import Derived.Test.YtgiiapenmjollabGreatRlaq
namespace Go.Proofs.YtgiiapenmjollabGreat
set_option linter.all false
set_option maxHeartbeats 40000000
set_option maxRecDepth 100000
open Go.RowKit
section
open Go.Maps (Keyed has)
theorem nth_setObj {h:Hp} {o j:Nat} {v:Va} (ho:o<h.objs.length):nth ob0 (h.setV o j v).objs o={ nth ob0 h.objs o with held:=(nth ob0 h.objs o).held.set j { nth hel0 (nth ob0 h.objs o).held j with v:=v } }:=nth_set_eq ho
theorem nth_setOther {h:Hp} {o j o':Nat} {v:Va} (hn:o≠o'):nth ob0 (h.setV o j v).objs o'=nth ob0 h.objs o':=nth_set_ne hn
theorem FldAt.put {w w':World} {mp:Nat} {h:Hp} {n:Nat} {D:DataW Nat} (F:FldAt 1 w mp h n D) {o j cc k:Nat} {v:Va} (ho:o<h.objs.length) (hl:h.objs.length≤100) (hj:j<(nth ob0 h.objs o).held.length) (hc:(nth hel0 (nth ob0 h.objs o).held j).cls=(cc:Int)) (hk:(nth hel0 (nth ob0 h.objs o).held j).fld=(k:Int))
  (ic:I64 (cc:Int)) (ik:I64 (k:Int)) (hv:v.kind=(fieldT h.file.classes cc k).kind) (hw:w'.ownsMap Tryz.prog 303 mvElem mp (n+1) (D.put (keyM ((o:Int)+1) cc k) (mvD (im v)))):FldAt 0 w' mp (h.setV o j v) (n+1) (D.put (keyM ((o:Int)+1) cc k) (mvD (im v))):=by
 have hm:=F.own.isMap
 have hlen:(h.setV o j v).objs.length=h.objs.length:=by simp [Hp.setV]
 have hfl:(h.setV o j v).file=h.file:=rfl
 have io:∀o':Nat,o'≤100→I64 ((o':Int)+1):=fun o' h'=>by unfold I64;omega
 have kne:∀(o':Nat) (c' k':Int),o'≤100→I64 c'→I64 k'→¬(o'=o∧c'=cc∧k'=k)→keyM ((o':Int)+1) c' k'≠keyM ((o:Int)+1) cc k:=fun o' c' k' h1 h2 h3 hne e=>by
  obtain ⟨e1,e2,e3⟩:=keyM_inj (io o' h1) h2 h3 (io o (by omega)) ic ik e
  exact hne ⟨by omega,e2,e3⟩
 have hks:=F.ks o ho
 have hfind:∀x∈((nth ob0 h.objs o).held.set j { nth hel0 (nth ob0 h.objs o).held j with v:=v }),(x.cls=(cc:Int)∧x.fld=(k:Int))→x.v=v:=by
  intro x hx hxk
  obtain ⟨i,hi,rfl⟩:=mem_nth (d:=hel0) hx
  rw [List.length_set] at hi
  by_cases e:j=i
  ·subst e;rw [nth_set_eq hj]
  ·exfalso
   rw [nth_set_ne e] at hxk
   exact e (held_one hks hj hi (by simp only [hkey];rw [hc,hk,hxk.1,hxk.2]))
 have hold:∀x∈((nth ob0 h.objs o).held.set j { nth hel0 (nth ob0 h.objs o).held j with v:=v }),¬(x.cls=(cc:Int)∧x.fld=(k:Int))→x∈(nth ob0 h.objs o).held:=by
  intro x hx hxk
  obtain ⟨i,hi,rfl⟩:=mem_nth (d:=hel0) hx
  rw [List.length_set] at hi
  by_cases e:j=i
  ·subst e
   rw [nth_set_eq hj] at hxk
   exact absurd ⟨hc,hk⟩ hxk
  ·rw [nth_set_ne e];exact nth_mem hi
 refine ⟨hw,by have:=F.few;show ((n+1:Nat):Int)+((0:Nat):Int)≤h.sh.steps;omega,fun o' c' k' v' ho' ic' ik' hx hh z=>?_,fun o' c' k' v' ho' ic' ik' hx hh=>?_,fun o' c' k' ho' h100 ic' ik'=>?_,fun o' ho'=>?_,fun o' ho' x hx=>?_⟩
 ·rw [hlen] at ho'
  by_cases e:o'=o∧c'=cc∧k'=k
  ·obtain ⟨rfl,rfl,rfl⟩:=e
   rw [nth_setObj ho] at hx
   obtain ⟨x,hx1,hx2,hx3,rfl⟩:=hx
   rw [hfind x hx1 ⟨hx2,hx3⟩]
   exact Maps.atKey_put_same hm (place_key.key (keyM_of (io _ (by omega)) ic ik)) _ _
  ·have hne:=kne o' c' k' (by omega) ic' ik' e
   rw [Maps.has_put_other hne] at hh
   rw [Maps.atKey_put_other hne]
   refine F.hit o' c' k' v' ho' ic' ik' ?_ hh z
   by_cases e1:o'=o
   ·subst e1
    rw [nth_setObj ho] at hx
    obtain ⟨x,hx1,hx2,hx3,hx4⟩:=hx
    exact ⟨x,hold x hx1 (fun q=>e ⟨rfl,by rw [←hx2];exact q.1,by rw [←hx3];exact q.2⟩),hx2,hx3,hx4⟩
   ·rw [nth_setOther (fun q=>e1 q.symm)] at hx
    exact hx
 ·rw [hlen] at ho'
  by_cases e:o'=o∧c'=cc∧k'=k
  ·obtain ⟨rfl,rfl,rfl⟩:=e
   rw [Maps.has_put_same hm (place_key.key (keyM_of (io _ (by omega)) ic ik))] at hh
   exact absurd hh (by decide)
  ·have hne:=kne o' c' k' (by omega) ic' ik' e
   rw [Maps.has_put_other hne] at hh
   refine F.miss o' c' k' v' ho' ic' ik' ?_ hh
   by_cases e1:o'=o
   ·subst e1
    rw [nth_setObj ho] at hx
    obtain ⟨x,hx1,hx2,hx3,hx4⟩:=hx
    exact ⟨x,hold x hx1 (fun q=>e ⟨rfl,by rw [←hx2];exact q.1,by rw [←hx3];exact q.2⟩),hx2,hx3,hx4⟩
   ·rw [nth_setOther (fun q=>e1 q.symm)] at hx
    exact hx
 ·rw [hlen] at ho'
  have hne:=kne o' c' k' h100 ic' ik' (fun q=>by omega)
  rw [Maps.has_put_other hne]
  exact F.new o' c' k' ho' h100 ic' ik'
 ·rw [hlen] at ho'
  by_cases e1:o'=o
  ·subst e1
   rw [nth_setObj ho]
   have:=set_keys hj v
   exact this.trans hks
  ·rw [nth_setOther (fun q=>e1 q.symm)]
   exact F.ks o' ho'
 ·rw [hlen] at ho'
  by_cases e1:o'=o
  ·subst e1
   rw [nth_setObj ho] at hx
   by_cases e2:x.cls=(cc:Int)∧x.fld=(k:Int)
   ·rw [hfind x hx e2,e2.1,e2.2,hfl]
    exact hv
   ·exact F.kd o' ho x (hold x hx e2)
  ·rw [nth_setOther (fun q=>e1 q.symm)] at hx
   exact F.kd o' ho' x hx
theorem RXA.putF {X:Nat→Prop} {wx w0 w w2:World} {g:Mg} {h h':Hp} {qs:List Qb} {a:Mc} {c:Cal} {vc vo vx vs:Value} {l:List Va} {n:Nat} {D:DataW Nat} (H:RXA 1 X wx w0 g w h qs a c vc vo vx vs l) (hg:w.grownBy w2 (some g.mp))
  (F:FldAt 0 w2 g.mp h' n D) (e1:h'.file=h.file) (e2:h'.input=h.input) (e3:h'.fuel=h.fuel) (e4:h'.sh=h.sh) (e5:h'.objs.map (fun o=>Value.int .i64 o.cls)=h.objs.map (fun o=>Value.int .i64 o.cls)) :
  RXA 0 X wx w0 g w2 h' qs a c vc vo vx vs l:=by
 have R:=H.rh
 obtain ⟨n0,D0,F0⟩:=R.fld
 obtain ⟨fr,fh,fm,fc,fo,fx⟩:=H.ca.farC R
 have n1:(some g.mp:Option Nat)≠some g.r:=fun e=>map_ne R.run F0.own (Option.some.inj e).symm
 have n2:(some g.mp:Option Nat)≠some g.hb:=fun e=>map_ne R.hp F0.own (Option.some.inj e).symm
 have r1:runRow g h' vc vx=runRow g h vc vx:=by unfold runRow;rw [e1,e2,e3,e4]
 have r2:heapRow g h' vo=heapRow g h vo:=by unfold heapRow;rw [e1]
 have hlen:h'.objs.length=h.objs.length:=by have:=congrArg List.length e5;simpa using this
 refine ⟨⟨R.ownr,R.ownh,R.ownm,Below.grown R.bl hg R.bl.size (fun k e=>by cases e;exact R.ownm),by rw [r1];exact grown_blk hg R.run n1,by rw [r2];exact grown_blk hg R.hp n2,by rw [e4];exact R.out.kept hg (Or.inr (map_row R.out F0.own)),
  by rw [hlen,e5];exact R.obs.kept hg (Or.inr (map_row R.obs F0.own)),R.calls.kept hg (Or.inr (map_row R.calls F0.own)),n,D,F⟩,H.ca.kept hg (fun b e=>by cases e;exact fm),H.farr,H.farc,H.kept.kept hg (fun b e hx=>by cases e;exact (H.farr _ hx).m rfl)⟩
theorem set_cls {h:Hp} {o j:Nat} {v:Va}:(h.setV o j v).objs.map (fun o=>Value.int .i64 o.cls)=h.objs.map (fun o=>Value.int .i64 o.cls):=by
 apply List.ext_getElem
 ·simp [Hp.setV]
 ·intro i h1 h2
  simp only [Hp.setV,List.getElem_map,List.getElem_set]
  split
  ·rename_i e
   subst e
   have hi:o<h.objs.length:=by simpa [Hp.setV] using h1
   rw [nth_get hi]
  ·rfl
theorem mputF_obj (X:Nat→Prop) (wx w0:World) (g:Mg) (h:Hp) (qs:List Qb) (a:Mc) (c:Cal) (o j cc k:Nat) (v:Va) (w:World) (H:RX 1 X wx w0 g w h qs a c) (ho:o<h.objs.length) (hl:h.objs.length≤100) (hst:h.sh.steps≤100000) (hj:j<(nth ob0 h.objs o).held.length)
  (hc:(nth hel0 (nth ob0 h.objs o).held j).cls=(cc:Int)) (hk:(nth hel0 (nth ob0 h.objs o).held j).fld=(k:Int)) (h12:cc≤12) (h6:k≤12) (hv:v.kind=(fieldT h.file.classes cc k).kind) :
  Calls Tryz.prog 204 #[.pointer (some ⟨g.hb,0,none⟩),mvV ⟨3,(o:Int)+1⟩,.int .i64 cc,.int .i64 k,mvV (im v)] w fun e w'=>e=.returned (.tuple #[])∧RX 0 X wx w0 g w' (h.setV o j v) qs a c:=by
 have io:I64 ((o:Int)+1):=by unfold I64;omega
 have ic:I64 (cc:Int):=by unfold I64;omega
 have ik:I64 (k:Int):=by unfold I64;omega
 obtain ⟨vc,vo,vx,vs,l,H⟩:=H
 obtain ⟨n,D,F⟩:=H.rh.fld
 have hn:n<maxLen:=by have:=F.few;unfold maxLen;omega
 have HPC:Hid (∀w,Calls Tryz.prog 263 #[.pointer (some ⟨g.hb,0,none⟩),mvV ⟨3,(o:Int)+1⟩,.int .i64 (cc:Int),.int .i64 (k:Int)] w fun e w'=>e=.returned (placeV ((o:Int)+1) cc k)∧Bl w w'):=fun w=>placeOf_obj g.hb ⟨3,o⟩ cc k rfl (by simp) w
 have HUP:Hid (∀w2,Bl w w2→∃w3,(Instr.mapUpdate 215 (.map (some g.mp)) (placeV ((o:Int)+1) cc k) (mvV (im v))).run Tryz.prog w2=.ok () w3∧w2.grownBy w3 (some g.mp)∧RX 0 X wx w0 g w3 (h.setV o j v) qs a c):=fun w2 hb=>by
  have F2:=F.own.kept (grown_bl hb none) (by simp)
  obtain ⟨w3,h1,h2,h3⟩:=F2.update place_key Tryz.underlying215 hn (keyM_of io ic ik) (mvElem_mk (im v))
  have F3:FldAt 1 w2 g.mp h n D:=⟨F2,F.few,F.hit,F.miss,F.new,F.ks,F.kd⟩
  exact ⟨w3,h1,h3,vc,vo,vx,vs,l,(H.bl hb).putF h3 (F3.put ho hl hj hc hk ic ik hv h2) rfl rfl rfl rfl set_cls⟩
 obtain ⟨vn,hvn⟩:∃vn:Int,(o:Int)+1=vn:=⟨_,rfl⟩
 rw [hvn] at HPC HUP ⊢
 obtain ⟨L0,L1⟩:=two_lie w #[.int .i64 3,.int .i64 vn] #[.int .i64 (im v).kind,.int .i64 (im v).n] 115 115
 have HB:Hid (Bl w ((w.alloc (mvO ⟨3,vn⟩)).alloc (mvO (im v)))):=((Bl.refl w).alloc _).alloc _
 have z0:=hid (c0_of L0)
 have z1:=hid (c1_of L0)
 have z2:=hid (c0_of L1)
 have z3:=hid (c1_of L1)
 have zm:Hid (((w.alloc (mvO ⟨3,vn⟩)).alloc (mvO (im v))).cell? ⟨g.hb,2,none⟩=some (.map (some g.mp))):=Bl.cell HB.out H.rh.heapCells.2.2
 have hmp:=F.own.lt
 have hnm:g.hb≠g.mp:=map_ne H.rh.hp F.own
 have hm1:w.heap.size≠g.mp:=by omega
 have hm2:w.heap.size+1≠g.mp:=by omega
 clear H F L0 L1 io ic ik hvn hn hv hc hk hj
 go_enter Tryz.func204,Tryz.ntmps204
 go_wp2
 refine wp_region_held_drew (S:=fun w'=>w'.cell? ⟨g.hb,2,none⟩=some (.map (some g.mp))∧w'.cell? ⟨w.heap.size,0,none⟩=some (.int .i64 3)∧w'.cell? ⟨w.heap.size,1,none⟩=some (.int .i64 vn)∧w'.cell? ⟨w.heap.size+1,0,none⟩=some (.int .i64 (im v).kind)∧w'.cell? ⟨w.heap.size+1,1,none⟩=some (.int .i64 (im v).n)) (by kernel_rfl) ?_ (fun hHeld0=>?_)
 ·exact ⟨zm.out,z0.out,z1.out,z2.out,z3.out⟩
 refine tk (i:=0) (d:=some 10) rfl rfl (by kernel_rfl) (fun _ _ _ h=>h) (by rfl) (by intro _ h;(try dsimp only at h);go_split_ands;go_simp<;>with_reducible rfl) hHeld0 ?_
 try simp only [aS,aN,aT,a0,a1]
 refine tk (i:=1) (d:=some 11) rfl rfl (by kernel_rfl) (fun _ _ _ h=>h) (by rfl) (by intro _ h;(try dsimp only at h);go_split_ands;go_simp<;>with_reducible rfl) hHeld0 ?_
 try simp only [aS,aN,aT,a0,a1]
 refine tk (i:=2) (d:=some 12) rfl rfl (by kernel_rfl) (fun _ _ _ h=>h) (by rfl) (by intro _ h;(try dsimp only at h);go_split_ands;go_simp<;>with_reducible rfl) hHeld0 ?_
 try simp only [aS,aN,aT,a0,a1]
 refine tk (i:=3) (d:=some 13) rfl rfl (by kernel_rfl) (fun _ _ _ h=>h) (by rfl) (by intro _ h;(try dsimp only at h);go_split_ands;go_simp<;>with_reducible rfl) hHeld0 ?_
 try simp only [aS,aN,aT,a0,a1]
 refine tk (i:=4) (d:=some 14) rfl rfl (by kernel_rfl) (fun _ _ _ h=>h) (by rfl) (by intro _ h;(try dsimp only at h);go_split_ands;go_simp<;>with_reducible rfl) hHeld0 ?_
 try simp only [aS,aN,aT,a0,a1]
 refine tk (i:=5) (d:=some 15) rfl rfl (by kernel_rfl) (fun _ _ _ h=>h) (by rfl) (by intro _ h;(try dsimp only at h);go_split_ands;go_simp<;>with_reducible rfl) hHeld0 ?_
 try simp only [aS,aN,aT,a0,a1]
 refine tk (i:=6) (d:=some 16) rfl rfl (by kernel_rfl) (fun _ _ _ h=>h) (by rfl) (by intro _ h;(try dsimp only at h);go_split_ands;go_simp<;>with_reducible rfl) hHeld0 ?_
 try simp only [aS,aN,aT,a0,a1]
 refine tk (i:=7) (d:=some 17) rfl rfl (by kernel_rfl) (fun _ _ _ h=>h) (by rfl) (by intro _ h;(try dsimp only at h);go_split_ands;go_simp<;>with_reducible rfl) hHeld0 ?_
 try simp only [aS,aN,aT,a0,a1]
 refine tk (i:=9) (d:=some 19) rfl rfl (by kernel_rfl) (fun _ _ _ h=>h) (by rfl) (by intro _ h;(try dsimp only at h);go_split_ands;go_simp<;>with_reducible rfl) hHeld0 ?_
 try simp only [aS,aN,aT,a0,a1]
 refine rd1 (i:=8) (by kernel_rfl) rfl fun K hK=>?_
 go_simp
 go_at_call 263
 refine (HPC.out _).mono ?_
 rintro e w2 ⟨rfl,b2⟩
 have d0:=hid (b2.cell hHeld0.1)
 have d1:=hid (b2.cell hHeld0.2.1)
 have d2:=hid (b2.cell hHeld0.2.2.1)
 have d3:=hid (b2.cell hHeld0.2.2.2.1)
 have d4:=hid (b2.cell hHeld0.2.2.2.2)
 replace b2:=hid b2
 go_wp2_with fail
 refine hK.out _ _ (⟨d0.out,d1.out,d2.out,d3.out,d4.out⟩) (fun hHeld1=>?_)
 try simp only [aS,aN,aT,a0,a1]
 refine rd1 (i:=10) (by kernel_rfl) rfl fun K hK=>?_
 obtain ⟨w3,hu,hg3,H3⟩:=HUP.out _ (HB.out.drew.trans b2.out)
 replace H3:=hid H3
 go_wp2_with fail
 refine hK.out _ _ (⟨hg3.cell d0.out (fun e=>hnm (Option.some.inj e)),hg3.cell d1.out (fun e=>hm1 (Option.some.inj e)),hg3.cell d2.out (fun e=>hm1 (Option.some.inj e)),hg3.cell d3.out (fun e=>hm2 (Option.some.inj e)),hg3.cell d4.out (fun e=>hm2 (Option.some.inj e))⟩) (fun hHeld2=>?_)
 try simp only [aS,aN,aT,a0,a1]
 refine wpAnyH_done (by kernel_rfl) ?_ _
 go_wp2
 go_end0
 exact ⟨rfl,H3.out⟩
theorem mputF_nil (s:Nat) (X:Nat→Prop) (wx w0:World) (g:Mg) (h:Hp) (qs:List Qb) (a:Mc) (c:Cal) (v u:Va) (cc k:Int) (w:World) (H:RX s X wx w0 g w h qs a c) (hl:h.objs.length≤100) (ho:h.over=false) (hk:v.kind=3) (hv:v.n=-1) :
  Calls Tryz.prog 204 #[.pointer (some ⟨g.hb,0,none⟩),mvV (im v),.int .i64 cc,.int .i64 k,mvV u] w fun e w'=>e=raiseE h∧RX s X wx w0 g w' (h.raise 1) qs a c:=by
 have e:im v=⟨3,0⟩:=by rw [im_ref hk,hv];rfl
 have HPC:Hid (∀w,RX s X wx w0 g w h qs a c→Calls Tryz.prog 263 #[.pointer (some ⟨g.hb,0,none⟩),mvV ⟨3,0⟩,.int .i64 cc,.int .i64 k] w fun e w'=>e=raiseE h∧RX s X wx w0 g w' (h.raise 1) qs a c):=fun w H=>e▸placeOf_nil s X wx w0 g h qs a c v cc k w H hl ho hk hv
 rw [e]
 obtain ⟨L0,L1⟩:=two_lie w #[.int .i64 3,.int .i64 0] #[.int .i64 u.kind,.int .i64 u.n] 115 115
 have HB:Hid (Bl w ((w.alloc (mvO ⟨3,0⟩)).alloc (mvO u))):=((Bl.refl w).alloc _).alloc _
 have HH:=hid H
 have z0:=hid (c0_of L0)
 have z1:=hid (c1_of L0)
 have z2:=hid (c0_of L1)
 have z3:=hid (c1_of L1)
 have zm:Hid (((w.alloc (mvO ⟨3,0⟩)).alloc (mvO u)).cell? ⟨g.hb,2,none⟩=some (.map (some g.mp))):=by
  obtain ⟨vc,vo,vx,vs,l,H⟩:=H
  exact Bl.cell HB.out H.rh.heapCells.2.2
 obtain ⟨E,hE⟩:∃E,raiseE h=E:=⟨_,rfl⟩
 have HX:Hid (∃ch,E=.panicked ch):=by
  rw [←hE];unfold raiseE;split<;>exact ⟨_,rfl⟩
 rw [hE] at HPC ⊢
 clear hk hv e H hl ho hE L0 L1
 obtain ⟨ch,rfl⟩:=HX.out
 go_enter Tryz.func204,Tryz.ntmps204
 go_wp2
 refine wp_region_held_drew (S:=fun w'=>w'.cell? ⟨g.hb,2,none⟩=some (.map (some g.mp))∧w'.cell? ⟨w.heap.size,0,none⟩=some (.int .i64 3)∧w'.cell? ⟨w.heap.size,1,none⟩=some (.int .i64 0)∧w'.cell? ⟨w.heap.size+1,0,none⟩=some (.int .i64 u.kind)∧w'.cell? ⟨w.heap.size+1,1,none⟩=some (.int .i64 u.n)) (by kernel_rfl) ?_ (fun hHeld0=>?_)
 ·exact ⟨zm.out,z0.out,z1.out,z2.out,z3.out⟩
 refine tk (i:=0) (d:=some 10) rfl rfl (by kernel_rfl) (fun _ _ _ h=>h) (by rfl) (by intro _ h;(try dsimp only at h);go_split_ands;go_simp<;>with_reducible rfl) hHeld0 ?_
 try simp only [aS,aN,aT,a0,a1]
 refine tk (i:=1) (d:=some 11) rfl rfl (by kernel_rfl) (fun _ _ _ h=>h) (by rfl) (by intro _ h;(try dsimp only at h);go_split_ands;go_simp<;>with_reducible rfl) hHeld0 ?_
 try simp only [aS,aN,aT,a0,a1]
 refine tk (i:=2) (d:=some 12) rfl rfl (by kernel_rfl) (fun _ _ _ h=>h) (by rfl) (by intro _ h;(try dsimp only at h);go_split_ands;go_simp<;>with_reducible rfl) hHeld0 ?_
 try simp only [aS,aN,aT,a0,a1]
 refine tk (i:=3) (d:=some 13) rfl rfl (by kernel_rfl) (fun _ _ _ h=>h) (by rfl) (by intro _ h;(try dsimp only at h);go_split_ands;go_simp<;>with_reducible rfl) hHeld0 ?_
 try simp only [aS,aN,aT,a0,a1]
 refine tk (i:=4) (d:=some 14) rfl rfl (by kernel_rfl) (fun _ _ _ h=>h) (by rfl) (by intro _ h;(try dsimp only at h);go_split_ands;go_simp<;>with_reducible rfl) hHeld0 ?_
 try simp only [aS,aN,aT,a0,a1]
 refine tk (i:=5) (d:=some 15) rfl rfl (by kernel_rfl) (fun _ _ _ h=>h) (by rfl) (by intro _ h;(try dsimp only at h);go_split_ands;go_simp<;>with_reducible rfl) hHeld0 ?_
 try simp only [aS,aN,aT,a0,a1]
 refine tk (i:=6) (d:=some 16) rfl rfl (by kernel_rfl) (fun _ _ _ h=>h) (by rfl) (by intro _ h;(try dsimp only at h);go_split_ands;go_simp<;>with_reducible rfl) hHeld0 ?_
 try simp only [aS,aN,aT,a0,a1]
 refine tk (i:=7) (d:=some 17) rfl rfl (by kernel_rfl) (fun _ _ _ h=>h) (by rfl) (by intro _ h;(try dsimp only at h);go_split_ands;go_simp<;>with_reducible rfl) hHeld0 ?_
 try simp only [aS,aN,aT,a0,a1]
 refine tk (i:=9) (d:=some 19) rfl rfl (by kernel_rfl) (fun _ _ _ h=>h) (by rfl) (by intro _ h;(try dsimp only at h);go_split_ands;go_simp<;>with_reducible rfl) hHeld0 ?_
 try simp only [aS,aN,aT,a0,a1]
 refine rd1 (i:=8) (by kernel_rfl) rfl fun K hK=>?_
 go_simp
 go_at_call 263
 refine (HPC.out _ (HH.out.bl HB.out.drew)).mono ?_
 rintro e w2 ⟨rfl,H2⟩
 exact ⟨rfl,rfl,H2⟩
end
end Go.Proofs.YtgiiapenmjollabGreat
