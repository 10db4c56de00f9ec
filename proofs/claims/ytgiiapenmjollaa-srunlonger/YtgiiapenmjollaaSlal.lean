import Derived.Test.YtgiiapenmjollaaSlaj
import Derived.Test.YtgiiapenmjollaaSlak
namespace Go.Proofs.Ytgiiapenmjollaa
set_option linter.all false
set_option maxHeartbeats 40000000
open Go.RowKit
set_option maxRecDepth 100000 in
theorem write_long (lb lc n:Nat) (l:List Va) (v:Va) (w:World) (B:LBox w lb l) (hn:n+1<l.length) (hl:l.length≤1000) (hk:v.kind=2) :
  Calls Try.prog 86 #[.slice (some ⟨lb,0,none⟩) l.length lc,.int .i64 (n:Int),mvV v] w fun e w'=>e=.returned (.tuple #[])∧LBox w' lb ((l.set n v).set (n+1) ⟨4,0⟩)∧w.grownBy w' (some lb):=by
 obtain ⟨vk,vn⟩:=v
 dsimp only at hk
 subst hk
 have x0:=B.c0 (i:=n) (by omega)
 have x1:=B.c1 (i:=n) (by omega)
 have x2:=B.c0 (i:=n+1) hn
 have x3:=B.c1 (i:=n+1) hn
 have fz:=free_blk B.blk
 have hlt:=lt_some B.blk
 have hn0:(0:Int)≤(n:Int):=by omega
 have hn1:(n:Int)<(l.length:Int):=by omega
 have hn2:(0:Int)≤(n:Int)+1:=by omega
 have hn3:(n:Int)+1<(l.length:Int):=by omega
 have HB:=hid B
 have hne:lb≠w.heap.size:=by omega
 have hn':n<l.length:=by omega
 clear B
 go_enter Try.func86,Try.ntmps86
 go_wp2
 go_end0
 have h1:=HB.out.set hn' (⟨2,vn⟩:Va)
 have h2:=h1.set (i:=n+1) (by rw [List.length_set];exact hn) (⟨4,0⟩:Va)
 exact ⟨rfl,h2.bl ((Bl.refl _).alloc _),grown_trans (grown_trans (grown_trans (grown_trans (grown_set lb _ _) (grown_set lb _ _)) (grown_set lb _ _)) (grown_set lb _ _)) (World.grownBy_alloc _ _ _)⟩
theorem CA.lbox {w0 w:World} {g:Mg} {a:Mc} {c:Cal} {l:List Va} {vs:Value} (H:CA w0 g w a c l vs):LBox w a.lb l:=⟨H.loc⟩
theorem read_yes {w0:World} {g:Mg} {a:Mc} {c:Cal} {l:List Va} {vs:Value} {w:World} (H:CA w0 g w a c l vs) (n:Nat) (k:Int) (hn:n<c.locs.length) (hk:1≤k∧k≤3) (h2:k=2→n+1<c.locs.length) (hv:(nth va0 c.locs n).kind=k) :
  Calls Try.prog 117 #[.slice (some ⟨a.lb,0,none⟩) c.locs.length a.lc,.int .i64 (n:Int),.int .i64 k] w fun e w'=>e=.returned (mvV (im (nth va0 c.locs n)))∧Bl w w':=by
 have hl:=H.rel.len
 have hs:=H.short
 have e:=H.rel.rd n (by omega) (by omega)
 rw [←hl,←e]
 by_cases h:k=2
 ·subst h
  exact read_long a.lb a.lc n l w H.lbox (by have:=h2 rfl;omega) (by omega) (by rw [e];exact hv) (H.rel.long n hv)
 ·exact read_num a.lb a.lc n l k w H.lbox (by omega) (by omega) (by rw [e];exact hv) h
theorem read_no {w0:World} {g:Mg} {a:Mc} {c:Cal} {l:List Va} {vs:Value} {w:World} (H:CA w0 g w a c l vs) (n:Nat) (k:Int) (hn:n<c.locs.length) (hk:1≤k∧k≤3) (h2:k=2→n+1<c.locs.length) (hv:(nth va0 c.locs n).kind≠k) :
  Calls Try.prog 117 #[.slice (some ⟨a.lb,0,none⟩) c.locs.length a.lc,.int .i64 (n:Int),.int .i64 k] w fun e w'=>e=stopE 6 0 0∧Bl w w':=by
 have hl:=H.rel.len
 have hs:=H.short
 rw [←hl]
 by_cases hm:(nth va0 l n).kind=k
 ·by_cases h:k=2
  ·subst h
   refine read_lost a.lb a.lc n l w H.lbox (by have:=h2 rfl;omega) (by omega) hm fun h4=>hv ?_
   rw [H.rel.back n (by omega) (by omega) (fun _=>h4)]
   exact hm
  ·exact absurd ((H.rel.back n (by omega) (by omega) (fun q=>absurd (hm.symm.trans q) h)).trans hm) hv
 ·exact read_kind a.lb a.lc n l k w H.lbox (by omega) (by omega) hm
theorem RXA.setl {s:Nat} {X:Nat→Prop} {wx w0 w w':World} {g:Mg} {h:Hp} {qs:List Nat} {a:Mc} {c:Cal} {vc vo vx vs:Value} {l l':List Va} (H:RXA s X wx w0 g w h qs a c vc vo vx vs l) (hg:w.grownBy w' (some a.lb)) (hb:LBox w' a.lb l') {L:List Va} (hr:LRel L l') (hL:L.length=c.locs.length) :
  RXA s X wx w0 g w' h qs a { c with locs:=L } vc vo vx vs l':=by
 have hf:=(H.ca.far H.rh).2.1
 have hql:a.q≠a.lb:=blk_ne H.ca.blk H.ca.loc (by decide)
 refine ⟨H.rh.kept hg (fun b e=>?_),⟨H.ca.own,H.ca.ownl,?_,hb.blk,hr,H.ca.stk.kept hg (Or.inr H.ca.apart),H.ca.apart,H.ca.me,by dsimp only;rw [hL];exact H.ca.short,H.ca.kinds⟩,H.farr,H.farc,H.kept.kept hg (fun b e hx=>?_)⟩
 ·cases e;exact ⟨H.ca.ownl,hf⟩
 ·have:=grown_blk hg H.ca.blk (fun e=>hql (Option.some.inj e).symm)
  rw [this]
  unfold callRow
  dsimp only
  rw [hL]
 ·cases e;exact (H.farc _ hx).l rfl
theorem write_any (s:Nat) (X:Nat→Prop) (wx w0:World) (g:Mg) (h:Hp) (qs:List Nat) (a:Mc) (c:Cal) (n:Nat) (v:Va) (w:World) (H:RX s X wx w0 g w h qs a c) (hn:n<c.locs.length) (hv:1≤v.kind∧v.kind≤3) (h2:v.kind=2→n+1<c.locs.length) :
  Calls Try.prog 86 #[.slice (some ⟨a.lb,0,none⟩) c.locs.length a.lc,.int .i64 (n:Int),mvV (im v)] w fun e w'=>e=.returned (.tuple #[])∧RX s X wx w0 g w' h qs a { c with locs:=stoP c.locs n v }:=by
 obtain ⟨vc,vo,vx,vs,l,H⟩:=H
 have hl:=H.ca.rel.len
 have hs:=H.ca.short
 have hr:=H.ca.rel.sto hn v hv h2
 have hL:(stoP c.locs n v).length=c.locs.length:=sto_length _ _ _
 by_cases hk:v.kind=2
 ·have e:stoM l n (im v)=(l.set n (im v)).set (n+1) ⟨4,0⟩:=by unfold stoM;rw [if_pos (by exact hk)]
  rw [e] at hr
  rw [←hl]
  refine (write_long a.lb a.lc n l (im v) w H.ca.lbox (by have:=h2 hk;omega) (by omega) hk).mono ?_
  rintro x w' ⟨rfl,h3,h4⟩
  exact ⟨rfl,vc,vo,vx,vs,_,H.setl h4 h3 hr hL⟩
 ·have e:stoM l n (im v)=l.set n (im v):=by unfold stoM;rw [if_neg (by exact hk)]
  rw [e] at hr
  rw [←hl]
  refine (write_num a.lb a.lc n l (im v) w H.ca.lbox (by omega) (by omega) hk).mono ?_
  rintro x w' ⟨rfl,h3,h4⟩
  exact ⟨rfl,vc,vo,vx,vs,_,H.setl h4 h3 hr hL⟩
theorem RXY.hb {s:Nat} {X Y:Nat→Prop} {wx w0 w:World} {g:Mg} {h:Hp} {qs:List Nat} {a:Mc} {c:Cal} (H:RXY s X Y wx w0 g w h qs a c):w.cell? ⟨a.q,0,none⟩=some (.pointer (some ⟨g.hb,0,none⟩)):=by
 obtain ⟨vc,vo,vx,vs,l,H,F⟩:=H
 exact H.ca.cells.c0
theorem RX.qlt {s:Nat} {X:Nat→Prop} {wx w0 w:World} {g:Mg} {h:Hp} {qs:List Nat} {a:Mc} {c:Cal} (H:RX s X wx w0 g w h qs a c):a.q<w.heap.size:=by
 obtain ⟨vc,vo,vx,vs,l,H⟩:=H
 exact lt_some H.ca.blk
theorem two_lie (w:World) (a b:Array Value) (s t:TypeId):((w.alloc (.cells a s)).alloc (.cells b t)).heap[w.heap.size]?=some (.cells a s (0,0))∧((w.alloc (.cells a s)).alloc (.cells b t)).heap[w.heap.size+1]?=some (.cells b t (0,0)):=by
 have h1:(w.alloc (.cells a s)).heap.size=w.heap.size+1:=by simp
 refine ⟨?_,?_⟩
 ·rw [Below.heap_alloc _ _ _ (by omega)];exact blk_new _ _ _
 ·rw [←h1];exact blk_new _ _ _
theorem lt_w1 (w:World) (o:Obj):w.heap.size<(w.alloc o).heap.size:=by simp
theorem lt_w2a (w:World) (o p:Obj):w.heap.size<((w.alloc o).alloc p).heap.size:=by simp;omega
theorem lt_w2b (w:World) (o p:Obj):w.heap.size+1<((w.alloc o).alloc p).heap.size:=by simp
set_option maxRecDepth 100000 in
theorem takeType_yes (s:Nat) (X:Nat→Prop) (wx w0:World) (g:Mg) (h:Hp) (qs:List Nat) (a:Mc) (c:Cal) (l:List Va) (v:Va) (t:Ty) (w:World) (H:RX s X wx w0 g w h qs a c) (F:Fix w0 g h) (hf:h.objs.length≤100) (hs:c.stk=l++[v])
  (hv:v.kind=3→-1≤v.n∧v.n<h.objs.length) (ho:h.of v t=true) :
  Calls Try.prog 114 #[.pointer (some ⟨a.q,0,none⟩),tyMV t] w fun e w'=>e=.returned (mvV (im v))∧RX s X wx w0 g w' h qs a { c with stk:=l }:=by
 have HH:Hid (RX s X wx w0 g w h qs a c):=H
 have hq:=H.qlt
 have hn0:w.heap.size≠a.q:=by omega
 have hn1:w.heap.size+1≠a.q:=by omega
 have HS:Hid (c.stk=l++[v]):=hs
 have HF:Hid (Fix w0 g h∧h.objs.length≤100):=⟨F,hf⟩
 have HO:Hid ((v.kind=3→-1≤v.n∧v.n<h.objs.length)∧h.of v t=true):=⟨hv,ho⟩
 obtain ⟨L0,L1⟩:=two_lie w #[.int .i64 t.kind,.int .i64 t.cls] #[.int .i64 0,.int .i64 0] 54 109
 have B0:Bl w ((w.alloc (tyMO t)).alloc mvZ):=((Bl.refl w).alloc _).alloc _
 have z0:=(H.y.bl B0).hb
 have z1:=c0_of L0
 have z2:=c1_of L0
 have HB:Hid (Bl w ((w.alloc (tyMO t)).alloc mvZ)):=B0
 have HL0:=hid L0
 have HL1:=hid L1
 clear H hs F hf hv ho L0 L1 B0
 go_enter Try.func114,Try.ntmps114
 go_wp2
 go_region_held3 (fun w'=>w'.cell? ⟨a.q,0,none⟩=some (.pointer (some ⟨g.hb,0,none⟩))∧w'.cell? ⟨w.heap.size,0,none⟩=some (.int .i64 t.kind)∧w'.cell? ⟨w.heap.size,1,none⟩=some (.int .i64 t.cls))
  (go_keep)
  (first
   | (go_at_call 111;refine (HH.out.y.useY (by first|exact HB.out.drew|exact HB.out) (fun X wx w H=>mtake_yes s X wx w0 g h qs a c l v w H HS.out)).mono ?_;rintro e w1 ⟨rfl,H1,K1⟩;have q0:=K1.at (Xp.new (Nat.le_refl _) (lt_w2a w _ _)) HL0.out;have q1:=K1.at (Xp.new (Nat.le_succ _) (lt_w2b w _ _)) HL1.out;have d0:=H1.hb;have d1:=c0_of q0;have d2:=c1_of q0;have H1:=hid H1;have K1:=hid K1;have q0:=hid q0;have q1:=hid q1)
   | (go_at_call 133;refine (mfit_yes g h v t _ (H1.out.x.rd HF.out.1 HF.out.2) HO.out.1 HO.out.2).mono ?_;rintro e w2 ⟨rfl,b2⟩;have e0:=b2.cell d0;have e1:=b2.cell d1;have e2:=b2.cell d2;have q2:=bl_blk b2 q1.out;have f4:=c0_of q2;have f5:=c1_of q2;have fz:=free_blk q2;have b2:=hid b2;have q2:=hid q2))
 go_wp2
 refine bodyPost_ret (results_cell_row rfl _ _ (w.heap.size+1) _ _ _ _ rfl (set_two q2.out) Try.underlying109 rfl info_mv) rfl ?_
 refine ⟨rfl,RXY.x (RXY.set (RXY.set (H1.out.bl b2.out) ?_ 0 _) ?_ 1 _)⟩<;>exact Xp.old (Xp.new (Nat.le_succ _) (lt_w2b w _ _))
set_option maxRecDepth 100000 in
theorem takeType_none (s:Nat) (X:Nat→Prop) (wx w0:World) (g:Mg) (h:Hp) (qs:List Nat) (a:Mc) (c:Cal) (t:Ty) (w:World) (H:RX s X wx w0 g w h qs a c) (F:Fix w0 g h) (hf:h.objs.length≤100) (hs:c.stk=[]) :
  Calls Try.prog 114 #[.pointer (some ⟨a.q,0,none⟩),tyMV t] w fun e w'=>e=stopE 6 0 0∧RS s X wx w0 g w' h qs a c:=by
 have HH:Hid (RX s X wx w0 g w h qs a c):=H
 have hq:=H.qlt
 have HF:Hid (Fix w0 g h∧h.objs.length≤100):=⟨F,hf⟩
 obtain ⟨L0,L1⟩:=two_lie w #[.int .i64 t.kind,.int .i64 t.cls] #[.int .i64 0,.int .i64 0] 54 109
 have B0:Bl w ((w.alloc (tyMO t)).alloc mvZ):=((Bl.refl w).alloc _).alloc _
 have z0:=hid (H.y.bl B0).hb
 have z1:=hid (c0_of L0)
 have z2:=hid (c1_of L0)
 have HB:Hid (Bl w ((w.alloc (tyMO t)).alloc mvZ)):=B0
 have HL0:=hid L0
 have HL1:=hid L1
 have HS:Hid (c.stk=[]):=hs
 clear H hs F hf L0 L1 B0
 go_enter Try.func114,Try.ntmps114
 go_wp2
 refine wp_region_held_drew (S:=fun w'=>w'.cell? ⟨a.q,0,none⟩=some (.pointer (some ⟨g.hb,0,none⟩))∧w'.cell? ⟨w.heap.size,0,none⟩=some (.int .i64 t.kind)∧w'.cell? ⟨w.heap.size,1,none⟩=some (.int .i64 t.cls)) (by kernel_rfl) ?_ (fun hHeld0=>?_)
 ·exact ⟨z0.out,z1.out,z2.out⟩
 refine tk (i:=0) (d:=some 5) rfl rfl (by kernel_rfl) (fun _ _ _ h=>h) (by rfl) (by intro _ h;(try dsimp only at h);go_split_ands;go_simp<;>with_reducible rfl) hHeld0 ?_
 try simp only [aS,aN,aT,a0,a1]
 refine tk (i:=1) (d:=some 6) rfl rfl (by kernel_rfl) (fun _ _ _ h=>h) (by rfl) (by intro _ h;(try dsimp only at h);go_split_ands;go_simp<;>with_reducible rfl) hHeld0 ?_
 try simp only [aS,aN,aT,a0,a1]
 refine tk (i:=2) (d:=some 7) rfl rfl (by kernel_rfl) (fun _ _ _ h=>h) (by rfl) (by intro _ h;(try dsimp only at h);go_split_ands;go_simp<;>with_reducible rfl) hHeld0 ?_
 try simp only [aS,aN,aT,a0,a1]
 refine tk (i:=3) (d:=some 8) rfl rfl (by kernel_rfl) (fun _ _ _ h=>h) (by rfl) (by intro _ h;(try dsimp only at h);go_split_ands;go_simp<;>with_reducible rfl) hHeld0 ?_
 try simp only [aS,aN,aT,a0,a1]
 refine tk (i:=4) (d:=some 9) rfl rfl (by kernel_rfl) (fun _ _ _ h=>h) (by rfl) (by intro _ h;(try dsimp only at h);go_split_ands;go_simp<;>with_reducible rfl) hHeld0 ?_
 try simp only [aS,aN,aT,a0,a1]
 refine tk (i:=6) (d:=some 11) rfl rfl (by kernel_rfl) (fun _ _ _ h=>h) (by rfl) (by intro _ h;(try dsimp only at h);go_split_ands;go_simp<;>with_reducible rfl) hHeld0 ?_
 try simp only [aS,aN,aT,a0,a1]
 refine wpAnyH_ready (rs:=[5]) (by kernel_rfl) (by simp) ?_
 refine AllReadyH.cons rfl (fun K hK=>?_) AllReadyH.nil
 go_simp
 go_at_call 111
 refine (HH.out.y.useY HB.out.drew (fun X wx w H=>mtake_no s X wx w0 g h qs a c w H HS.out)).mono ?_
 rintro e w1 ⟨rfl,H1,K1⟩
 exact ⟨rfl,rfl,H1.rs⟩
set_option maxRecDepth 100000 in
theorem takeType_bad (s:Nat) (X:Nat→Prop) (wx w0:World) (g:Mg) (h:Hp) (qs:List Nat) (a:Mc) (c:Cal) (l:List Va) (v:Va) (t:Ty) (w:World) (H:RX s X wx w0 g w h qs a c) (F:Fix w0 g h) (hf:h.objs.length≤100) (hs:c.stk=l++[v])
  (hv:v.kind=3→-1≤v.n∧v.n<h.objs.length) (ho:h.of v t=false) :
  Calls Try.prog 114 #[.pointer (some ⟨a.q,0,none⟩),tyMV t] w fun e w'=>e=stopE 6 0 0∧RS s X wx w0 g w' h qs a c:=by
 have HH:Hid (RX s X wx w0 g w h qs a c):=H
 have hq:=H.qlt
 have HF:Hid (Fix w0 g h∧h.objs.length≤100):=⟨F,hf⟩
 obtain ⟨L0,L1⟩:=two_lie w #[.int .i64 t.kind,.int .i64 t.cls] #[.int .i64 0,.int .i64 0] 54 109
 have B0:Bl w ((w.alloc (tyMO t)).alloc mvZ):=((Bl.refl w).alloc _).alloc _
 have z0:=hid (H.y.bl B0).hb
 have z1:=hid (c0_of L0)
 have z2:=hid (c1_of L0)
 have HB:Hid (Bl w ((w.alloc (tyMO t)).alloc mvZ)):=B0
 have HL0:=hid L0
 have HL1:=hid L1
 have HS:Hid (c.stk=l++[v]):=hs
 have HO:Hid ((v.kind=3→-1≤v.n∧v.n<h.objs.length)∧h.of v t=false):=⟨hv,ho⟩
 clear H hs F hf hv ho L0 L1 B0
 go_enter Try.func114,Try.ntmps114
 go_wp2
 refine wp_region_held_drew (S:=fun w'=>w'.cell? ⟨a.q,0,none⟩=some (.pointer (some ⟨g.hb,0,none⟩))∧w'.cell? ⟨w.heap.size,0,none⟩=some (.int .i64 t.kind)∧w'.cell? ⟨w.heap.size,1,none⟩=some (.int .i64 t.cls)) (by kernel_rfl) ?_ (fun hHeld0=>?_)
 ·exact ⟨z0.out,z1.out,z2.out⟩
 refine tk (i:=0) (d:=some 5) rfl rfl (by kernel_rfl) (fun _ _ _ h=>h) (by rfl) (by intro _ h;(try dsimp only at h);go_split_ands;go_simp<;>with_reducible rfl) hHeld0 ?_
 try simp only [aS,aN,aT,a0,a1]
 refine tk (i:=1) (d:=some 6) rfl rfl (by kernel_rfl) (fun _ _ _ h=>h) (by rfl) (by intro _ h;(try dsimp only at h);go_split_ands;go_simp<;>with_reducible rfl) hHeld0 ?_
 try simp only [aS,aN,aT,a0,a1]
 refine tk (i:=2) (d:=some 7) rfl rfl (by kernel_rfl) (fun _ _ _ h=>h) (by rfl) (by intro _ h;(try dsimp only at h);go_split_ands;go_simp<;>with_reducible rfl) hHeld0 ?_
 try simp only [aS,aN,aT,a0,a1]
 refine tk (i:=3) (d:=some 8) rfl rfl (by kernel_rfl) (fun _ _ _ h=>h) (by rfl) (by intro _ h;(try dsimp only at h);go_split_ands;go_simp<;>with_reducible rfl) hHeld0 ?_
 try simp only [aS,aN,aT,a0,a1]
 refine tk (i:=4) (d:=some 9) rfl rfl (by kernel_rfl) (fun _ _ _ h=>h) (by rfl) (by intro _ h;(try dsimp only at h);go_split_ands;go_simp<;>with_reducible rfl) hHeld0 ?_
 try simp only [aS,aN,aT,a0,a1]
 refine tk (i:=6) (d:=some 11) rfl rfl (by kernel_rfl) (fun _ _ _ h=>h) (by rfl) (by intro _ h;(try dsimp only at h);go_split_ands;go_simp<;>with_reducible rfl) hHeld0 ?_
 try simp only [aS,aN,aT,a0,a1]
 refine wpAnyH_ready (rs:=[5]) (by kernel_rfl) (by simp) ?_
 refine AllReadyH.cons rfl (fun K hK=>?_) AllReadyH.nil
 go_simp
 go_at_call 111
 refine (HH.out.y.useY HB.out.drew (fun X wx w H=>mtake_yes s X wx w0 g h qs a c l v w H HS.out)).mono ?_
 rintro e w1 ⟨rfl,H1,K1⟩
 have q0:=K1.at (Xp.new (Nat.le_refl _) (lt_w2a w _ _)) HL0.out
 have d0:=hid (H1.hb)
 have d1:=hid (c0_of q0)
 have d2:=hid (c1_of q0)
 have H1:=hid H1
 go_wp2_with fail
 refine hK.out _ _ (⟨d0.out,d1.out,d2.out⟩) (fun hHeld1=>?_)
 try simp only [aS,aN,aT,a0,a1]
 refine wpAnyH_ready (rs:=[7]) (by kernel_rfl) (by simp) ?_
 refine AllReadyH.cons rfl (fun K hK=>?_) AllReadyH.nil
 go_simp
 go_at_call 133
 refine (mfit_no g h v t _ (H1.out.x.rd HF.out.1 HF.out.2) HO.out.1 HO.out.2).mono ?_
 rintro e w2 ⟨rfl,b2⟩
 exact ⟨rfl,rfl,(H1.out.bl b2).rs.of rfl ⟨rfl,rfl⟩⟩
theorem takeType_no (s:Nat) (X:Nat→Prop) (wx w0:World) (g:Mg) (h:Hp) (qs:List Nat) (a:Mc) (c:Cal) (t:Ty) (w:World) (H:RX s X wx w0 g w h qs a c) (F:Fix w0 g h) (hf:h.objs.length≤100)
  (hs:c.stk=[]∨∃(l:List Va) (v:Va),c.stk=l++[v]∧(v.kind=3→-1≤v.n∧v.n<h.objs.length)∧h.of v t=false) :
  Calls Try.prog 114 #[.pointer (some ⟨a.q,0,none⟩),tyMV t] w fun e w'=>e=stopE 6 0 0∧RS s X wx w0 g w' h qs a c:=by
 rcases hs with hs|⟨l,v,hs,hv,ho⟩
 ·exact takeType_none s X wx w0 g h qs a c t w H F hf hs
 ·exact takeType_bad s X wx w0 g h qs a c l v t w H F hf hs hv ho
theorem results_cells {P:Program} {fn:Func} {p q:Tmp} {ty:TypeId} (h:fn.results=#[.cell p ty,.cell q ty]) (tmps:Array Value) (w:World) (b b':Nat) (t:TypeId) (cs ds:Array Value) (fr fr':Nat×Nat) (d:TypeDesc)
  (hp:tmps.getD p undef=.pointer (some ⟨b,0,none⟩)) (hq:tmps.getD q undef=.pointer (some ⟨b',0,none⟩)) (hb:w.heap[b]?=some (.cells cs t fr)) (hb':w.heap[b']?=some (.cells ds t fr'))
  (hu:P.underlying ty=some d) (hd:(match d with | .struct _ | .array _ _=>true|_=>false)=true) (hi:(P.info? ty).map (·.size)=some cs.size) (hi':(P.info? ty).map (·.size)=some ds.size) :
  (results fn tmps).run P w=.ok (.tuple #[.agg cs,.agg ds]) w:=by
 have hp':tmps[p]?.getD undef=.pointer (some ⟨b,0,none⟩):=by simpa using hp
 have hq':tmps[q]?.getD undef=.pointer (some ⟨b',0,none⟩):=by simpa using hq
 simp [results,h,hp',hq',asAddr,run_loadVar_row w b t ty cs fr d hb hu hd hi,run_loadVar_row w b' t ty ds fr' d hb' hu hd hi']
theorem set_two_far {w:World} {b b':Nat} {o:Obj} (h:w.heap[b]?=some o) (hb:b≠b') (k n:Value):((w.setCell ⟨b',0,none⟩ k).setCell ⟨b',1,none⟩ n).heap[b]?=some o:=by rw [block_far hb,block_far hb];exact h
set_option maxRecDepth 100000 in
theorem takeTwo_yes (s:Nat) (X:Nat→Prop) (wx w0:World) (g:Mg) (h:Hp) (qs:List Nat) (a:Mc) (c:Cal) (l:List Va) (u v:Va) (k:Int) (w:World) (H:RX s X wx w0 g w h qs a c) (hs:c.stk=l++[u,v]) (hu:u.kind=k) (hv:v.kind=k) :
  Calls Try.prog 135 #[.pointer (some ⟨a.q,0,none⟩),.int .i64 k] w fun e w'=>e=.returned (.tuple #[mvV (im u),mvV (im v)])∧RX s X wx w0 g w' h qs a { c with stk:=l }:=by
 have HH:Hid (RX s X wx w0 g w h qs a c):=H
 have HS:Hid (c.stk=(l++[u])++[v]):=by show c.stk=(l++[u])++[v];rw [hs];simp
 have HK:Hid (u.kind=k∧v.kind=k):=⟨hu,hv⟩
 obtain ⟨L0,L1⟩:=two_lie w #[.int .i64 0,.int .i64 0] #[.int .i64 0,.int .i64 0] 109 109
 have HB:Hid (Bl w ((w.alloc mvZ).alloc mvZ)):=((Bl.refl w).alloc _).alloc _
 have HL0:=hid L0
 have HL1:=hid L1
 have hne1:w.heap.size+1≠w.heap.size:=by omega
 have hne2:w.heap.size≠w.heap.size+1:=by omega
 clear H hs hu hv L0 L1
 go_enter Try.func135,Try.ntmps135
 go_wp2_with (go_at_call 89;refine (HH.out.y.useY HB.out (fun X wx w H=>takeKind_yes s X wx w0 g h qs a c (l++[u]) v k w H HS.out HK.out.2)).mono ?_;rintro e w1 ⟨rfl,H1,K1⟩;have q0:=K1.at (Xp.new (Nat.le_refl _) (lt_w2a w _ _)) HL0.out;have q1:=K1.at (Xp.new (Nat.le_succ _) (lt_w2b w _ _)) HL1.out;have d4:=c0_of q1;have d5:=c1_of q1;have fz:=free_blk q1;replace H1:=hid H1;clear K1;replace q0:=hid q0;replace q1:=hid q1)
 have y1:Xp noY w.heap.size ((w.alloc mvZ).alloc mvZ).heap.size (w.heap.size+1):=Xp.new (Nat.le_succ _) (lt_w2b w _ _)
 have y0:Xp noY w.heap.size ((w.alloc mvZ).alloc mvZ).heap.size w.heap.size:=Xp.new (Nat.le_refl _) (lt_w2a w _ _)
 have H2:=RXY.set (RXY.set H1.out y1 0 (.int .i64 (im v).kind)) y1 1 (.int .i64 (im v).n)
 have r0:=hid (set_two_far q0.out hne2 (.int .i64 (im v).kind) (.int .i64 (im v).n))
 have r1:=hid (set_two (k':=.int .i64 (im v).kind) (n':=.int .i64 (im v).n) q1.out)
 generalize (w1.setCell ⟨w.heap.size+1,0,none⟩ (.int .i64 (im v).kind)).setCell ⟨w.heap.size+1,1,none⟩ (.int .i64 (im v).n)=W2 at *
 clear H1 q0 q1 d4 d5 fz
 replace H2:=hid H2
 go_at_call 89
 refine (H2.out.useY (Bl.refl _) (fun X wx w H=>takeKind_yes s X wx w0 g h qs a { c with stk:=l++[u] } l u k w H rfl HK.out.1)).mono ?_
 rintro e w3 ⟨rfl,H3,K3⟩
 have p0:=K3.at (Xp.old y0) r0.out
 have p1:=K3.at (Xp.old y1) r1.out
 have d4:=c0_of p0
 have d5:=c1_of p0
 have fz:=free_blk p0
 replace H3:=hid H3
 replace p0:=hid p0
 replace p1:=hid p1
 clear K3 r0 r1 H2
 go_wp2
 have H4:=RXY.set (RXY.set H3.out (Xp.old y0) 0 (.int .i64 (im u).kind)) (Xp.old y0) 1 (.int .i64 (im u).n)
 have s1:=set_two_far p1.out hne1 (.int .i64 (im u).kind) (.int .i64 (im u).n)
 have s0:=set_two (k':=.int .i64 (im u).kind) (n':=.int .i64 (im u).n) p0.out
 generalize (w3.setCell ⟨w.heap.size,0,none⟩ (.int .i64 (im u).kind)).setCell ⟨w.heap.size,1,none⟩ (.int .i64 (im u).n)=W4 at *
 clear H3 p0 p1 d4 d5 fz
 have a0:=c0_of s0
 have a1:=c1_of s0
 have a2:=c0_of s1
 have a3:=c1_of s1
 have az:=free_blk s0
 have bz:=free_blk s1
 replace H4:=hid H4
 replace s0:=hid s0
 replace s1:=hid s1
 go_region
 go_wp2
 have t0:=set_two_far (set_two (k':=.int .i64 (im u).kind) (n':=.int .i64 (im u).n) s0.out) hne2 (.int .i64 (im v).kind) (.int .i64 (im v).n)
 have t1:=set_two (k':=.int .i64 (im v).kind) (n':=.int .i64 (im v).n) (set_two_far s1.out hne1 (.int .i64 (im u).kind) (.int .i64 (im u).n))
 have H5:=RXY.set (RXY.set (RXY.set (RXY.set H4.out (Xp.old y0) 0 (.int .i64 (im u).kind)) (Xp.old y0) 1 (.int .i64 (im u).n)) (Xp.old y1) 0 (.int .i64 (im v).kind)) (Xp.old y1) 1 (.int .i64 (im v).n)
 refine bodyPost_ret (results_cells rfl _ _ w.heap.size (w.heap.size+1) _ _ _ _ _ _ rfl rfl t0 t1 Try.underlying109 rfl info_mv info_mv) rfl ?_
 exact ⟨rfl,H5.x.bl (Bl.refl _).drew⟩
set_option maxRecDepth 100000 in
theorem takeTwo_none (s:Nat) (X:Nat→Prop) (wx w0:World) (g:Mg) (h:Hp) (qs:List Nat) (a:Mc) (c:Cal) (k:Int) (w:World) (H:RX s X wx w0 g w h qs a c) (hs:c.stk=[]∨∃l v,c.stk=l++[v]∧v.kind≠k) :
  Calls Try.prog 135 #[.pointer (some ⟨a.q,0,none⟩),.int .i64 k] w fun e w'=>e=stopE 6 0 0∧RS s X wx w0 g w' h qs a c:=by
 have HH:Hid (RX s X wx w0 g w h qs a c):=H
 have HS:=hid hs
 have HB:Hid (Bl w ((w.alloc mvZ).alloc mvZ)):=((Bl.refl w).alloc _).alloc _
 clear H hs
 go_enter Try.func135,Try.ntmps135
 go_wp2_with (go_at_call 89;refine (HH.out.y.useN HB.out (fun X wx w H=>takeKind_no s X wx w0 g h qs a c k w H HS.out)).mono ?_;rintro e w1 ⟨rfl,H1⟩;replace H1:=hid H1)
 exact ⟨rfl,rfl,H1.out⟩
set_option maxRecDepth 100000 in
theorem takeTwo_one (s:Nat) (X:Nat→Prop) (wx w0:World) (g:Mg) (h:Hp) (qs:List Nat) (a:Mc) (c:Cal) (l:List Va) (v:Va) (k:Int) (w:World) (H:RX s X wx w0 g w h qs a c) (hs:c.stk=l++[v]) (hv:v.kind=k) (hl:l=[]∨∃l' u,l=l'++[u]∧u.kind≠k) :
  Calls Try.prog 135 #[.pointer (some ⟨a.q,0,none⟩),.int .i64 k] w fun e w'=>e=stopE 6 0 0∧RS s X wx w0 g w' h qs a c:=by
 have HH:Hid (RX s X wx w0 g w h qs a c):=H
 have HS:=hid hs
 have HK:=hid hv
 have HLL:=hid hl
 obtain ⟨L0,L1⟩:=two_lie w #[.int .i64 0,.int .i64 0] #[.int .i64 0,.int .i64 0] 109 109
 have HB:Hid (Bl w ((w.alloc mvZ).alloc mvZ)):=((Bl.refl w).alloc _).alloc _
 have HL1:=hid L1
 clear H hs hv hl L0 L1
 have HY1:Hid (Xp noY w.heap.size ((w.alloc mvZ).alloc mvZ).heap.size (w.heap.size+1)):=Xp.new (Nat.le_succ _) (lt_w2b w _ _)
 go_enter Try.func135,Try.ntmps135
 go_wp2_with (go_at_call 89;first
  | (refine (HH.out.y.useY HB.out (fun X wx w H=>takeKind_yes s X wx w0 g h qs a c l v k w H HS.out HK.out)).mono ?_;rintro e w1 ⟨rfl,H1,K1⟩;have q1:=K1.at (Xp.new (Nat.le_succ _) (lt_w2b w _ _)) HL1.out;have d4:=c0_of q1;have d5:=c1_of q1;have fz:=free_blk q1;replace H1:=hid H1;clear K1;replace q1:=hid q1)
  | (refine ((RXY.set (RXY.set H1.out HY1.out 0 _) HY1.out 1 _).useN (Bl.refl _) (fun X wx w H=>takeKind_no s X wx w0 g h qs a { c with stk:=l } k w H HLL.out)).mono ?_;rintro e w2 ⟨rfl,H2⟩;replace H2:=hid H2))
 exact ⟨rfl,rfl,H2.out.of rfl ⟨rfl,rfl⟩⟩
theorem takeTwo_no (s:Nat) (X:Nat→Prop) (wx w0:World) (g:Mg) (h:Hp) (qs:List Nat) (a:Mc) (c:Cal) (k:Int) (w:World) (H:RX s X wx w0 g w h qs a c) (hs:∀l u v,c.stk=l++[u,v]→u.kind=k→v.kind=k→False) :
  Calls Try.prog 135 #[.pointer (some ⟨a.q,0,none⟩),.int .i64 k] w fun e w'=>e=stopE 6 0 0∧RS s X wx w0 g w' h qs a c:=by
 rcases List.eq_nil_or_concat c.stk with h0|⟨l,v,h0⟩
 ·exact takeTwo_none s X wx w0 g h qs a c k w H (Or.inl h0)
 ·rw [List.concat_eq_append] at h0
  by_cases hv:v.kind=k
  ·refine takeTwo_one s X wx w0 g h qs a c l v k w H h0 hv ?_
   rcases List.eq_nil_or_concat l with h1|⟨l',u,h1⟩
   ·exact Or.inl h1
   ·rw [List.concat_eq_append] at h1
    refine Or.inr ⟨l',u,h1,fun hu=>hs l' u v ?_ hu hv⟩
    rw [h0,h1];simp
  ·exact takeTwo_none s X wx w0 g h qs a c k w H (Or.inr ⟨l,v,h0,hv⟩)
end Go.Proofs.Ytgiiapenmjollaa
