import Derived.Test.YtimjmdfokicbkaaSlai
import Derived.Test.YtimjmdfokicbkaaSlaj
import Derived.Test.YtimjmdfokicbkaaSlak
import Derived.Test.YtimjmdfokicbkaaSlal
namespace Go.Proofs.Ytimjmdfokicbkaa
set_option linter.unusedVariables false
set_option linter.unusedSimpArgs false
set_option maxHeartbeats 40000000
open Go.RowKit
set_option maxRecDepth 100000 in
theorem write_long (lb lc n:Nat) (l:List Va) (v:Va) (w:World) (B:LBox w lb l) (hn:n+1<l.length) (hl:l.length≤1000) (hk:v.kind=2) :
  Calls Try.prog 85 #[.slice (some ⟨lb,0,none⟩) l.length lc,.int .i64 (n:Int),mvV v] w fun e w'=>e=.returned (.tuple #[])∧LBox w' lb ((l.set n v).set (n+1) ⟨4,0⟩)∧w.grownBy w' (some lb):=by
 obtain ⟨vk,vn⟩:=v
 dsimp only at hk
 subst hk
 have x0:=B.c0 (i:=n) (by omega)
 have x1:=B.c1 (i:=n) (by omega)
 have x2:=B.c0 (i:=n+1) hn
 have x3:=B.c1 (i:=n+1) hn
 have fz:=free_blk B.blk
 have hlt:=lt_some B.blk
 have hn0:(0:Int)≤(n:Int):=by omega
 have hn1:(n:Int)<(l.length:Int):=by omega
 have hn2:(0:Int)≤(n:Int)+1:=by omega
 have hn3:(n:Int)+1<(l.length:Int):=by omega
 have HB:=hid B
 have hne:lb≠w.heap.size:=by omega
 have hn':n<l.length:=by omega
 clear B
 go_enter Try.func85,Try.ntmps85
 go_wp2
 go_end0
 have h1:=HB.out.set hn' (⟨2,vn⟩:Va)
 have h2:=h1.set (i:=n+1) (by rw [List.length_set];exact hn) (⟨4,0⟩:Va)
 exact ⟨rfl,h2.bl ((Bl.refl _).alloc _),grown_trans (grown_trans (grown_trans (grown_trans (grown_set lb _ _) (grown_set lb _ _)) (grown_set lb _ _)) (grown_set lb _ _)) (World.grownBy_alloc _ _ _)⟩
theorem CA.lbox {w0 w:World} {g:Mg} {a:Mc} {c:Cal} {l:List Va} {vs:Value} (H:CA w0 g w a c l vs):LBox w a.lb l:=⟨H.loc⟩
theorem read_yes {w0:World} {g:Mg} {a:Mc} {c:Cal} {l:List Va} {vs:Value} {w:World} (H:CA w0 g w a c l vs) (n:Nat) (k:Int) (hn:n<c.locs.length) (hk:1≤k∧k≤3) (h2:k=2→n+1<c.locs.length) (hv:(nth va0 c.locs n).kind=k) :
  Calls Try.prog 116 #[.slice (some ⟨a.lb,0,none⟩) c.locs.length a.lc,.int .i64 (n:Int),.int .i64 k] w fun e w'=>e=.returned (mvV (im (nth va0 c.locs n)))∧Bl w w':=by
 have hl:=H.rel.len
 have hs:=H.short
 have e:=H.rel.rd n (by omega) (by omega)
 rw [←hl,←e]
 by_cases h:k=2
 ·subst h
  exact read_long a.lb a.lc n l w H.lbox (by have:=h2 rfl;omega) (by omega) (by rw [e];exact hv) (H.rel.long n hv)
 ·exact read_num a.lb a.lc n l k w H.lbox (by omega) (by omega) (by rw [e];exact hv) h
theorem read_no {w0:World} {g:Mg} {a:Mc} {c:Cal} {l:List Va} {vs:Value} {w:World} (H:CA w0 g w a c l vs) (n:Nat) (k:Int) (hn:n<c.locs.length) (hk:1≤k∧k≤3) (h2:k=2→n+1<c.locs.length) (hv:(nth va0 c.locs n).kind≠k) :
  Calls Try.prog 116 #[.slice (some ⟨a.lb,0,none⟩) c.locs.length a.lc,.int .i64 (n:Int),.int .i64 k] w fun e w'=>e=stopE 6 0 0∧Bl w w':=by
 have hl:=H.rel.len
 have hs:=H.short
 rw [←hl]
 by_cases hm:(nth va0 l n).kind=k
 ·by_cases h:k=2
  ·subst h
   refine read_lost a.lb a.lc n l w H.lbox (by have:=h2 rfl;omega) (by omega) hm fun h4=>hv ?_
   rw [H.rel.back n (by omega) (by omega) (fun _=>h4)]
   exact hm
  ·exact absurd ((H.rel.back n (by omega) (by omega) (fun q=>absurd (hm.symm.trans q) h)).trans hm) hv
 ·exact read_kind a.lb a.lc n l k w H.lbox (by omega) (by omega) hm
theorem RXA.setl {s:Nat} {X:Nat→Prop} {wx w0 w w':World} {g:Mg} {h:Hp} {qs:List Nat} {a:Mc} {c:Cal} {vc vo vx vs:Value} {l l':List Va} (H:RXA s X wx w0 g w h qs a c vc vo vx vs l) (hg:w.grownBy w' (some a.lb)) (hb:LBox w' a.lb l') {L:List Va} (hr:LRel L l') (hL:L.length=c.locs.length) :
  RXA s X wx w0 g w' h qs a { c with locs:=L } vc vo vx vs l':=by
 have hf:=(H.ca.far H.rh).2.1
 have hql:a.q≠a.lb:=blk_ne H.ca.blk H.ca.loc (by decide)
 refine ⟨H.rh.kept hg (fun b e=>?_),⟨H.ca.own,H.ca.ownl,?_,hb.blk,hr,H.ca.stk.kept hg (Or.inr H.ca.apart),H.ca.apart,H.ca.me,by dsimp only;rw [hL];exact H.ca.short,H.ca.kinds⟩,H.farr,H.farc,H.kept.kept hg (fun b e hx=>?_)⟩
 ·cases e;exact ⟨H.ca.ownl,hf⟩
 ·have:=grown_blk hg H.ca.blk (fun e=>hql (Option.some.inj e).symm)
  rw [this]
  unfold callRow
  dsimp only
  rw [hL]
 ·cases e;exact (H.farc _ hx).l rfl
theorem write_any (s:Nat) (X:Nat→Prop) (wx w0:World) (g:Mg) (h:Hp) (qs:List Nat) (a:Mc) (c:Cal) (n:Nat) (v:Va) (w:World) (H:RX s X wx w0 g w h qs a c) (hn:n<c.locs.length) (hv:1≤v.kind∧v.kind≤3) (h2:v.kind=2→n+1<c.locs.length) :
  Calls Try.prog 85 #[.slice (some ⟨a.lb,0,none⟩) c.locs.length a.lc,.int .i64 (n:Int),mvV (im v)] w fun e w'=>e=.returned (.tuple #[])∧RX s X wx w0 g w' h qs a { c with locs:=stoP c.locs n v }:=by
 obtain ⟨vc,vo,vx,vs,l,H⟩:=H
 have hl:=H.ca.rel.len
 have hs:=H.ca.short
 have hr:=H.ca.rel.sto hn v hv h2
 have hL:(stoP c.locs n v).length=c.locs.length:=sto_length _ _ _
 by_cases hk:v.kind=2
 ·have e:stoM l n (im v)=(l.set n (im v)).set (n+1) ⟨4,0⟩:=by unfold stoM;rw [if_pos (by exact hk)]
  rw [e] at hr
  rw [←hl]
  refine (write_long a.lb a.lc n l (im v) w H.ca.lbox (by have:=h2 hk;omega) (by omega) hk).mono ?_
  rintro x w' ⟨rfl,h3,h4⟩
  exact ⟨rfl,vc,vo,vx,vs,_,H.setl h4 h3 hr hL⟩
 ·have e:stoM l n (im v)=l.set n (im v):=by unfold stoM;rw [if_neg (by exact hk)]
  rw [e] at hr
  rw [←hl]
  refine (write_num a.lb a.lc n l (im v) w H.ca.lbox (by omega) (by omega) hk).mono ?_
  rintro x w' ⟨rfl,h3,h4⟩
  exact ⟨rfl,vc,vo,vx,vs,_,H.setl h4 h3 hr hL⟩
theorem RXY.hb {s:Nat} {X Y:Nat→Prop} {wx w0 w:World} {g:Mg} {h:Hp} {qs:List Nat} {a:Mc} {c:Cal} (H:RXY s X Y wx w0 g w h qs a c):w.cell? ⟨a.q,0,none⟩=some (.pointer (some ⟨g.hb,0,none⟩)):=by
 obtain ⟨vc,vo,vx,vs,l,H,F⟩:=H
 exact H.ca.cells.c0
theorem RX.qlt {s:Nat} {X:Nat→Prop} {wx w0 w:World} {g:Mg} {h:Hp} {qs:List Nat} {a:Mc} {c:Cal} (H:RX s X wx w0 g w h qs a c):a.q<w.heap.size:=by
 obtain ⟨vc,vo,vx,vs,l,H⟩:=H
 exact lt_some H.ca.blk
theorem two_lie (w:World) (a b:Array Value) (s t:TypeId):((w.alloc (.cells a s)).alloc (.cells b t)).heap[w.heap.size]?=some (.cells a s (0,0))∧((w.alloc (.cells a s)).alloc (.cells b t)).heap[w.heap.size+1]?=some (.cells b t (0,0)):=by
 have h1:(w.alloc (.cells a s)).heap.size=w.heap.size+1:=by simp
 refine ⟨?_,?_⟩
 ·rw [Below.heap_alloc _ _ _ (by omega)];exact blk_new _ _ _
 ·rw [←h1];exact blk_new _ _ _
theorem lt_w1 (w:World) (o:Obj):w.heap.size<(w.alloc o).heap.size:=by simp
theorem lt_w2a (w:World) (o p:Obj):w.heap.size<((w.alloc o).alloc p).heap.size:=by simp;omega
theorem lt_w2b (w:World) (o p:Obj):w.heap.size+1<((w.alloc o).alloc p).heap.size:=by simp
set_option maxRecDepth 100000 in
theorem takeType_yes (s:Nat) (X:Nat→Prop) (wx w0:World) (g:Mg) (h:Hp) (qs:List Nat) (a:Mc) (c:Cal) (l:List Va) (v:Va) (t:Ty) (w:World) (H:RX s X wx w0 g w h qs a c) (F:Fix w0 g h) (hf:h.objs.length≤100) (hs:c.stk=l++[v])
  (hv:v.kind=3→-1≤v.n∧v.n<h.objs.length) (ho:h.of v t=true) :
  Calls Try.prog 113 #[.pointer (some ⟨a.q,0,none⟩),tyMV t] w fun e w'=>e=.returned (mvV (im v))∧RX s X wx w0 g w' h qs a { c with stk:=l }:=by
 have HH:Hid (RX s X wx w0 g w h qs a c):=H
 have hq:=H.qlt
 have hn0:w.heap.size≠a.q:=by omega
 have hn1:w.heap.size+1≠a.q:=by omega
 have HS:Hid (c.stk=l++[v]):=hs
 have HF:Hid (Fix w0 g h∧h.objs.length≤100):=⟨F,hf⟩
 have HO:Hid ((v.kind=3→-1≤v.n∧v.n<h.objs.length)∧h.of v t=true):=⟨hv,ho⟩
 obtain ⟨L0,L1⟩:=two_lie w #[.int .i64 t.kind,.int .i64 t.cls] #[.int .i64 0,.int .i64 0] 54 110
 have B0:Bl w ((w.alloc (tyMO t)).alloc mvZ):=((Bl.refl w).alloc _).alloc _
 have z0:=(H.y.bl B0).hb
 have z1:=c0_of L0
 have z2:=c1_of L0
 have HB:Hid (Bl w ((w.alloc (tyMO t)).alloc mvZ)):=B0
 have HL0:=hid L0
 have HL1:=hid L1
 clear H hs F hf hv ho L0 L1 B0
 go_enter Try.func113,Try.ntmps113
 go_wp2
 go_region_held3 (fun w'=>w'.cell? ⟨a.q,0,none⟩=some (.pointer (some ⟨g.hb,0,none⟩))∧w'.cell? ⟨w.heap.size,0,none⟩=some (.int .i64 t.kind)∧w'.cell? ⟨w.heap.size,1,none⟩=some (.int .i64 t.cls))
  (go_keep)
  (first
   | (go_at_call 110;refine (HH.out.y.useY (by first|exact HB.out.drew|exact HB.out) (fun X wx w H=>mtake_yes s X wx w0 g h qs a c l v w H HS.out)).mono ?_;rintro e w1 ⟨rfl,H1,K1⟩;have q0:=K1.at (Xp.new (Nat.le_refl _) (lt_w2a w _ _)) HL0.out;have q1:=K1.at (Xp.new (Nat.le_succ _) (lt_w2b w _ _)) HL1.out;have d0:=H1.hb;have d1:=c0_of q0;have d2:=c1_of q0;have H1:=hid H1;have K1:=hid K1;have q0:=hid q0;have q1:=hid q1)
   | (go_at_call 132;refine (mfit_yes g h v t _ (H1.out.x.rd HF.out.1 HF.out.2) HO.out.1 HO.out.2).mono ?_;rintro e w2 ⟨rfl,b2⟩;have e0:=b2.cell d0;have e1:=b2.cell d1;have e2:=b2.cell d2;have q2:=bl_blk b2 q1.out;have f4:=c0_of q2;have f5:=c1_of q2;have fz:=free_blk q2;have b2:=hid b2;have q2:=hid q2))
 go_wp2
 refine bodyPost_ret (results_cell_row rfl _ _ (w.heap.size+1) _ _ _ _ rfl (set_two q2.out) Try.underlying110 rfl info_mv) rfl ?_
 refine ⟨rfl,RXY.x (RXY.set (RXY.set (H1.out.bl b2.out) ?_ 0 _) ?_ 1 _)⟩<;>exact Xp.old (Xp.new (Nat.le_succ _) (lt_w2b w _ _))
set_option maxRecDepth 100000 in
theorem takeType_none (s:Nat) (X:Nat→Prop) (wx w0:World) (g:Mg) (h:Hp) (qs:List Nat) (a:Mc) (c:Cal) (t:Ty) (w:World) (H:RX s X wx w0 g w h qs a c) (F:Fix w0 g h) (hf:h.objs.length≤100) (hs:c.stk=[]) :
  Calls Try.prog 113 #[.pointer (some ⟨a.q,0,none⟩),tyMV t] w fun e w'=>e=stopE 6 0 0∧RS s X wx w0 g w' h qs a c:=by
 have HH:Hid (RX s X wx w0 g w h qs a c):=H
 have hq:=H.qlt
 have HF:Hid (Fix w0 g h∧h.objs.length≤100):=⟨F,hf⟩
 obtain ⟨L0,L1⟩:=two_lie w #[.int .i64 t.kind,.int .i64 t.cls] #[.int .i64 0,.int .i64 0] 54 110
 have B0:Bl w ((w.alloc (tyMO t)).alloc mvZ):=((Bl.refl w).alloc _).alloc _
 have z0:=hid (H.y.bl B0).hb
 have z1:=hid (c0_of L0)
 have z2:=hid (c1_of L0)
 have HB:Hid (Bl w ((w.alloc (tyMO t)).alloc mvZ)):=B0
 have HL0:=hid L0
 have HL1:=hid L1
 have HS:Hid (c.stk=[]):=hs
 clear H hs F hf L0 L1 B0
 go_enter Try.func113,Try.ntmps113
 go_wp2
 refine wp_region_held_drew (S:=fun w'=>w'.cell? ⟨a.q,0,none⟩=some (.pointer (some ⟨g.hb,0,none⟩))∧w'.cell? ⟨w.heap.size,0,none⟩=some (.int .i64 t.kind)∧w'.cell? ⟨w.heap.size,1,none⟩=some (.int .i64 t.cls)) (by kernel_rfl) ?_ (fun hHeld0=>?_)
 ·exact ⟨z0.out,z1.out,z2.out⟩
 refine tk (i:=0) (d:=some 5) rfl rfl (by kernel_rfl) (fun _ _ _ h=>h) (by rfl) (by intro _ h;(try dsimp only at h);go_split_ands;go_simp<;>with_reducible rfl) hHeld0 ?_
 try simp only [aS,aN,aT,a0,a1]
 refine tk (i:=1) (d:=some 6) rfl rfl (by kernel_rfl) (fun _ _ _ h=>h) (by rfl) (by intro _ h;(try dsimp only at h);go_split_ands;go_simp<;>with_reducible rfl) hHeld0 ?_
 try simp only [aS,aN,aT,a0,a1]
 refine tk (i:=2) (d:=some 7) rfl rfl (by kernel_rfl) (fun _ _ _ h=>h) (by rfl) (by intro _ h;(try dsimp only at h);go_split_ands;go_simp<;>with_reducible rfl) hHeld0 ?_
 try simp only [aS,aN,aT,a0,a1]
 refine tk (i:=3) (d:=some 8) rfl rfl (by kernel_rfl) (fun _ _ _ h=>h) (by rfl) (by intro _ h;(try dsimp only at h);go_split_ands;go_simp<;>with_reducible rfl) hHeld0 ?_
 try simp only [aS,aN,aT,a0,a1]
 refine tk (i:=4) (d:=some 9) rfl rfl (by kernel_rfl) (fun _ _ _ h=>h) (by rfl) (by intro _ h;(try dsimp only at h);go_split_ands;go_simp<;>with_reducible rfl) hHeld0 ?_
 try simp only [aS,aN,aT,a0,a1]
 refine tk (i:=6) (d:=some 11) rfl rfl (by kernel_rfl) (fun _ _ _ h=>h) (by rfl) (by intro _ h;(try dsimp only at h);go_split_ands;go_simp<;>with_reducible rfl) hHeld0 ?_
 try simp only [aS,aN,aT,a0,a1]
 refine wpAnyH_ready (rs:=[5]) (by kernel_rfl) (by simp) ?_
 refine AllReadyH.cons rfl (fun K hK=>?_) AllReadyH.nil
 go_simp
 go_at_call 110
 refine (HH.out.y.useY HB.out.drew (fun X wx w H=>mtake_no s X wx w0 g h qs a c w H HS.out)).mono ?_
 rintro e w1 ⟨rfl,H1,K1⟩
 exact ⟨rfl,rfl,H1.rs⟩
set_option maxRecDepth 100000 in
theorem takeType_bad (s:Nat) (X:Nat→Prop) (wx w0:World) (g:Mg) (h:Hp) (qs:List Nat) (a:Mc) (c:Cal) (l:List Va) (v:Va) (t:Ty) (w:World) (H:RX s X wx w0 g w h qs a c) (F:Fix w0 g h) (hf:h.objs.length≤100) (hs:c.stk=l++[v])
  (hv:v.kind=3→-1≤v.n∧v.n<h.objs.length) (ho:h.of v t=false) :
  Calls Try.prog 113 #[.pointer (some ⟨a.q,0,none⟩),tyMV t] w fun e w'=>e=stopE 6 0 0∧RS s X wx w0 g w' h qs a c:=by
 have HH:Hid (RX s X wx w0 g w h qs a c):=H
 have hq:=H.qlt
 have HF:Hid (Fix w0 g h∧h.objs.length≤100):=⟨F,hf⟩
 obtain ⟨L0,L1⟩:=two_lie w #[.int .i64 t.kind,.int .i64 t.cls] #[.int .i64 0,.int .i64 0] 54 110
 have B0:Bl w ((w.alloc (tyMO t)).alloc mvZ):=((Bl.refl w).alloc _).alloc _
 have z0:=hid (H.y.bl B0).hb
 have z1:=hid (c0_of L0)
 have z2:=hid (c1_of L0)
 have HB:Hid (Bl w ((w.alloc (tyMO t)).alloc mvZ)):=B0
 have HL0:=hid L0
 have HL1:=hid L1
 have HS:Hid (c.stk=l++[v]):=hs
 have HO:Hid ((v.kind=3→-1≤v.n∧v.n<h.objs.length)∧h.of v t=false):=⟨hv,ho⟩
 clear H hs F hf hv ho L0 L1 B0
 go_enter Try.func113,Try.ntmps113
 go_wp2
 refine wp_region_held_drew (S:=fun w'=>w'.cell? ⟨a.q,0,none⟩=some (.pointer (some ⟨g.hb,0,none⟩))∧w'.cell? ⟨w.heap.size,0,none⟩=some (.int .i64 t.kind)∧w'.cell? ⟨w.heap.size,1,none⟩=some (.int .i64 t.cls)) (by kernel_rfl) ?_ (fun hHeld0=>?_)
 ·exact ⟨z0.out,z1.out,z2.out⟩
 refine tk (i:=0) (d:=some 5) rfl rfl (by kernel_rfl) (fun _ _ _ h=>h) (by rfl) (by intro _ h;(try dsimp only at h);go_split_ands;go_simp<;>with_reducible rfl) hHeld0 ?_
 try simp only [aS,aN,aT,a0,a1]
 refine tk (i:=1) (d:=some 6) rfl rfl (by kernel_rfl) (fun _ _ _ h=>h) (by rfl) (by intro _ h;(try dsimp only at h);go_split_ands;go_simp<;>with_reducible rfl) hHeld0 ?_
 try simp only [aS,aN,aT,a0,a1]
 refine tk (i:=2) (d:=some 7) rfl rfl (by kernel_rfl) (fun _ _ _ h=>h) (by rfl) (by intro _ h;(try dsimp only at h);go_split_ands;go_simp<;>with_reducible rfl) hHeld0 ?_
 try simp only [aS,aN,aT,a0,a1]
 refine tk (i:=3) (d:=some 8) rfl rfl (by kernel_rfl) (fun _ _ _ h=>h) (by rfl) (by intro _ h;(try dsimp only at h);go_split_ands;go_simp<;>with_reducible rfl) hHeld0 ?_
 try simp only [aS,aN,aT,a0,a1]
 refine tk (i:=4) (d:=some 9) rfl rfl (by kernel_rfl) (fun _ _ _ h=>h) (by rfl) (by intro _ h;(try dsimp only at h);go_split_ands;go_simp<;>with_reducible rfl) hHeld0 ?_
 try simp only [aS,aN,aT,a0,a1]
 refine tk (i:=6) (d:=some 11) rfl rfl (by kernel_rfl) (fun _ _ _ h=>h) (by rfl) (by intro _ h;(try dsimp only at h);go_split_ands;go_simp<;>with_reducible rfl) hHeld0 ?_
 try simp only [aS,aN,aT,a0,a1]
 refine wpAnyH_ready (rs:=[5]) (by kernel_rfl) (by simp) ?_
 refine AllReadyH.cons rfl (fun K hK=>?_) AllReadyH.nil
 go_simp
 go_at_call 110
 refine (HH.out.y.useY HB.out.drew (fun X wx w H=>mtake_yes s X wx w0 g h qs a c l v w H HS.out)).mono ?_
 rintro e w1 ⟨rfl,H1,K1⟩
 have q0:=K1.at (Xp.new (Nat.le_refl _) (lt_w2a w _ _)) HL0.out
 have d0:=hid (H1.hb)
 have d1:=hid (c0_of q0)
 have d2:=hid (c1_of q0)
 have H1:=hid H1
 go_wp2_with fail
 refine hK.out _ _ (⟨d0.out,d1.out,d2.out⟩) (fun hHeld1=>?_)
 try simp only [aS,aN,aT,a0,a1]
 refine wpAnyH_ready (rs:=[7]) (by kernel_rfl) (by simp) ?_
 refine AllReadyH.cons rfl (fun K hK=>?_) AllReadyH.nil
 go_simp
 go_at_call 132
 refine (mfit_no g h v t _ (H1.out.x.rd HF.out.1 HF.out.2) HO.out.1 HO.out.2).mono ?_
 rintro e w2 ⟨rfl,b2⟩
 exact ⟨rfl,rfl,(H1.out.bl b2).rs.of rfl ⟨rfl,rfl⟩⟩
theorem takeType_no (s:Nat) (X:Nat→Prop) (wx w0:World) (g:Mg) (h:Hp) (qs:List Nat) (a:Mc) (c:Cal) (t:Ty) (w:World) (H:RX s X wx w0 g w h qs a c) (F:Fix w0 g h) (hf:h.objs.length≤100)
  (hs:c.stk=[]∨∃(l:List Va) (v:Va),c.stk=l++[v]∧(v.kind=3→-1≤v.n∧v.n<h.objs.length)∧h.of v t=false) :
  Calls Try.prog 113 #[.pointer (some ⟨a.q,0,none⟩),tyMV t] w fun e w'=>e=stopE 6 0 0∧RS s X wx w0 g w' h qs a c:=by
 rcases hs with hs|⟨l,v,hs,hv,ho⟩
 ·exact takeType_none s X wx w0 g h qs a c t w H F hf hs
 ·exact takeType_bad s X wx w0 g h qs a c l v t w H F hf hs hv ho
theorem results_cells {P:Program} {fn:Func} {p q:Tmp} {ty:TypeId} (h:fn.results=#[.cell p ty,.cell q ty]) (tmps:Array Value) (w:World) (b b':Nat) (t:TypeId) (cs ds:Array Value) (fr fr':Nat×Nat) (d:TypeDesc)
  (hp:tmps.getD p undef=.pointer (some ⟨b,0,none⟩)) (hq:tmps.getD q undef=.pointer (some ⟨b',0,none⟩)) (hb:w.heap[b]?=some (.cells cs t fr)) (hb':w.heap[b']?=some (.cells ds t fr'))
  (hu:P.underlying ty=some d) (hd:(match d with | .struct _ | .array _ _=>true|_=>false)=true) (hi:(P.info? ty).map (·.size)=some cs.size) (hi':(P.info? ty).map (·.size)=some ds.size) :
  (results fn tmps).run P w=.ok (.tuple #[.agg cs,.agg ds]) w:=by
 have hp':tmps[p]?.getD undef=.pointer (some ⟨b,0,none⟩):=by simpa using hp
 have hq':tmps[q]?.getD undef=.pointer (some ⟨b',0,none⟩):=by simpa using hq
 simp [results,h,hp',hq',asAddr,run_loadVar_row w b t ty cs fr d hb hu hd hi,run_loadVar_row w b' t ty ds fr' d hb' hu hd hi']
theorem set_two_far {w:World} {b b':Nat} {o:Obj} (h:w.heap[b]?=some o) (hb:b≠b') (k n:Value):((w.setCell ⟨b',0,none⟩ k).setCell ⟨b',1,none⟩ n).heap[b]?=some o:=by rw [block_far hb,block_far hb];exact h
theorem Bl.drewR {a w:World} (h:Bl a w):Bl a w.drew:=h.drew
set_option maxRecDepth 100000 in
theorem takeTwo_yes (s:Nat) (X:Nat→Prop) (wx w0:World) (g:Mg) (h:Hp) (qs:List Nat) (a:Mc) (c:Cal) (l:List Va) (u v:Va) (k:Int) (w:World) (H:RX s X wx w0 g w h qs a c) (hs:c.stk=l++[u,v]) (hu:u.kind=k) (hv:v.kind=k) :
  Calls Try.prog 134 #[.pointer (some ⟨a.q,0,none⟩),.int .i64 k] w fun e w'=>e=.returned (.tuple #[mvV (im u),mvV (im v)])∧RX s X wx w0 g w' h qs a { c with stk:=l }:=by
 have HH:Hid (RX s X wx w0 g w h qs a c):=H
 have HS:Hid (c.stk=(l++[u])++[v]):=by show c.stk=(l++[u])++[v];rw [hs];simp
 have HK:Hid (u.kind=k∧v.kind=k):=⟨hu,hv⟩
 obtain ⟨L0,L1⟩:=two_lie w #[.int .i64 0,.int .i64 0] #[.int .i64 0,.int .i64 0] 110 110
 have HB:Hid (Bl w ((w.alloc mvZ).alloc mvZ)):=((Bl.refl w).alloc _).alloc _
 have HL0:=hid L0
 have HL1:=hid L1
 have hne1:w.heap.size+1≠w.heap.size:=by omega
 have hne2:w.heap.size≠w.heap.size+1:=by omega
 clear H hs hu hv L0 L1
 go_enter Try.func134,Try.ntmps134
 go_wp2_with (go_at_call 88;refine (HH.out.y.useY HB.out (fun X wx w H=>takeKind_yes s X wx w0 g h qs a c (l++[u]) v k w H HS.out HK.out.2)).mono ?_;rintro e w1 ⟨rfl,H1,K1⟩;have q0:=K1.at (Xp.new (Nat.le_refl _) (lt_w2a w _ _)) HL0.out;have q1:=K1.at (Xp.new (Nat.le_succ _) (lt_w2b w _ _)) HL1.out;have d4:=c0_of q1;have d5:=c1_of q1;have fz:=free_blk q1;replace H1:=hid H1;clear K1;replace q0:=hid q0;replace q1:=hid q1)
 have y1:Xp noY w.heap.size ((w.alloc mvZ).alloc mvZ).heap.size (w.heap.size+1):=Xp.new (Nat.le_succ _) (lt_w2b w _ _)
 have y0:Xp noY w.heap.size ((w.alloc mvZ).alloc mvZ).heap.size w.heap.size:=Xp.new (Nat.le_refl _) (lt_w2a w _ _)
 have H2:=RXY.set (RXY.set H1.out y1 0 (.int .i64 (im v).kind)) y1 1 (.int .i64 (im v).n)
 have r0:=hid (set_two_far q0.out hne2 (.int .i64 (im v).kind) (.int .i64 (im v).n))
 have r1:=hid (set_two (k':=.int .i64 (im v).kind) (n':=.int .i64 (im v).n) q1.out)
 generalize (w1.setCell ⟨w.heap.size+1,0,none⟩ (.int .i64 (im v).kind)).setCell ⟨w.heap.size+1,1,none⟩ (.int .i64 (im v).n)=W2 at *
 clear H1 q0 q1 d4 d5 fz
 replace H2:=hid H2
 go_at_call 88
 refine (H2.out.useY (Bl.refl _) (fun X wx w H=>takeKind_yes s X wx w0 g h qs a { c with stk:=l++[u] } l u k w H rfl HK.out.1)).mono ?_
 rintro e w3 ⟨rfl,H3,K3⟩
 have p0:=K3.at (Xp.old y0) r0.out
 have p1:=K3.at (Xp.old y1) r1.out
 have d4:=c0_of p0
 have d5:=c1_of p0
 have fz:=free_blk p0
 replace H3:=hid H3
 replace p0:=hid p0
 replace p1:=hid p1
 clear K3 r0 r1 H2
 go_wp2
 have H4:=RXY.set (RXY.set H3.out (Xp.old y0) 0 (.int .i64 (im u).kind)) (Xp.old y0) 1 (.int .i64 (im u).n)
 have s1:=set_two_far p1.out hne1 (.int .i64 (im u).kind) (.int .i64 (im u).n)
 have s0:=set_two (k':=.int .i64 (im u).kind) (n':=.int .i64 (im u).n) p0.out
 generalize (w3.setCell ⟨w.heap.size,0,none⟩ (.int .i64 (im u).kind)).setCell ⟨w.heap.size,1,none⟩ (.int .i64 (im u).n)=W4 at *
 clear H3 p0 p1 d4 d5 fz
 have a0:=c0_of s0
 have a1:=c1_of s0
 have a2:=c0_of s1
 have a3:=c1_of s1
 have az:=free_blk s0
 have bz:=free_blk s1
 replace H4:=hid H4
 replace s0:=hid s0
 replace s1:=hid s1
 go_region
 go_wp2
 have t0:=set_two_far (set_two (k':=.int .i64 (im u).kind) (n':=.int .i64 (im u).n) s0.out) hne2 (.int .i64 (im v).kind) (.int .i64 (im v).n)
 have t1:=set_two (k':=.int .i64 (im v).kind) (n':=.int .i64 (im v).n) (set_two_far s1.out hne1 (.int .i64 (im u).kind) (.int .i64 (im u).n))
 have H5:=RXY.set (RXY.set (RXY.set (RXY.set H4.out (Xp.old y0) 0 (.int .i64 (im u).kind)) (Xp.old y0) 1 (.int .i64 (im u).n)) (Xp.old y1) 0 (.int .i64 (im v).kind)) (Xp.old y1) 1 (.int .i64 (im v).n)
 refine bodyPost_ret (results_cells rfl _ _ w.heap.size (w.heap.size+1) _ _ _ _ _ _ rfl rfl t0 t1 Try.underlying110 rfl info_mv info_mv) rfl ?_
 exact ⟨rfl,H5.x.bl (Bl.refl _).drew⟩
set_option maxRecDepth 100000 in
theorem takeTwo_none (s:Nat) (X:Nat→Prop) (wx w0:World) (g:Mg) (h:Hp) (qs:List Nat) (a:Mc) (c:Cal) (k:Int) (w:World) (H:RX s X wx w0 g w h qs a c) (hs:c.stk=[]∨∃l v,c.stk=l++[v]∧v.kind≠k) :
  Calls Try.prog 134 #[.pointer (some ⟨a.q,0,none⟩),.int .i64 k] w fun e w'=>e=stopE 6 0 0∧RS s X wx w0 g w' h qs a c:=by
 have HH:Hid (RX s X wx w0 g w h qs a c):=H
 have HS:=hid hs
 have HB:Hid (Bl w ((w.alloc mvZ).alloc mvZ)):=((Bl.refl w).alloc _).alloc _
 clear H hs
 go_enter Try.func134,Try.ntmps134
 go_wp2_with (go_at_call 88;refine (HH.out.y.useN HB.out (fun X wx w H=>takeKind_no s X wx w0 g h qs a c k w H HS.out)).mono ?_;rintro e w1 ⟨rfl,H1⟩;replace H1:=hid H1)
 exact ⟨rfl,rfl,H1.out⟩
set_option maxRecDepth 100000 in
theorem takeTwo_one (s:Nat) (X:Nat→Prop) (wx w0:World) (g:Mg) (h:Hp) (qs:List Nat) (a:Mc) (c:Cal) (l:List Va) (v:Va) (k:Int) (w:World) (H:RX s X wx w0 g w h qs a c) (hs:c.stk=l++[v]) (hv:v.kind=k) (hl:l=[]∨∃l' u,l=l'++[u]∧u.kind≠k) :
  Calls Try.prog 134 #[.pointer (some ⟨a.q,0,none⟩),.int .i64 k] w fun e w'=>e=stopE 6 0 0∧RS s X wx w0 g w' h qs a c:=by
 have HH:Hid (RX s X wx w0 g w h qs a c):=H
 have HS:=hid hs
 have HK:=hid hv
 have HLL:=hid hl
 obtain ⟨L0,L1⟩:=two_lie w #[.int .i64 0,.int .i64 0] #[.int .i64 0,.int .i64 0] 110 110
 have HB:Hid (Bl w ((w.alloc mvZ).alloc mvZ)):=((Bl.refl w).alloc _).alloc _
 have HL1:=hid L1
 clear H hs hv hl L0 L1
 have HY1:Hid (Xp noY w.heap.size ((w.alloc mvZ).alloc mvZ).heap.size (w.heap.size+1)):=Xp.new (Nat.le_succ _) (lt_w2b w _ _)
 go_enter Try.func134,Try.ntmps134
 go_wp2_with (go_at_call 88;first
  | (refine (HH.out.y.useY HB.out (fun X wx w H=>takeKind_yes s X wx w0 g h qs a c l v k w H HS.out HK.out)).mono ?_;rintro e w1 ⟨rfl,H1,K1⟩;have q1:=K1.at (Xp.new (Nat.le_succ _) (lt_w2b w _ _)) HL1.out;have d4:=c0_of q1;have d5:=c1_of q1;have fz:=free_blk q1;replace H1:=hid H1;clear K1;replace q1:=hid q1)
  | (refine ((RXY.set (RXY.set H1.out HY1.out 0 _) HY1.out 1 _).useN (Bl.refl _) (fun X wx w H=>takeKind_no s X wx w0 g h qs a { c with stk:=l } k w H HLL.out)).mono ?_;rintro e w2 ⟨rfl,H2⟩;replace H2:=hid H2))
 exact ⟨rfl,rfl,H2.out.of rfl ⟨rfl,rfl⟩⟩
theorem takeTwo_no (s:Nat) (X:Nat→Prop) (wx w0:World) (g:Mg) (h:Hp) (qs:List Nat) (a:Mc) (c:Cal) (k:Int) (w:World) (H:RX s X wx w0 g w h qs a c) (hs:∀l u v,c.stk=l++[u,v]→u.kind=k→v.kind=k→False) :
  Calls Try.prog 134 #[.pointer (some ⟨a.q,0,none⟩),.int .i64 k] w fun e w'=>e=stopE 6 0 0∧RS s X wx w0 g w' h qs a c:=by
 rcases List.eq_nil_or_concat c.stk with h0|⟨l,v,h0⟩
 ·exact takeTwo_none s X wx w0 g h qs a c k w H (Or.inl h0)
 ·rw [List.concat_eq_append] at h0
  by_cases hv:v.kind=k
  ·refine takeTwo_one s X wx w0 g h qs a c l v k w H h0 hv ?_
   rcases List.eq_nil_or_concat l with h1|⟨l',u,h1⟩
   ·exact Or.inl h1
   ·rw [List.concat_eq_append] at h1
    refine Or.inr ⟨l',u,h1,fun hu=>hs l' u v ?_ hu hv⟩
    rw [h0,h1];simp
  ·exact takeTwo_none s X wx w0 g h qs a c k w H (Or.inr ⟨l,v,h0,hv⟩)
theorem info_mvm:(Try.prog.info? 110).map (fun i=>(i.zero,i.size,i.bytes))=some (some (.agg #[.int .i64 0,.int .i64 0]),2,16):=by kernel_rfl
theorem rep_atM:∀(k j:Nat),j<k*2→(vaCells (List.replicate k va0))[j]?=some (.int .i64 0)
 | 0,j,h=>by omega
 | k+1,0,_=>by rw [List.replicate_succ];rfl
 | k+1,1,_=>by rw [List.replicate_succ];rfl
 | k+1,j+2,h=>by
  rw [List.replicate_succ]
  show (vaCells (List.replicate k va0))[j]?=_
  exact rep_atM k j (by omega)
theorem made_mv (k:Nat):madeCells #[.int .i64 0,.int .i64 0] (k*2)=(vaCells (List.replicate k va0)).toArray:=by
 apply Array.ext_getElem?
 intro j
 by_cases hj:j<k*2
 ·have h2:=rep_atM k j hj
  simp only [List.getElem?_toArray,h2]
  unfold madeCells
  have hm:j%2=0∨j%2=1:=by omega
  rcases hm with hm|hm<;>simp [hj,hm]
 ·rw [Array.getElem?_eq_none (by rw [size_madeCells];omega),Array.getElem?_eq_none (by simp [vaCells_length];omega)]
theorem make_mv (n:Nat) (hn:n≤1000000) (u:World):(Instr.makeSlice 90 (.int .i64 (n:Int)) (.int .i64 (n:Int))).run Try.prog u=.ok (.slice (some ⟨u.heap.size,0,none⟩) n n) (u.alloc (.cells (vaCells (List.replicate n va0)).toArray 110)):=by
 obtain ⟨i,hi,hz,hs,hb⟩:=info_parts info_mvm
 have h:=run_make u 90 110 i _ Try.underlying90 hi hz .i64 .i64 (n:Int) (n:Int) (by omega) (Int.le_refl _) (by rw [hb];omega) (by omega)
 rw [hs] at h
 simp only [Int.toNat_natCast] at h
 rw [←made_mv]
 exact h
theorem make_sl (n:Nat) (hn:n≤1000000) (u:World):(Instr.makeSlice 100 (.int .i64 (n:Int)) (.int .i64 (n:Int))).run Try.prog u=.ok (.slice (some ⟨u.heap.size,0,none⟩) n n) (u.alloc (.cells (vaCells (List.replicate n va0)).toArray 110)):=by
 obtain ⟨i,hi,hz,hs,hb⟩:=info_parts info_mvm
 have h:=run_make u 100 110 i _ Try.underlying100 hi hz .i64 .i64 (n:Int) (n:Int) (by omega) (Int.le_refl _) (by rw [hb];omega) (by omega)
 rw [hs] at h
 simp only [Int.toNat_natCast] at h
 rw [←made_mv]
 exact h
theorem LBox.new (w:World) (l:List Va):LBox (w.alloc (.cells (vaCells l).toArray 110)) w.heap.size l:=⟨blk_new _ _ _⟩
theorem rep_set (j:Nat) (u:Va) (L:List Va):(List.replicate (j+1) va0++L).set j u=List.replicate j va0++(u::L):=by
 rw [List.replicate_succ',List.append_assoc,List.set_append_right _ _ (by simp)]
 simp
def ofAll (h:Hp) (vs:List Va) (ts:List Ty):Prop:=∀k,k<ts.length→h.of (nth va0 vs k) (nth ty0 ts k)=true
def TTQ (s:Nat) (X:Nat→Prop) (wx w0:World) (g:Mg) (h:Hp) (qs:List Nat) (a:Mc) (c:Cal) (ts:List Ty) (b:Nat) (e:Ending) (w':World):Prop :=
 (∃l vs,c.stk=l++vs∧vs.length=ts.length∧ofAll h vs ts∧e=.returned (.slice (some ⟨b,0,none⟩) ts.length ts.length)∧RXY s X (fun x=>x=b) wx w0 g w' h qs a { c with stk:=l }∧LBox w' b (vs.map im))
 ∨ ((∀l vs,c.stk=l++vs→vs.length=ts.length→ofAll h vs ts→False)∧e=stopE 6 0 0∧RS s X wx w0 g w' h qs a c)
def TTR (s:Nat) (X:Nat→Prop) (wx w0:World) (g:Mg) (h:Hp) (qs:List Nat) (a:Mc) (c:Cal) (ts:List Ty) (b j:Nat) (wr:World):Prop :=
 ∃l vs,c.stk=l++vs∧vs.length=ts.length-j∧(∀k,k<ts.length-j→h.of (nth va0 vs k) (nth ty0 ts (j+k))=true)∧RXY s X (fun x=>x=b) wx w0 g wr h qs a { c with stk:=l }∧LBox wr b (List.replicate j va0++vs.map im)
theorem RXY.bl0 {s:Nat} {X Y:Nat→Prop} {wx w0 w:World} {g:Mg} {h:Hp} {qs:List Nat} {a:Mc} {c:Cal} (H:RXY s X Y wx w0 g w h qs a c):Bl w0 w:=by
 obtain ⟨vc,vo,vx,vs,l,H,-⟩:=H
 exact H.rh.bl
theorem suf_at {vs2 vs:List Va} {j:Nat} {v:Va} (h:vs2.drop j=v::vs):nth va0 vs2 j=v:=by
 have:=congrArg (fun l=>l[0]?) h
 simp [List.getElem?_drop] at this
 unfold nth
 simp [List.getD_eq_getElem?_getD,this]
theorem split_len {α:Type} {l l' vs vs':List α} (h:l++vs=l'++vs') (hl:vs.length=vs'.length):l=l'∧vs=vs':=List.append_inj' h hl
set_option maxRecDepth 100000 in
theorem takeTypes_any (s:Nat) (X:Nat→Prop) (wx w0:World) (g:Mg) (h:Hp) (qs:List Nat) (a:Mc) (c:Cal) (A:Option Addr) (cap:Nat) (ts:List Ty) (w:World) (H:RX s X wx w0 g w h qs a c) (F:Fix w0 g h) (hf:h.objs.length≤100)
  (hT:TysAt w0 A ts) (h4:ts.length≤4) (hg:∀v∈c.stk,v.kind=3→-1≤v.n∧v.n<h.objs.length) :
  Calls Try.prog 90 #[.pointer (some ⟨a.q,0,none⟩),.slice A ts.length cap] w fun e w'=>TTQ s X wx w0 g h qs a c ts w.heap.size e w':=by
 have HF:Hid (Fix w0 g h∧h.objs.length≤100):=⟨F,hf⟩
 have HT:=hid hT
 have HG:=hid hg
 have hmk:=make_mv ts.length (by omega)
 have HS:Hid (TTR s X wx w0 g h qs a c ts w.heap.size ts.length (w.alloc (.cells (vaCells (List.replicate ts.length va0)).toArray 110))):=by
  refine ⟨c.stk,[],by simp,by simp,fun k hk=>by omega,?_,?_⟩
  ·have:=H.y.bl ((Bl.refl w).alloc (.cells (vaCells (List.replicate ts.length va0)).toArray 110))
   exact this.less fun b hb=>Or.inr (by subst hb;simp)
  ·simpa using LBox.new w (List.replicate ts.length va0)
 clear H F hf hT hg
 go_enter Try.func90,Try.ntmps90
 go_wp2
 go_loopw [6] (fun i wr=>∃j:Nat,j≤ts.length∧i=.int .i64 ((j:Int)-1)∧Hid (TTR s X wx w0 g h qs a c ts w.heap.size j wr)) (fun i _=>(intOf i+1).toNat)
 case atStart=>exact ⟨ts.length,Nat.le_refl _,rfl,HS.out⟩
 case round =>
  clear HS hmk
  obtain ⟨j,hj,rfl,HR⟩:=hrel
  cases j with
  | zero =>
   go_wp2
   go_ret
   obtain ⟨l,vs,e1,e2,e3,e4,e5⟩:=HR.out
   exact Or.inl ⟨l,vs,e1,by omega,fun k hk=>by simpa using e3 k (by omega),rfl,e4,by simpa using e5⟩
  | succ j =>
   have ej:((j+1:Nat):Int)-1=(j:Int):=by omega
   rw [ej]
   obtain ⟨l,vs,e1,e2,e3,e4,e5⟩:=HR.out
   clear HR
   rcases HT.out.2 with h0|⟨tb,to,rfl,hcell⟩
   ·omega
   obtain ⟨t0,t1,-,-⟩:=hcell j (by omega)
   replace t0:=e4.bl0.cell t0
   replace t1:=e4.bl0.cell t1
   have HE:=hid e1
   have HE2:=hid e2
   have HE3:=hid e3
   have HX:=hid e4
   have HL:=hid e5
   generalize ht:nth ty0 ts j=t at *
   have HTT:=hid ht
   clear hcell e1 e2 e3 e4 e5 ht
   rcases List.eq_nil_or_concat l with hl|⟨l',v,hl⟩
   ·have HLL:=hid hl
    clear hl
    go_wp2_with (go_at_call 113;refine (HX.out.useN (Bl.refl _) (fun X wx w H=>takeType_none s X wx w0 g h qs a _ t w H HF.out.1 HF.out.2 HLL.out)).mono ?_;rintro e w1 ⟨rfl,H1⟩)
    refine ⟨rfl,Or.inr ⟨fun l2 vs2 d1 d2 d3=>?_,rfl,H1.of rfl ⟨rfl,rfl⟩⟩⟩
    have:(l2++vs2).length=(l++vs).length:=by rw [←d1,←HE.out]
    rw [HLL.out] at this
    have:=HE2.out
    simp at *
    omega
   ·have hl':l=l'++[v]:=by simpa using hl
    have HLL:=hid hl'
    have hvm:v∈c.stk:=by rw [HE.out,hl'];simp
    have HV:=hid (HG.out v hvm)
    clear hl hl' hvm
    cases ho:h.of v t with
    | false =>
     have HO:=hid ho
     clear ho
     go_wp2_with (go_at_call 113;refine (HX.out.useN (Bl.refl _) (fun X wx w H=>takeType_bad s X wx w0 g h qs a _ l' v t w H HF.out.1 HF.out.2 HLL.out HV.out HO.out)).mono ?_;rintro e w1 ⟨rfl,H1⟩)
     refine ⟨rfl,Or.inr ⟨fun l2 vs2 d1 d2 d3=>?_,rfl,H1.of rfl ⟨rfl,rfl⟩⟩⟩
     have e2:=HE2.out
     have es:vs2.drop j=v::vs:=by
      refine (split_len (l:=l2++vs2.take j) (l':=l') ?_ ?_).2
      ·rw [List.append_assoc,List.take_append_drop,←d1,HE.out,HLL.out];simp
      ·simp;omega
     have:=d3 j (by omega)
     rw [suf_at es,HTT.out,HO.out] at this
     cases this
    | true =>
     have HO:=hid ho
     clear ho
     go_wp2_with (go_at_call 113;refine (HX.out.useY (Bl.refl _) (fun X wx w H=>takeType_yes s X wx w0 g h qs a _ l' v t w H HF.out.1 HF.out.2 HLL.out HV.out HO.out)).mono ?_;rintro e w1 ⟨rfl,H1,K1⟩;have q1:=K1.at (Xp.old rfl) HL.out.blk;have x0:=(LBox.mk q1).c0 (i:=j) (by simp;omega);have x1:=(LBox.mk q1).c1 (i:=j) (by simp;omega);have fz:=free_blk q1;have H1:=hid H1;have K1:=hid K1;have q1:=hid q1)
     go_roundw
     case rel =>
      have hy:=(H1.out.less (Z:=fun x=>x=w.heap.size) fun b hb=>Xp.old hb)
      refine ⟨j,by omega,by go_num,l',v::vs,by rw [HE.out,HLL.out];simp,by have:=HE2.out;simp;omega,fun k hk=>?_,(hy.set rfl _ _).set rfl _ _,?_⟩
      ·cases k with
       | zero=>rw [Nat.add_zero,HTT.out];exact HO.out
       | succ k =>
        have:=HE3.out k (by omega)
        rw [show j+(k+1)=j+1+k by omega]
        exact this
      ·have:=(LBox.mk q1.out).set (i:=j) (by simp;omega) (im v)
       rw [rep_set] at this
       exact this
     case measure=>simp [intOf]
end Go.Proofs.Ytimjmdfokicbkaa
