import Derived.Test.YtimjmdfokicbkaaGreatSrad
import Derived.Deep.RegionLaw
import Derived.Defers
import Derived.Recover
namespace Go.Proofs.YtimjmdfokicbkaaGreat
set_option linter.unusedVariables false
set_option linter.unusedSimpArgs false
set_option maxHeartbeats 40000000
set_option maxRecDepth 100000
open Go.RowKit
open Go.Value (int)
open Go.IntKind (i64)
variable {c:aH} {h:Hp} {cs:List Cl} {qs:List Nat} {l:List Va} {a:Mc} {g:Mg} {b d j k s:Nat} {X:Nat->Prop} {vc vo vs vx:Value} {w w0 wx:World}
theorem BC (lb lc n:Nat) (l:List Va) (w:World) (B:cZ w lb l) (hn:n+1<l.length) (hl:l.length≤1000) (hk:(nth ag l n).kind=2) (h4:(nth ag l (n+1)).kind≠4) :
  Calls Tryz.prog 159 #[.slice (some ⟨lb,0,none⟩) l.length lc,int i64 (n:Int),int i64 2] w fun e w'=>e=aV 6 0 0/\Bl w w':=by
 have x0:=B.c0 (i:=n) (by omega)
 have x1:=B.c1 (i:=n) (by omega)
 have RG:=ab (B.c0 (i:=n+1) hn)
 have RI:=ab (B.c1 (i:=n+1) hn)
 have hlt:=af B.blk
 have kp:(0:Int)≤(n:Int):=by omega
 have kb:(n:Int)<(l.length:Int):=by omega
 have IL:(0:Int)≤(n:Int)+1:=by omega
 have TZ:(n:Int)+1<(l.length:Int):=by omega
 have HK:=ab hk
 have RJ:=ab h4
 have HB:Hid (Bl w (w.alloc eS)):=(Bl.refl w).alloc _
 generalize nth ag l n=u at *
 generalize nth ag l (n+1)=u' at *
 clear B hk h4
 go_enter Tryz.func159,Tryz.ntmps159
 go_wp2_with (go_at_call 154;first
  | (refine (eI u 2 _ HK.out).mono ?_;rintro e w2 ⟨rfl,b2⟩;have y2:=b2.cell (Bl.cell HB.out RG.out);have y3:=b2.cell (Bl.cell HB.out RI.out);have mX:=bt y2;replace b2:=ab b2)
  | (refine (lS u' 4 _ RJ.out).mono ?_;rintro e w3 ⟨rfl,b3⟩;replace b3:=ab b3))
 exact ⟨rfl,rfl,(HB.out.trans (b2.out.alloc _)).trans b3.out⟩
theorem qm (lb lc n:Nat) (l:List Va) (v:Va) (w:World) (B:cZ w lb l) (hn:n+1<l.length) (hl:l.length≤1000) (hk:v.kind=2) :
  Calls Tryz.prog 86 #[.slice (some ⟨lb,0,none⟩) l.length lc,int i64 (n:Int),cn v] w fun e w'=>e=.returned (.tuple #[])/\cZ w' lb ((l.set n v).set (n+1) ⟨4,0⟩)/\w.grownBy w' (some lb):=by
 obtain ⟨vk,vn⟩:=v
 dsimp only at hk
 subst hk
 have x0:=B.c0 (i:=n) (by omega)
 have x1:=B.c1 (i:=n) (by omega)
 have x2:=B.c0 (i:=n+1) hn
 have x3:=B.c1 (i:=n+1) hn
 have fz:=ay B.blk
 have hlt:=af B.blk
 have kp:(0:Int)≤(n:Int):=by omega
 have kb:(n:Int)<(l.length:Int):=by omega
 have IL:(0:Int)≤(n:Int)+1:=by omega
 have TZ:(n:Int)+1<(l.length:Int):=by omega
 have HB:=ab B
 have hne:lb≠w.heap.size:=by omega
 have kU:n<l.length:=by omega
 clear B
 go_enter Tryz.func86,Tryz.ntmps86
 go_wp2
 go_end0
 have h1:=HB.out.set kU (⟨2,vn⟩:Va)
 have h2:=h1.set (i:=n+1) (by rw [List.length_set];exact hn) (⟨4,0⟩:Va)
 exact ⟨rfl,h2.bl ((Bl.refl _).alloc _),fU (fU (fU (fU (cQ lb _ _) (cQ lb _ _)) (cQ lb _ _)) (cQ lb _ _)) (World.grownBy_alloc _ _ _)⟩
theorem CA.lbox (H:CA w0 g w a c l vs):cZ w a.lb l:=⟨H.loc⟩
section
variable {w0:World} {g:Mg} {a:Mc} {c:aH} {l:List Va} {vs:Value} {w:World}
theorem wA (H:CA w0 g w a c l vs) (n:Nat) (k:Int) (hn:n<c.locs.length) (hk:1≤k/\k≤3) (h2:k=2->n+1<c.locs.length) (hv:(nth ag c.locs n).kind=k) :
  Calls Tryz.prog 159 #[.slice (some ⟨a.lb,0,none⟩) c.locs.length a.lc,int i64 (n:Int),int i64 k] w fun e w'=>e=.returned (cn (im (nth ag c.locs n)))/\Bl w w':=by
 have hl:=H.rel.len
 have hs:=H.short
 have e:=H.rel.rd n (by omega) (by omega)
 rw [<-hl,<-e]
 by_cases h:k=2
 ·subst h
  exact BB a.lb a.lc n l w H.lbox (by have:=h2 rfl;omega) (by omega) (by rw [e];exact hv) (H.rel.long n hv)
 ·exact Er a.lb a.lc n l k w H.lbox (by omega) (by omega) (by rw [e];exact hv) h
theorem IP (H:CA w0 g w a c l vs) (n:Nat) (k:Int) (hn:n<c.locs.length) (hk:1≤k/\k≤3) (h2:k=2->n+1<c.locs.length) (hv:(nth ag c.locs n).kind≠k) :
  Calls Tryz.prog 159 #[.slice (some ⟨a.lb,0,none⟩) c.locs.length a.lc,int i64 (n:Int),int i64 k] w fun e w'=>e=aV 6 0 0/\Bl w w':=by
 have hl:=H.rel.len
 have hs:=H.short
 rw [<-hl]
 by_cases hm:(nth ag l n).kind=k
 ·by_cases h:k=2
  ·subst h
   refine BC a.lb a.lc n l w H.lbox (by have:=h2 rfl;omega) (by omega) hm fun h4=>hv ?_
   rw [H.rel.back n (by omega) (by omega) (fun _=>h4)]
   exact hm
  ·exact absurd ((H.rel.back n (by omega) (by omega) (fun q=>absurd (hm.symm.trans q) h)).trans hm) hv
 ·exact BA a.lb a.lc n l k w H.lbox (by omega) (by omega) hm
end
theorem lZ.setl {w':World} {l':List Va} (H:lZ s X wx w0 g w h qs a c vc vo vx vs l) (hg:w.grownBy w' (some a.lb)) (hb:cZ w' a.lb l') {L:List Va} (hr:mG L l') (hL:L.length=c.locs.length) :
  lZ s X wx w0 g w' h qs a { c with locs:=L } vc vo vx vs l':=by
 have hf:=(H.ca.far H.rh).2.1
 have eQ:a.q≠a.lb:=dN H.ca.blk H.ca.loc (by decide)
 refine ⟨H.rh.kept hg (fun b e=>?_),⟨H.ca.own,H.ca.ownl,?_,hb.blk,hr,H.ca.stk.kept hg (Or.inr H.ca.apart),H.ca.apart,H.ca.me,by dsimp only;rw [hL];exact H.ca.short,H.ca.kinds⟩,H.farr,H.farc,H.kept.kept hg (fun b e hx=>?_)⟩
 ·cases e;exact ⟨H.ca.ownl,hf⟩
 ·have:=aZ hg H.ca.blk (fun e=>eQ (Option.some.inj e).symm)
  rw [this]
  unfold nG
  dsimp only
  rw [hL]
 ·cases e;exact (H.farc _ hx).l rfl
theorem BD (s:Nat) (X:Nat->Prop) (wx w0:World) (g:Mg) (h:Hp) (qs:List Nat) (a:Mc) (c:aH) (n:Nat) (v:Va) (w:World) (H:RX s X wx w0 g w h qs a c) (hn:n<c.locs.length) (hv:1≤v.kind/\v.kind≤3) (h2:v.kind=2->n+1<c.locs.length) :
  Calls Tryz.prog 86 #[.slice (some ⟨a.lb,0,none⟩) c.locs.length a.lc,int i64 (n:Int),cn (im v)] w fun e w'=>e=.returned (.tuple #[])/\RX s X wx w0 g w' h qs a { c with locs:=eu c.locs n v }:=by
 obtain ⟨vc,vo,vx,vs,l,H⟩:=H
 have hl:=H.ca.rel.len
 have hs:=H.ca.short
 have hr:=H.ca.rel.sto hn v hv h2
 have hL:(eu c.locs n v).length=c.locs.length:=kA _ _ _
 by_cases hk:v.kind=2
 ·have e:jD l n (im v)=(l.set n (im v)).set (n+1) ⟨4,0⟩:=by unfold jD;rw [if_pos (by exact hk)]
  rw [e] at hr
  rw [<-hl]
  refine (qm a.lb a.lc n l (im v) w H.ca.lbox (by have:=h2 hk;omega) (by omega) hk).mono ?_
  rintro x w' ⟨rfl,h3,h4⟩
  exact ⟨rfl,vc,vo,vx,vs,_,H.setl h4 h3 hr hL⟩
 ·have e:jD l n (im v)=l.set n (im v):=by unfold jD;rw [if_neg (by exact hk)]
  rw [e] at hr
  rw [<-hl]
  refine (se a.lb a.lc n l (im v) w H.ca.lbox (by omega) (by omega) hk).mono ?_
  rintro x w' ⟨rfl,h3,h4⟩
  exact ⟨rfl,vc,vo,vx,vs,_,H.setl h4 h3 hr hL⟩
theorem cJ.hb {Y:Nat->Prop} (H:cJ s X Y wx w0 g w h qs a c):w.cell? ⟨a.q,0,none⟩=some (.pointer (some ⟨g.hb,0,none⟩)):=by
 obtain ⟨vc,vo,vx,vs,l,H,F⟩:=H
 exact H.ca.cells.c0
theorem RX.qlt (H:RX s X wx w0 g w h qs a c):a.q<w.heap.size:=by
 obtain ⟨vc,vo,vx,vs,l,H⟩:=H
 exact af H.ca.blk
theorem bC (w:World) (a b:Array Value) (s t:TypeId):((w.alloc (.cells a s)).alloc (.cells b t)).heap[w.heap.size]?=some (.cells a s (0,0))/\((w.alloc (.cells a s)).alloc (.cells b t)).heap[w.heap.size+1]?=some (.cells b t (0,0)):=by
 have h1:(w.alloc (.cells a s)).heap.size=w.heap.size+1:=by simp
 refine ⟨?_,?_⟩
 ·rw [Below.heap_alloc _ _ _ (by omega)];exact aD _ _ _
 ·rw [<-h1];exact aD _ _ _
section
variable (w:World) (o:Obj)
theorem cW:w.heap.size<(w.alloc o).heap.size:=by simp
theorem dZ (p:Obj):w.heap.size<((w.alloc o).alloc p).heap.size:=by simp;omega
theorem cz (p:Obj):w.heap.size+1<((w.alloc o).alloc p).heap.size:=by simp
end
section
variable (s:Nat) (X:Nat->Prop) (wx w0:World) (g:Mg) (h:Hp) (qs:List Nat) (a:Mc) (c:aH)
theorem dU (l:List Va) (v:Va) (t:Ty) (w:World) (H:RX s X wx w0 g w h qs a c) (F:Fix w0 g h) (hf:h.objs.length≤100) (hs:c.stk=l++[v]) (hv:v.kind=3->-1≤v.n/\v.n<h.objs.length) (ho:h.of v t=true) :
  Calls Tryz.prog 156 #[.pointer (some ⟨a.q,0,none⟩),jC t] w fun e w'=>e=.returned (cn (im v))/\RX s X wx w0 g w' h qs a { c with stk:=l }:=by
 have HH:Hid (RX s X wx w0 g w h qs a c):=H
 have hq:=H.qlt
 have kp:w.heap.size≠a.q:=by omega
 have kb:w.heap.size+1≠a.q:=by omega
 have HS:Hid (c.stk=l++[v]):=hs
 have HF:Hid (Fix w0 g h/\h.objs.length≤100):=⟨F,hf⟩
 have HO:Hid ((v.kind=3->-1≤v.n/\v.n<h.objs.length)/\h.of v t=true):=⟨hv,ho⟩
 obtain ⟨L0,L1⟩:=bC w #[int i64 t.kind,int i64 t.cls] #[int i64 0,int i64 0] 45 98
 have B0:Bl w ((w.alloc (je t)).alloc eS):=((Bl.refl w).alloc _).alloc _
 have z0:=(H.y.bl B0).hb
 have z1:=aK L0
 have z2:=aI L0
 have HB:Hid (Bl w ((w.alloc (je t)).alloc eS)):=B0
 have oY:=ab L0
 have gz:=ab L1
 clear H hs F hf hv ho L0 L1 B0
 go_enter Tryz.func156,Tryz.ntmps156
 go_wp2
 go_region_held3 (fun w'=>w'.cell? ⟨a.q,0,none⟩=some (.pointer (some ⟨g.hb,0,none⟩))/\w'.cell? ⟨w.heap.size,0,none⟩=some (int i64 t.kind)/\w'.cell? ⟨w.heap.size,1,none⟩=some (int i64 t.cls))
  (go_keep)
  (first
   | (go_at_call 153;refine (HH.out.y.useY (by first|exact HB.out.drew|exact HB.out) (fun X wx w H=>iW s X wx w0 g h qs a c l v w H HS.out)).mono ?_;rintro e w1 ⟨rfl,H1,K1⟩;have q0:=K1.at (Xp.new (Nat.le_refl _) (dZ w _ _)) oY.out;have q1:=K1.at (Xp.new (Nat.le_succ _) (cz w _ _)) gz.out;have d0:=H1.hb;have d1:=aK q0;have d2:=aI q0;have H1:=ab H1;have K1:=ab K1;have q0:=ab q0;have q1:=ab q1)
   | (go_at_call 206;refine (En g h v t _ (H1.out.x.rd HF.out.1 HF.out.2) HO.out.1 HO.out.2).mono ?_;rintro e w2 ⟨rfl,b2⟩;have e0:=b2.cell d0;have e1:=b2.cell d1;have e2:=b2.cell d2;have q2:=ai b2 q1.out;have f4:=aK q2;have f5:=aI q2;have fz:=ay q2;have b2:=ab b2;have q2:=ab q2))
 go_wp2
 refine bodyPost_ret (results_cell_row rfl _ _ (w.heap.size+1) _ _ _ _ rfl (bQ q2.out) Tryz.underlying98 rfl bH) rfl ?_
 refine ⟨rfl,cJ.x (cJ.set (cJ.set (H1.out.bl b2.out) ?_ 0 _) ?_ 1 _)⟩<;>exact Xp.old (Xp.new (Nat.le_succ _) (cz w _ _))
theorem mA (t:Ty) (w:World) (H:RX s X wx w0 g w h qs a c) (F:Fix w0 g h) (hf:h.objs.length≤100) (hs:c.stk=[]) :
  Calls Tryz.prog 156 #[.pointer (some ⟨a.q,0,none⟩),jC t] w fun e w'=>e=aV 6 0 0/\RS s X wx w0 g w' h qs a c:=by
 have HH:Hid (RX s X wx w0 g w h qs a c):=H
 have hq:=H.qlt
 have HF:Hid (Fix w0 g h/\h.objs.length≤100):=⟨F,hf⟩
 obtain ⟨L0,L1⟩:=bC w #[int i64 t.kind,int i64 t.cls] #[int i64 0,int i64 0] 45 98
 have B0:Bl w ((w.alloc (je t)).alloc eS):=((Bl.refl w).alloc _).alloc _
 have z0:=ab (H.y.bl B0).hb
 have z1:=ab (aK L0)
 have z2:=ab (aI L0)
 have HB:Hid (Bl w ((w.alloc (je t)).alloc eS)):=B0
 have oY:=ab L0
 have gz:=ab L1
 have HS:Hid (c.stk=[]):=hs
 clear H hs F hf L0 L1 B0
 go_enter Tryz.func156,Tryz.ntmps156
 go_wp2
 refine wp_region_held_drew (S:=fun w'=>w'.cell? ⟨a.q,0,none⟩=some (.pointer (some ⟨g.hb,0,none⟩))/\w'.cell? ⟨w.heap.size,0,none⟩=some (int i64 t.kind)/\w'.cell? ⟨w.heap.size,1,none⟩=some (int i64 t.cls)) (by kernel_rfl) ?_ (fun ae=>?_)
 ·exact ⟨z0.out,z1.out,z2.out⟩
 iterate 6 (refine tn rfl rfl rfl (by kernel_rfl) (fun _ _ _ h=>h) (by rfl) (by intro _ h;(try dsimp only at h);go_split_ands;go_simp<;>with_reducible rfl) ae ?_;try simp only [aS,aN,aT,a0,a1])
 refine wpAnyH_ready (rs:=[5]) (by kernel_rfl) (by simp) ?_
 refine AllReadyH.cons rfl (fun K hK=>?_) AllReadyH.nil
 go_simp
 go_at_call 153
 refine (HH.out.y.useY HB.out.drew (fun X wx w H=>nI s X wx w0 g h qs a c w H HS.out)).mono ?_
 rintro e w1 ⟨rfl,H1,K1⟩
 exact ⟨rfl,rfl,H1.rs⟩
theorem nK (l:List Va) (v:Va) (t:Ty) (w:World) (H:RX s X wx w0 g w h qs a c) (F:Fix w0 g h) (hf:h.objs.length≤100) (hs:c.stk=l++[v]) (hv:v.kind=3->-1≤v.n/\v.n<h.objs.length) (ho:h.of v t=false) :
  Calls Tryz.prog 156 #[.pointer (some ⟨a.q,0,none⟩),jC t] w fun e w'=>e=aV 6 0 0/\RS s X wx w0 g w' h qs a c:=by
 have HH:Hid (RX s X wx w0 g w h qs a c):=H
 have hq:=H.qlt
 have HF:Hid (Fix w0 g h/\h.objs.length≤100):=⟨F,hf⟩
 obtain ⟨L0,L1⟩:=bC w #[int i64 t.kind,int i64 t.cls] #[int i64 0,int i64 0] 45 98
 have B0:Bl w ((w.alloc (je t)).alloc eS):=((Bl.refl w).alloc _).alloc _
 have z0:=ab (H.y.bl B0).hb
 have z1:=ab (aK L0)
 have z2:=ab (aI L0)
 have HB:Hid (Bl w ((w.alloc (je t)).alloc eS)):=B0
 have oY:=ab L0
 have gz:=ab L1
 have HS:Hid (c.stk=l++[v]):=hs
 have HO:Hid ((v.kind=3->-1≤v.n/\v.n<h.objs.length)/\h.of v t=false):=⟨hv,ho⟩
 clear H hs F hf hv ho L0 L1 B0
 go_enter Tryz.func156,Tryz.ntmps156
 go_wp2
 refine wp_region_held_drew (S:=fun w'=>w'.cell? ⟨a.q,0,none⟩=some (.pointer (some ⟨g.hb,0,none⟩))/\w'.cell? ⟨w.heap.size,0,none⟩=some (int i64 t.kind)/\w'.cell? ⟨w.heap.size,1,none⟩=some (int i64 t.cls)) (by kernel_rfl) ?_ (fun ae=>?_)
 ·exact ⟨z0.out,z1.out,z2.out⟩
 iterate 6 (refine tn rfl rfl rfl (by kernel_rfl) (fun _ _ _ h=>h) (by rfl) (by intro _ h;(try dsimp only at h);go_split_ands;go_simp<;>with_reducible rfl) ae ?_;try simp only [aS,aN,aT,a0,a1])
 refine wpAnyH_ready (rs:=[5]) (by kernel_rfl) (by simp) ?_
 refine AllReadyH.cons rfl (fun K hK=>?_) AllReadyH.nil
 go_simp
 go_at_call 153
 refine (HH.out.y.useY HB.out.drew (fun X wx w H=>iW s X wx w0 g h qs a c l v w H HS.out)).mono ?_
 rintro e w1 ⟨rfl,H1,K1⟩
 have q0:=K1.at (Xp.new (Nat.le_refl _) (dZ w _ _)) oY.out
 have d0:=ab (H1.hb)
 have d1:=ab (aK q0)
 have d2:=ab (aI q0)
 have H1:=ab H1
 go_wp2_with fail
 refine hK.out _ _ (⟨d0.out,d1.out,d2.out⟩) (fun ah=>?_)
 try simp only [aS,aN,aT,a0,a1]
 refine wpAnyH_ready (rs:=[7]) (by kernel_rfl) (by simp) ?_
 refine AllReadyH.cons rfl (fun K hK=>?_) AllReadyH.nil
 go_simp
 go_at_call 206
 refine (IJ g h v t _ (H1.out.x.rd HF.out.1 HF.out.2) HO.out.1 HO.out.2).mono ?_
 rintro e w2 ⟨rfl,b2⟩
 exact ⟨rfl,rfl,(H1.out.bl b2).rs.of rfl ⟨rfl,rfl⟩⟩
theorem jM (t:Ty) (w:World) (H:RX s X wx w0 g w h qs a c) (F:Fix w0 g h) (hf:h.objs.length≤100) (hs:c.stk=[]∨∃(l:List Va) (v:Va),c.stk=l++[v]/\(v.kind=3->-1≤v.n/\v.n<h.objs.length)/\h.of v t=false) :
  Calls Tryz.prog 156 #[.pointer (some ⟨a.q,0,none⟩),jC t] w fun e w'=>e=aV 6 0 0/\RS s X wx w0 g w' h qs a c:=by
 rcases hs with hs|⟨l,v,hs,hv,ho⟩
 ·exact mA s X wx w0 g h qs a c t w H F hf hs
 ·exact nK s X wx w0 g h qs a c l v t w H F hf hs hv ho
end
theorem rI {P:Program} {fn:Func} {p q:Tmp} {ty:TypeId} (h:fn.results=#[.cell p ty,.cell q ty]) (tmps:Array Value) (w:World) (b b':Nat) (t:TypeId) (cs ds:Array Value) (fr Tu:Nat×Nat) (d:TypeDesc) (hp:tmps.getD p undef=.pointer (some ⟨b,0,none⟩)) (hq:tmps.getD q undef=.pointer (some ⟨b',0,none⟩)) (hb:w.heap[b]?=some (.cells cs t fr)) (vp:w.heap[b']?=some (.cells ds t Tu)) (hu:P.underlying ty=some d) (hd:(match d with | .struct _ | .array _ _=>true|_=>false)=true) (hi:(P.info? ty).map (·.size)=some cs.size) (T0:(P.info? ty).map (·.size)=some ds.size) :
  (results fn tmps).run P w=.ok (.tuple #[.agg cs,.agg ds]) w:=by
 have BF:tmps[p]?.getD undef=.pointer (some ⟨b,0,none⟩):=by simpa using hp
 have NU:tmps[q]?.getD undef=.pointer (some ⟨b',0,none⟩):=by simpa using hq
 simp [results,h,BF,NU,asAddr,run_loadVar_row w b t ty cs fr d hb hu hd hi,run_loadVar_row w b' t ty ds Tu d vp hu hd T0]
theorem dB {b':Nat} {o:Obj} (h:w.heap[b]?=some o) (hb:b≠b') (k n:Value):((w.setCell ⟨b',0,none⟩ k).setCell ⟨b',1,none⟩ n).heap[b]?=some o:=by rw [aA hb,aA hb];exact h
theorem Bl.drewR {a:World} (h:Bl a w):Bl a w.drew:=h.drew
section
variable (s:Nat) (X:Nat->Prop) (wx w0:World) (g:Mg) (h:Hp) (qs:List Nat) (a:Mc) (c:aH)
theorem ly (l:List Va) (u v:Va) (k:Int) (w:World) (H:RX s X wx w0 g w h qs a c) (hs:c.stk=l++[u,v]) (hu:u.kind=k) (hv:v.kind=k) :
  Calls Tryz.prog 208 #[.pointer (some ⟨a.q,0,none⟩),int i64 k] w fun e w'=>e=.returned (.tuple #[cn (im u),cn (im v)])/\RX s X wx w0 g w' h qs a { c with stk:=l }:=by
 have HH:Hid (RX s X wx w0 g w h qs a c):=H
 have HS:Hid (c.stk=(l++[u])++[v]):=by show c.stk=(l++[u])++[v];rw [hs];simp
 have HK:Hid (u.kind=k/\v.kind=k):=⟨hu,hv⟩
 obtain ⟨L0,L1⟩:=bC w #[int i64 0,int i64 0] #[int i64 0,int i64 0] 98 98
 have HB:Hid (Bl w ((w.alloc eS).alloc eS)):=((Bl.refl w).alloc _).alloc _
 have oY:=ab L0
 have gz:=ab L1
 have Es:w.heap.size+1≠w.heap.size:=by omega
 have BG:w.heap.size≠w.heap.size+1:=by omega
 clear H hs hu hv L0 L1
 go_enter Tryz.func208,Tryz.ntmps208
 go_wp2_with (go_at_call 91;refine (HH.out.y.useY HB.out (fun X wx w H=>cy s X wx w0 g h qs a c (l++[u]) v k w H HS.out HK.out.2)).mono ?_;rintro e w1 ⟨rfl,H1,K1⟩;have q0:=K1.at (Xp.new (Nat.le_refl _) (dZ w _ _)) oY.out;have q1:=K1.at (Xp.new (Nat.le_succ _) (cz w _ _)) gz.out;have d4:=aK q1;have d5:=aI q1;have fz:=ay q1;replace H1:=ab H1;clear K1;replace q0:=ab q0;replace q1:=ab q1)
 have y1:Xp NT w.heap.size ((w.alloc eS).alloc eS).heap.size (w.heap.size+1):=Xp.new (Nat.le_succ _) (cz w _ _)
 have y0:Xp NT w.heap.size ((w.alloc eS).alloc eS).heap.size w.heap.size:=Xp.new (Nat.le_refl _) (dZ w _ _)
 have H2:=cJ.set (cJ.set H1.out y1 0 (int i64 (im v).kind)) y1 1 (int i64 (im v).n)
 have r0:=ab (dB q0.out BG (int i64 (im v).kind) (int i64 (im v).n))
 have r1:=ab (bQ (k':=int i64 (im v).kind) (n':=int i64 (im v).n) q1.out)
 generalize (w1.setCell ⟨w.heap.size+1,0,none⟩ (int i64 (im v).kind)).setCell ⟨w.heap.size+1,1,none⟩ (int i64 (im v).n)=W2 at *
 clear H1 q0 q1 d4 d5 fz
 replace H2:=ab H2
 go_at_call 91
 refine (H2.out.useY (Bl.refl _) (fun X wx w H=>cy s X wx w0 g h qs a { c with stk:=l++[u] } l u k w H rfl HK.out.1)).mono ?_
 rintro e w3 ⟨rfl,H3,K3⟩
 have p0:=K3.at (Xp.old y0) r0.out
 have p1:=K3.at (Xp.old y1) r1.out
 have d4:=aK p0
 have d5:=aI p0
 have fz:=ay p0
 replace H3:=ab H3
 replace p0:=ab p0
 replace p1:=ab p1
 clear K3 r0 r1 H2
 go_wp2
 have H4:=cJ.set (cJ.set H3.out (Xp.old y0) 0 (int i64 (im u).kind)) (Xp.old y0) 1 (int i64 (im u).n)
 have s1:=dB p1.out Es (int i64 (im u).kind) (int i64 (im u).n)
 have s0:=bQ (k':=int i64 (im u).kind) (n':=int i64 (im u).n) p0.out
 generalize (w3.setCell ⟨w.heap.size,0,none⟩ (int i64 (im u).kind)).setCell ⟨w.heap.size,1,none⟩ (int i64 (im u).n)=W4 at *
 clear H3 p0 p1 d4 d5 fz
 have a0:=aK s0
 have a1:=aI s0
 have a2:=aK s1
 have a3:=aI s1
 have az:=ay s0
 have bz:=ay s1
 replace H4:=ab H4
 replace s0:=ab s0
 replace s1:=ab s1
 go_region
 go_wp2
 have t0:=dB (bQ (k':=int i64 (im u).kind) (n':=int i64 (im u).n) s0.out) BG (int i64 (im v).kind) (int i64 (im v).n)
 have t1:=bQ (k':=int i64 (im v).kind) (n':=int i64 (im v).n) (dB s1.out Es (int i64 (im u).kind) (int i64 (im u).n))
 have H5:=cJ.set (cJ.set (cJ.set (cJ.set H4.out (Xp.old y0) 0 (int i64 (im u).kind)) (Xp.old y0) 1 (int i64 (im u).n)) (Xp.old y1) 0 (int i64 (im v).kind)) (Xp.old y1) 1 (int i64 (im v).n)
 refine bodyPost_ret (rI rfl _ _ w.heap.size (w.heap.size+1) _ _ _ _ _ _ rfl rfl t0 t1 Tryz.underlying98 rfl bH bH) rfl ?_
 exact ⟨rfl,H5.x.bl (Bl.refl _).drew⟩
theorem nL (k:Int) (w:World) (H:RX s X wx w0 g w h qs a c) (hs:c.stk=[]∨∃l v,c.stk=l++[v]/\v.kind≠k) :
  Calls Tryz.prog 208 #[.pointer (some ⟨a.q,0,none⟩),int i64 k] w fun e w'=>e=aV 6 0 0/\RS s X wx w0 g w' h qs a c:=by
 have HH:Hid (RX s X wx w0 g w h qs a c):=H
 have HS:=ab hs
 have HB:Hid (Bl w ((w.alloc eS).alloc eS)):=((Bl.refl w).alloc _).alloc _
 clear H hs
 go_enter Tryz.func208,Tryz.ntmps208
 go_wp2_with (go_at_call 91;refine (HH.out.y.useN HB.out (fun X wx w H=>dj s X wx w0 g h qs a c k w H HS.out)).mono ?_;rintro e w1 ⟨rfl,H1⟩;replace H1:=ab H1)
 exact ⟨rfl,rfl,H1.out⟩
theorem wB (l:List Va) (v:Va) (k:Int) (w:World) (H:RX s X wx w0 g w h qs a c) (hs:c.stk=l++[v]) (hv:v.kind=k) (hl:l=[]∨∃l' u,l=l'++[u]/\u.kind≠k) :
  Calls Tryz.prog 208 #[.pointer (some ⟨a.q,0,none⟩),int i64 k] w fun e w'=>e=aV 6 0 0/\RS s X wx w0 g w' h qs a c:=by
 have HH:Hid (RX s X wx w0 g w h qs a c):=H
 have HS:=ab hs
 have HK:=ab hv
 have zQ:=ab hl
 obtain ⟨L0,L1⟩:=bC w #[int i64 0,int i64 0] #[int i64 0,int i64 0] 98 98
 have HB:Hid (Bl w ((w.alloc eS).alloc eS)):=((Bl.refl w).alloc _).alloc _
 have gz:=ab L1
 clear H hs hv hl L0 L1
 have rJ:Hid (Xp NT w.heap.size ((w.alloc eS).alloc eS).heap.size (w.heap.size+1)):=Xp.new (Nat.le_succ _) (cz w _ _)
 go_enter Tryz.func208,Tryz.ntmps208
 go_wp2_with (go_at_call 91;first
  | (refine (HH.out.y.useY HB.out (fun X wx w H=>cy s X wx w0 g h qs a c l v k w H HS.out HK.out)).mono ?_;rintro e w1 ⟨rfl,H1,K1⟩;have q1:=K1.at (Xp.new (Nat.le_succ _) (cz w _ _)) gz.out;have d4:=aK q1;have d5:=aI q1;have fz:=ay q1;replace H1:=ab H1;clear K1;replace q1:=ab q1)
  | (refine ((cJ.set (cJ.set H1.out rJ.out 0 _) rJ.out 1 _).useN (Bl.refl _) (fun X wx w H=>dj s X wx w0 g h qs a { c with stk:=l } k w H zQ.out)).mono ?_;rintro e w2 ⟨rfl,H2⟩;replace H2:=ab H2))
 exact ⟨rfl,rfl,H2.out.of rfl ⟨rfl,rfl⟩⟩
theorem qp (k:Int) (w:World) (H:RX s X wx w0 g w h qs a c) (hs:∀l u v,c.stk=l++[u,v]->u.kind=k->v.kind=k->False) :
  Calls Tryz.prog 208 #[.pointer (some ⟨a.q,0,none⟩),int i64 k] w fun e w'=>e=aV 6 0 0/\RS s X wx w0 g w' h qs a c:=by
 rcases List.eq_nil_or_concat c.stk with h0|⟨l,v,h0⟩
 ·exact nL s X wx w0 g h qs a c k w H (Or.inl h0)
 ·rw [List.concat_eq_append] at h0
  by_cases hv:v.kind=k
  ·refine wB s X wx w0 g h qs a c l v k w H h0 hv ?_
   rcases List.eq_nil_or_concat l with h1|⟨l',u,h1⟩
   ·exact Or.inl h1
   ·rw [List.concat_eq_append] at h1
    refine Or.inr ⟨l',u,h1,fun hu=>hs l' u v ?_ hu hv⟩
    rw [h0,h1];simp
  ·exact nL s X wx w0 g h qs a c k w H (Or.inr ⟨l,v,h0,hv⟩)
end
theorem wC:(Tryz.prog.info? 98).map (fun i=>(i.zero,i.size,i.bytes))=some (some (.agg #[int i64 0,int i64 0]),2,16):=by kernel_rfl
theorem zR:∀(k j:Nat),j<k*2->(aL (List.replicate k ag))[j]?=some (int i64 0)
 | 0,j,h=>by omega
 | k+1,0,_=>by rw [List.replicate_succ];rfl
 | k+1,1,_=>by rw [List.replicate_succ];rfl
 | k+1,j+2,h=>by
  rw [List.replicate_succ]
  show (aL (List.replicate k ag))[j]?=_
  exact zR k j (by omega)
theorem zS (k:Nat):madeCells #[int i64 0,int i64 0] (k*2)=(aL (List.replicate k ag)).toArray:=by
 apply Array.ext_getElem?
 intro j
 by_cases hj:j<k*2
 ·have h2:=zR k j hj
  simp only [List.getElem?_toArray,h2]
  unfold madeCells
  have hm:j%2=0∨j%2=1:=by omega
  rcases hm with hm|hm<;>simp [hj,hm]
 ·rw [Array.getElem?_eq_none (by rw [size_madeCells];omega),Array.getElem?_eq_none (by simp [eE];omega)]
theorem zT (n:Nat) (hn:n≤1000000) (u:World):(Instr.makeSlice 79 (int i64 (n:Int)) (int i64 (n:Int))).run Tryz.prog u=.ok (.slice (some ⟨u.heap.size,0,none⟩) n n) (u.alloc (.cells (aL (List.replicate n ag)).toArray 98)):=by
 obtain ⟨i,hi,hz,hs,hb⟩:=info_parts wC
 have h:=run_make u 79 98 i _ Tryz.underlying79 hi hz .i64 .i64 (n:Int) (n:Int) (by omega) (Int.le_refl _) (by rw [hb];omega) (by omega)
 rw [hs] at h
 simp only [Int.toNat_natCast] at h
 rw [<-zS]
 exact h
theorem IQ (n:Nat) (hn:n≤1000000) (u:World):(Instr.makeSlice 89 (int i64 (n:Int)) (int i64 (n:Int))).run Tryz.prog u=.ok (.slice (some ⟨u.heap.size,0,none⟩) n n) (u.alloc (.cells (aL (List.replicate n ag)).toArray 98)):=by
 obtain ⟨i,hi,hz,hs,hb⟩:=info_parts wC
 have h:=run_make u 89 98 i _ Tryz.underlying89 hi hz .i64 .i64 (n:Int) (n:Int) (by omega) (Int.le_refl _) (by rw [hb];omega) (by omega)
 rw [hs] at h
 simp only [Int.toNat_natCast] at h
 rw [<-zS]
 exact h
theorem cZ.new (w:World) (l:List Va):cZ (w.alloc (.cells (aL l).toArray 98)) w.heap.size l:=⟨aD _ _ _⟩
theorem IU (j:Nat) (u:Va) (L:List Va):(List.replicate (j+1) ag++L).set j u=List.replicate j ag++(u::L):=by
 rw [List.replicate_succ',List.append_assoc,List.set_append_right _ _ (by simp)]
 simp
def si (h:Hp) (vs:List Va) (ts:List Ty):Prop:=∀k,k<ts.length->h.of (nth ag vs k) (nth cL ts k)=true
def Vu (s:Nat) (X:Nat->Prop) (wx w0:World) (g:Mg) (h:Hp) (qs:List Nat) (a:Mc) (c:aH) (ts:List Ty) (b:Nat) (e:Ending) (w':World):Prop :=
 (∃l vs,c.stk=l++vs/\vs.length=ts.length/\si h vs ts/\e=.returned (.slice (some ⟨b,0,none⟩) ts.length ts.length)/\cJ s X (fun x=>x=b) wx w0 g w' h qs a { c with stk:=l }/\cZ w' b (vs.map im))
 ∨ ((∀l vs,c.stk=l++vs->vs.length=ts.length->si h vs ts->False)/\e=aV 6 0 0/\RS s X wx w0 g w' h qs a c)
def T1 (s:Nat) (X:Nat->Prop) (wx w0:World) (g:Mg) (h:Hp) (qs:List Nat) (a:Mc) (c:aH) (ts:List Ty) (b j:Nat) (wr:World):Prop :=
 ∃l vs,c.stk=l++vs/\vs.length=ts.length-j/\(∀k,k<ts.length-j->h.of (nth ag vs k) (nth cL ts (j+k))=true)/\cJ s X (fun x=>x=b) wx w0 g wr h qs a { c with stk:=l }/\cZ wr b (List.replicate j ag++vs.map im)
theorem cJ.bl0 {Y:Nat->Prop} (H:cJ s X Y wx w0 g w h qs a c):Bl w0 w:=by
 obtain ⟨vc,vo,vx,vs,l,H,-⟩:=H
 exact H.rh.bl
theorem Ms {xU vs:List Va} {v:Va} (h:xU.drop j=v::vs):nth ag xU j=v:=by
 have:=congrArg (fun l=>l[0]?) h
 simp [List.getElem?_drop] at this
 unfold nth
 simp [List.getD_eq_getElem?_getD,this]
theorem oc {α:Type} {l l' vs g8:List α} (h:l++vs=l'++g8) (hl:vs.length=g8.length):l=l'/\vs=g8:=List.append_inj' h hl
theorem mB (s:Nat) (X:Nat->Prop) (wx w0:World) (g:Mg) (h:Hp) (qs:List Nat) (a:Mc) (c:aH) (A:Option Addr) (cap:Nat) (ts:List Ty) (w:World) (H:RX s X wx w0 g w h qs a c) (F:Fix w0 g h) (hf:h.objs.length≤100) (hT:dm w0 A ts) (h4:ts.length≤4) (hg:∀v∈c.stk,v.kind=3->-1≤v.n/\v.n<h.objs.length) :
  Calls Tryz.prog 93 #[.pointer (some ⟨a.q,0,none⟩),.slice A ts.length cap] w fun e w'=>Vu s X wx w0 g h qs a c ts w.heap.size e w':=by
 have HF:Hid (Fix w0 g h/\h.objs.length≤100):=⟨F,hf⟩
 have HT:=ab hT
 have HG:=ab hg
 have KY:=zT ts.length (by omega)
 have HS:Hid (T1 s X wx w0 g h qs a c ts w.heap.size ts.length (w.alloc (.cells (aL (List.replicate ts.length ag)).toArray 98))):=by
  refine ⟨c.stk,[],by simp,by simp,fun k hk=>by omega,?_,?_⟩
  ·have:=H.y.bl ((Bl.refl w).alloc (.cells (aL (List.replicate ts.length ag)).toArray 98))
   exact this.less fun b hb=>Or.inr (by subst hb;simp)
  ·simpa using cZ.new w (List.replicate ts.length ag)
 clear H F hf hT hg
 go_enter Tryz.func93,Tryz.ntmps93
 go_wp2
 go_loopw [6] (fun i wr=>∃j:Nat,j≤ts.length/\i=int i64 ((j:Int)-1)/\Hid (T1 s X wx w0 g h qs a c ts w.heap.size j wr)) (fun i _=>(intOf i+1).toNat)
 case atStart=>exact ⟨ts.length,Nat.le_refl _,rfl,HS.out⟩
 case round =>
  clear HS KY
  obtain ⟨j,hj,rfl,HR⟩:=hrel
  cases j with
  | zero =>
   go_wp2
   go_ret
   obtain ⟨l,vs,e1,e2,e3,e4,e5⟩:=HR.out
   exact Or.inl ⟨l,vs,e1,by omega,fun k hk=>by simpa using e3 k (by omega),rfl,e4,by simpa using e5⟩
  | succ j =>
   have ej:((j+1:Nat):Int)-1=(j:Int):=by omega
   rw [ej]
   obtain ⟨l,vs,e1,e2,e3,e4,e5⟩:=HR.out
   clear HR
   rcases HT.out.2 with h0|⟨tb,to,rfl,hcell⟩
   ·omega
   obtain ⟨t0,t1,-,-⟩:=hcell j (by omega)
   replace t0:=e4.bl0.cell t0
   replace t1:=e4.bl0.cell t1
   have HE:=ab e1
   have Mt:=ab e2
   have V0:=ab e3
   have HX:=ab e4
   have HL:=ab e5
   generalize ht:nth cL ts j=t at *
   have Ku:=ab ht
   clear hcell e1 e2 e3 e4 e5 ht
   rcases List.eq_nil_or_concat l with hl|⟨l',v,hl⟩
   ·have zQ:=ab hl
    clear hl
    go_wp2_with (go_at_call 156;refine (HX.out.useN (Bl.refl _) (fun X wx w H=>mA s X wx w0 g h qs a _ t w H HF.out.1 HF.out.2 zQ.out)).mono ?_;rintro e w1 ⟨rfl,H1⟩)
    refine ⟨rfl,Or.inr ⟨fun l2 xU d1 d2 d3=>?_,rfl,H1.of rfl ⟨rfl,rfl⟩⟩⟩
    have:(l2++xU).length=(l++vs).length:=by rw [<-d1,<-HE.out]
    rw [zQ.out] at this
    have:=Mt.out
    simp at *
    omega
   ·have zU:l=l'++[v]:=by simpa using hl
    have zQ:=ab zU
    have T2:v∈c.stk:=by rw [HE.out,zU];simp
    have HV:=ab (HG.out v T2)
    clear hl zU T2
    cases ho:h.of v t with
    | false =>
     have HO:=ab ho
     clear ho
     go_wp2_with (go_at_call 156;refine (HX.out.useN (Bl.refl _) (fun X wx w H=>nK s X wx w0 g h qs a _ l' v t w H HF.out.1 HF.out.2 zQ.out HV.out HO.out)).mono ?_;rintro e w1 ⟨rfl,H1⟩)
     refine ⟨rfl,Or.inr ⟨fun l2 xU d1 d2 d3=>?_,rfl,H1.of rfl ⟨rfl,rfl⟩⟩⟩
     have e2:=Mt.out
     have es:xU.drop j=v::vs:=by
      refine (oc (l:=l2++xU.take j) (l':=l') ?_ ?_).2
      ·rw [List.append_assoc,List.take_append_drop,<-d1,HE.out,zQ.out];simp
      ·simp;omega
     have:=d3 j (by omega)
     rw [Ms es,Ku.out,HO.out] at this
     cases this
    | true =>
     have HO:=ab ho
     clear ho
     go_wp2_with (go_at_call 156;refine (HX.out.useY (Bl.refl _) (fun X wx w H=>dU s X wx w0 g h qs a _ l' v t w H HF.out.1 HF.out.2 zQ.out HV.out HO.out)).mono ?_;rintro e w1 ⟨rfl,H1,K1⟩;have q1:=K1.at (Xp.old rfl) HL.out.blk;have x0:=(cZ.mk q1).c0 (i:=j) (by simp;omega);have x1:=(cZ.mk q1).c1 (i:=j) (by simp;omega);have fz:=ay q1;have H1:=ab H1;have K1:=ab K1;have q1:=ab q1)
     go_roundw
     case rel =>
      have hy:=(H1.out.less (Z:=fun x=>x=w.heap.size) fun b hb=>Xp.old hb)
      refine ⟨j,by omega,by go_num,l',v::vs,by rw [HE.out,zQ.out];simp,by have:=Mt.out;simp;omega,fun k hk=>?_,(hy.set rfl _ _).set rfl _ _,?_⟩
      ·cases k with
       | zero=>rw [Nat.add_zero,Ku.out];exact HO.out
       | succ k =>
        have:=V0.out k (by omega)
        rw [show j+(k+1)=j+1+k by omega]
        exact this
      ·have:=(cZ.mk q1.out).set (i:=j) (by simp;omega) (im v)
       rw [IU] at this
       exact this
     case measure=>simp [intOf]
def mg (l:List Ty):Bool:=l.any fun t=>decide (t.kind=3)
theorem wD {l:List Ty} {q:Nat} (hq:q<l.length) (h:(nth cL l q).kind=3):mg l=true:=by
 unfold mg;rw [List.any_eq_true];exact ⟨nth cL l q,bE hq,by simpa using h⟩
theorem BH {l:List Ty} (h:∀q,q<l.length->(nth cL l q).kind≠3):mg l=false:=by
 unfold mg;rw [List.any_eq_false]
 intro x hx
 obtain ⟨k,hk,rfl⟩:=List.getElem_of_mem hx
 rw [<-bP (d:=cL) hk]
 simpa using h k hk
theorem BI (A R:Option Addr) (cap n rc:Nat) (ts:List Ty) (w:World) (hT:dm w A ts) (hn:n≤maxLen) :
  Calls Tryz.prog 100 #[.slice A ts.length cap,.slice R n rc] w fun e w'=>e=.returned (.bool (!(mg ts)&&decide (n=ts.length)))/\Bl w w':=by
 have HT:=ab hT
 have QD:=hT.1
 unfold maxLen at QD hn
 clear hT
 have OS:Hid (∀q,q<ts.length->(nth cL ts q).kind=3->mg ts=true):=fun q hq h=>wD hq h
 have K8:Hid ((∀q,q<ts.length->(nth cL ts q).kind≠3)->mg ts=false):=BH
 obtain ⟨T,T3⟩:∃T,mg ts=T:=⟨_,rfl⟩
 rw [T3] at OS K8 ⊢
 clear T3
 have hd:decide (n=ts.length)=((n:Int)==(ts.length:Int)):=by rw [Bool.eq_iff_iff];simp;omega
 rw [hd]
 clear hd
 go_enter Tryz.func100,Tryz.ntmps100
 go_wp2
 go_loopw [9] (fun i wr=>∃q:Nat,q≤ts.length/\i=int i64 q/\Hid (∀j,j<q->(nth cL ts j).kind≠3)/\Hid (Bl w wr)) (fun i _=>ts.length-(intOf i).toNat)
 case atStart=>exact ⟨0,Nat.zero_le _,rfl,fun j hj=>absurd hj (Nat.not_lt_zero _),Bl.refl _⟩
 case round =>
  obtain ⟨q,hq,rfl,mE,hg⟩:=hrel
  by_cases eQ:q<ts.length
  ·rcases (HT.out.bl hg.out).2 with z0|⟨b,off,rfl,hcell⟩
   ·omega
   obtain ⟨x0,x1,-,-⟩:=hcell q eQ
   have HH:=ab (OS.out q eQ)
   generalize hX:nth cL ts q=t at *
   have HX:=ab hX
   clear hcell hX
   by_cases h3:t.kind=3
   ·have HF:=ab (HH.out h3)
    have k3:(t.kind==3)=true:=by simpa using h3
    have H3:=ab h3
    clear h3 HH
    go_wp2
    go_ret
    exact ⟨aj (by rw [HF.out];rfl),hg.out.alloc _⟩
   ·have k3:(t.kind==3)=false:=by simpa using h3
    have H3:Hid (¬t.kind=3):=h3
    clear h3 HH
    go_wp2
    go_roundw
    case rel=>exact ⟨q+1,by omega,by go_num,fun j hj=>if h:j<q then mE.out j h else by have:j=q:=(by omega);subst this;rw [HX.out];exact H3.out,hg.out.alloc _⟩
    case measure=>simp [intOf];omega
  ·obtain rfl:q=ts.length:=by omega
   have HF:=ab (K8.out mE.out)
   go_wp2
   all_goals
    go_ret
    refine ⟨aj ?_,hg.out⟩
    rw [HF.out]
    simp [*]
def NV (ts:List Ty) (args:List Int) (j:Nat):Va:=⟨(nth cL ts j).kind,if (nth cL ts j).kind=1 then wrap32 (nth (0:Int) args j) else nth (0:Int) args j⟩
def lz (ts:List Ty) (args:List Int) (q:Nat):List Va:=(List.range ts.length).map (fun j=>if j<q then NV ts args j else ag)
section
variable (ts:List Ty) (args:List Int)
theorem Et:lz ts args 0=List.replicate ts.length ag:=by
 unfold lz
 apply List.ext_getElem
 ·simp
 ·intro i h1 h2;simp
theorem du (q:Nat):(lz ts args q).length=ts.length:=by simp [lz]
theorem IV (q:Nat):(lz ts args q).set q (NV ts args q)=lz ts args (q+1):=by
 unfold lz
 apply List.ext_getElem
 ·simp
 ·intro i h1 h2
  simp only [List.getElem_set,List.getElem_map,List.getElem_range]
  by_cases hi:q=i
  ·subst hi;simp
  ·rw [if_neg hi]
   by_cases hlt:i<q
   ·rw [if_pos hlt,if_pos (by omega)]
   ·rw [if_neg hlt,if_neg (by omega)]
end
theorem yw (A R:Option Addr) (cap n rc:Nat) (ts:List Ty) (args:List Int) (w:World) (hT:dm w A ts) (hR:cM w R args) (hl:args.length=ts.length) (h4:ts.length≤4) (hk:∀q,q<ts.length->(nth cL ts q).kind=1∨(nth cL ts q).kind=2) :
  Calls Tryz.prog 47 #[.slice A ts.length cap,.slice R args.length rc] w fun e w'=>e=.returned (.slice (some ⟨w.heap.size,0,none⟩) ts.length ts.length)/\cZ w' w.heap.size (lz ts args ts.length)/\Bl w w':=by
 have HT:=ab hT
 have HR:=ab hR
 have HK:=ab hk
 have KY:=zT ts.length (by omega)
 have HS:Hid (Bl w (w.alloc (.cells (aL (List.replicate ts.length ag)).toArray 98))/\cZ (w.alloc (.cells (aL (List.replicate ts.length ag)).toArray 98)) w.heap.size (lz ts args 0)) :=
  ⟨(Bl.refl w).alloc _,by rw [Et];exact cZ.new w _⟩
 rw [hl]
 have HL:=ab hl
 clear hT hR hk hl
 go_enter Tryz.func47,Tryz.ntmps47
 go_wp2
 go_loopw [13] (fun i wr=>∃q:Nat,q≤ts.length/\i=int i64 q/\Hid (Bl w wr/\cZ wr w.heap.size (lz ts args q))) (fun i _=>ts.length-(intOf i).toNat)
 case atStart=>exact ⟨0,Nat.zero_le _,rfl,HS.out⟩
 case round =>
  clear HS KY
  obtain ⟨q,hq,rfl,HB⟩:=hrel
  by_cases eQ:q<ts.length
  ·rcases (HT.out.bl HB.out.1).2 with z0|⟨tb,to,rfl,hcell⟩
   ·omega
   rcases (HR.out.bl HB.out.1).2 with z0|⟨rb,ro,rfl,hrc⟩
   ·have:=HL.out;omega
   obtain ⟨x0,x1,-,-⟩:=hcell q eQ
   obtain ⟨y0,-⟩:=hrc q (by rw [HL.out];exact eQ)
   have V1:=HK.out q eQ
   have T4:=ab (IV ts args q)
   have T5:Hid (NV ts args q=⟨(nth cL ts q).kind,if (nth cL ts q).kind=1 then wrap32 (nth (0:Int) args q) else nth (0:Int) args q⟩):=rfl
   generalize hX:nth cL ts q=t at *
   generalize hY:nth (0:Int) args q=a at *
   clear hcell hrc hX hY
   have V3:rb<w.heap.size:=by
    rcases HR.out.2 with z0|⟨YC,YD,ee,hrc⟩
    ·have:=HL.out;omega
    ·cases ee
     exact bt (hrc q (by rw [HL.out];exact eQ)).1
   have YE:w.heap.size≠rb:=by omega
   have V4:rb≠w.heap.size:=by omega
   have YF:∀o,(wr.alloc o).cell? ⟨rb,ro+q,none⟩=some (int i64 a):=fun o=>((Bl.refl wr).alloc o).cell y0
   have hlt:=af HB.out.2.blk
   have hne:w.heap.size≠wr.heap.size:=by omega
   have BG:wr.heap.size≠w.heap.size:=by omega
   have OT:=ab (aD wr #[int i64 t.kind,int i64 t.cls] 45)
   have T6:q<(lz ts args q).length:=by rw [du];exact eQ
   have IW:=ab T6
   have IX:Hid (Bl wr (wr.alloc (je t))):=(Bl.refl wr).alloc _
   clear T6
   have T7:Hid (∀w1,Bl (wr.alloc (je t)) w1->cZ w1 w.heap.size (lz ts args q)/\w1.cell? ⟨wr.heap.size,0,none⟩=some (int i64 t.kind)):=fun w1 b1=>⟨HB.out.2.bl (IX.out.trans b1),aK (ai b1 OT.out)⟩
   rcases V1 with h1|h2
   ·have vi:=ab h1
    have k1:(t.kind==1)=true:=by simpa using h1
    clear h1
    obtain ⟨N,hN⟩:∃N,wrap32 a=N:=⟨_,rfl⟩
    have HN:=ab hN
    go_wp2_with (first
     | (have:=L2;go_at_call 104;refine (kD _ _).mono ?_;rintro e w5 ⟨he,kR⟩;rw [hN] at he;subst he;rw [kR];clear kR w5)
     | (have:=L2;go_at_call 103;refine (jk N _).mono ?_;rintro e w3 ⟨rfl,b3⟩;have L3:=L2.out.bl b3;have z0:=L3.c0 (i:=q) (by rw [List.length_set];exact IW.out);have z1:=L3.c1 (i:=q) (by rw [List.length_set];exact IW.out);have YG:=ay L3.blk;replace b3:=ab b3;have L3:=ab L3)
     | (go_at_call 102;refine (iX a _).mono ?_;rintro e w1 ⟨rfl,b1⟩;obtain ⟨L1,kt⟩:=T7.out w1 b1;have v0:=L1.c0 IW.out;have v1:=L1.c1 IW.out;have V7:=ay L1.blk;have L2:=ab (L1.set IW.out ⟨2,a⟩);have y5:=(IX.out.trans b1).cell y0;replace b1:=ab b1;replace L1:=ab L1))
    go_roundw
    case rel =>
     refine ⟨q+1,by omega,by go_num,?_,?_⟩
     ·have h1:Bl w w1:=(HB.out.1.trans IX.out).trans b1.out
      have h2:=(h1.setCell (p:=⟨w.heap.size,q*2,none⟩) (Nat.le_refl _) (int i64 2)).setCell (p:=⟨w.heap.size,q*2+1,none⟩) (Nat.le_refl _) (int i64 a)
      have h3:=h2.trans b3.out
      exact (h3.setCell (p:=⟨w.heap.size,q*2,none⟩) (Nat.le_refl _) _).setCell (p:=⟨w.heap.size,q*2+1,none⟩) (Nat.le_refl _) _
     ·have:=L3.out.set (i:=q) (by rw [List.length_set];exact IW.out) ⟨1,N⟩
      rw [List.set_set] at this
      rw [<-T4.out,T5.out,vi.out,if_pos rfl,HN.out]
      exact this
    case measure=>simp [intOf];omega
   ·have IY:=ab h2
    have k1:(t.kind==1)=false:=by rw [h2];rfl
    clear h2
    go_wp2_with (first
     | (go_at_call 102;refine (iX a _).mono ?_;rintro e w1 ⟨rfl,b1⟩;obtain ⟨L1,kt⟩:=T7.out w1 b1;have v0:=L1.c0 IW.out;have v1:=L1.c1 IW.out;have V7:=ay L1.blk;have L2:=ab (L1.set IW.out ⟨2,a⟩);replace b1:=ab b1;replace L1:=ab L1))
    go_roundw
    case rel =>
     refine ⟨q+1,by omega,by go_num,?_,?_⟩
     ·have h1:Bl w w1:=(HB.out.1.trans IX.out).trans b1.out
      exact (h1.setCell (p:=⟨w.heap.size,q*2,none⟩) (Nat.le_refl _) _).setCell (p:=⟨w.heap.size,q*2+1,none⟩) (Nat.le_refl _) _
     ·rw [<-T4.out,T5.out,IY.out,if_neg (by decide)]
      exact L2.out
    case measure=>simp [intOf];omega
  ·obtain rfl:q=ts.length:=by omega
   go_wp2
   go_ret
   exact ⟨rfl,HB.out.2,HB.out.1⟩
section
open Go.Maps (Keyed has)
theorem BJ:(Tryz.prog.info? 2).map (fun i=>(i.zero,i.size,i.bytes))=some (some (int i64 0),1,8):=by kernel_rfl
theorem RH.runCells (H:RH s w0 g w h qs vc vo vx) :
  w.cell? ⟨g.r,0,none⟩=some (.pointer (some ⟨g.hb,0,none⟩))/\w.cell? ⟨g.r,1,none⟩=some (.slice g.M h.file.methods.length g.m)/\w.cell? ⟨g.r,2,none⟩=some (.func (.func 17) #[] #[])/\w.cell? ⟨g.r,3,none⟩=some vc
  /\ w.cell? ⟨g.r,4,none⟩=some (.slice g.I h.input.length g.i)/\w.cell? ⟨g.r,5,none⟩=some (int i64 h.fuel)/\w.cell? ⟨g.r,6,none⟩=some (int i64 h.sh.steps)/\w.cell? ⟨g.r,7,none⟩=some (int i64 h.sh.used)/\w.cell? ⟨g.r,8,none⟩=some vx:=by
 refine ⟨?_,?_,?_,?_,?_,?_,?_,?_,?_⟩<;>(rw [aa H.run];rfl)
def Hp.outs (h:Hp) (n:Int):Hp:={ h with sh:={ h.sh with out:=h.sh.out++[n] } }
def Hp.uses (h:Hp):Hp:={ h with sh:={ h.sh with used:=h.sh.used+1 } }
theorem lZ.emit {w2:World} {v':Value} (H:lZ s X wx w0 g w h qs a c vc vo vx vs l) (hg:w.grownBy w2 vx.ownBlock) {k:Int} (ho:w2.ownsRow w0.heap.size 2 1 v' (h.sh.out.length+1) (h.sh.out.map (Value.int .i64)++[int i64 k])) (hat:v'.ownBlock=vx.ownBlock∨∀b,v'.ownBlock=some b->w.heap.size≤b) :
  lZ s X wx w0 g (w2.setCell ⟨g.r,8,none⟩ v') (h.outs k) qs a c vc vo v' vs l:=by
 have R:=H.rh
 obtain ⟨n,D,F⟩:=R.fld
 obtain ⟨fr,fh,fm,fc,fo,fx⟩:=H.ca.farC R
 have hrow:∀b,vx.ownBlock=some b->w0.heap.size≤b:=fun b e=>(R.out.lt b e).1
 have n1:vx.ownBlock≠some g.r:=ba R.out R.run (by decide)
 have n2:vx.ownBlock≠some g.hb:=ba R.out R.hp (by decide)
 have n3:vx.ownBlock≠some g.mp:=lu R.out F.own
 have qt:=aZ hg R.run n1
 have eY:=cQ (w:=w2) g.r 8 v'
 have OO:(some g.r:Option Nat)≠some g.hb:=fun e=>dN R.hp R.run (by decide) (Option.some.inj e).symm
 have RL:g.r≠g.mp:=iy R.run F.own
 have hne:∀(vv:Value) {b e sz nn xs},w.ownsRow b e sz vv nn xs->e≠2->vv.ownBlock=none∨vv.ownBlock≠vx.ownBlock:=fun vv b e sz nn xs hr he=>s8 hr R.out he
 have C2:=H.ca.kept hg (fun b e=>fx b e)
 have Mq:∀b,X b->lq g vc vo v' b:=fun b hx=>⟨(H.farr b hx).r,(H.farr b hx).h,(H.farr b hx).m,(H.farr b hx).c,(H.farr b hx).o,fun e=>by
  rcases hat with q|q
  ·rw [q] at e;exact (H.farr b hx).x e
  ·have:=q b e;have:=(H.kept.blk b hx).1;have:=H.kept.size;omega⟩
 refine ⟨⟨R.ownr,R.ownh,R.ownm,?_,?_,?_,?_,?_,?_,n,D,?_⟩,?_,Mq,H.farc,?_⟩
 ·exact Below.setCell (Below.grown R.bl hg R.bl.size hrow) R.ownr _
 ·rw [ax qt];rfl
 ·exact aZ eY (aZ hg R.hp n2) OO
 ·have:=ho.kept eY (Or.inr (ba ho qt (by decide)))
  simpa [Hp.outs] using this
 ·exact (R.obs.kept hg (hne vo R.obs (by decide))).kept eY (Or.inr (ba (R.obs.kept hg (hne vo R.obs (by decide))) qt (by decide)))
 ·exact (R.calls.kept hg (hne vc R.calls (by decide))).kept eY (Or.inr (ba (R.calls.kept hg (hne vc R.calls (by decide))) qt (by decide)))
 ·exact ⟨(F.own.kept hg (fun e=>n3 e.symm)).kept eY (fun e=>RL (Option.some.inj e).symm),F.few,F.hit,F.miss,F.new,F.ks,F.kd⟩
 ·exact C2.kept eY (fun b e=>by cases e;exact ⟨fr.q,fr.l,fr.s⟩)
 ·exact (H.kept.kept hg (fun b e hx=>(H.farr b hx).x e)).kept eY (fun b e hx=>by cases e;exact (H.farr _ hx).r rfl)
theorem lZ.setr {s':Nat} {h':Hp} {v':Value} (H:lZ s X wx w0 g w h qs a c vc vo vx vs l) {i:Nat} (hrow:(gM g h vc vx).setIfInBounds i v'=gM g h' vc vx) (e1:h'.file=h.file) (e2:h'.objs=h.objs) (e3:h'.sh.out=h.sh.out) (e4:h.sh.steps-s≤h'.sh.steps-s'):lZ s' X wx w0 g (w.setCell ⟨g.r,i,none⟩ v') h' qs a c vc vo vx vs l:=by
 have R:=H.rh
 obtain ⟨n,D,F⟩:=R.fld
 obtain ⟨fr,-⟩:=H.ca.farC R
 have eY:=cQ (w:=w) g.r i v'
 have OO:(some g.r:Option Nat)≠some g.hb:=fun e=>dN R.hp R.run (by decide) (Option.some.inj e).symm
 have RL:g.r≠g.mp:=iy R.run F.own
 have r2:fD g h' vo=fD g h vo:=by unfold fD;rw [e1]
 refine ⟨⟨R.ownr,R.ownh,R.ownm,Below.setCell R.bl R.ownr _,?_,?_,?_,?_,?_,n,D,?_⟩,H.ca.kept eY (fun b e=>by cases e;exact fr),H.farr,H.farc,H.kept.kept eY (fun b e hx=>by cases e;exact (H.farr _ hx).r rfl)⟩
 ·rw [ax R.run,hrow]
 ·rw [r2];exact aZ eY R.hp OO
 ·rw [e3];exact R.out.kept eY (Or.inr (ba R.out R.run (by decide)))
 ·rw [e2];exact R.obs.kept eY (Or.inr (ba R.obs R.run (by decide)))
 ·exact R.calls.kept eY (Or.inr (ba R.calls R.run (by decide)))
 ·exact ⟨F.own.kept eY (fun e=>RL (Option.some.inj e).symm),by have:=F.few;omega,by rw [e2];exact F.hit,by rw [e2,e1];exact F.miss,by rw [e2];exact F.new,by rw [e2,e1];exact F.ks,by rw [e2,e1];exact F.kd⟩
section
variable (s:Nat) (X:Nat->Prop) (wx w0:World) (g:Mg) (h:Hp) (qs:List Nat) (a:Mc) (c:aH)
theorem BK (v:Va) (w:World) (H:RX s X wx w0 g w h qs a c) (ho:h.sh.out.length≤100000) :
  Calls Tryz.prog 160 #[.pointer (some ⟨g.r,0,none⟩),cn v] w fun e w'=>e=.returned (.tuple #[])/\RX s X wx w0 g w' (h.outs v.n) qs a c:=by
 obtain ⟨i0,ta,sd,tf,th⟩:=info_parts BJ
 have cH:=H.size
 obtain ⟨vc,vo,vx,vs,l,H⟩:=H
 obtain ⟨A,cap,V8,h1,h2⟩:=g9 H.rh.out
 subst V8
 have HH:=ab (H.bl ((Bl.refl w).alloc (dL v)))
 have HL:=ab (aD w #[int i64 v.kind,int i64 v.n] 98)
 have x1:=aI HL.out
 have tj:=H.rh.out
 have c8:=HH.out.rh.runCells.2.2.2.2.2.2.2.2
 have fz:=ay HH.out.rh.run 8
 have hq:=af H.rh.run
 have HO:=ab HH.out.rh.out
 have HP:=ab (HH.out.rh.run)
 have OP:Hid ((Value.slice A h.sh.out.length cap).ownBlock≠some w.heap.size):=fun e=>by have:=lr tj e;omega
 have OQ:=ab (ba HO.out HP.out (by decide))
 clear H tj
 go_enter Tryz.func160,Tryz.ntmps160
 go_wp2
 go_region_law ((refine step_append_lies _ (by rfl) _ _ _ (by rfl) w0.heap.size 2 i0 _ 1 8 Tryz.underlying26 ta sd tf th rfl (by omega) (.slice A h.sh.out.length cap) h.sh.out.length (h.sh.out.map (Value.int .i64)) (by rfl) ((HO.out.alloc _).drew) ⟨w.heap.size+1,0,none⟩ 1 1 [int i64 v.n] (by rfl) (by rfl) (World.news_of_block (cs:=#[int i64 v.n]) (t:=2) (fr:=(0,0)) (by rw [<-Ep w (dL v)];exact aD _ _ _)) (by simp [Value.oneCell']) (by omega) (by unfold maxLen;omega) (by omega) (by simp;omega) _ rfl ?_;intro gb cp w1 fZ bK hat tl;have mI:=aZ bK ((Below.heap_alloc _ _ _ (af HP.out)).trans HP.out) OQ.out;have dA:=aZ bK ((Below.heap_alloc _ _ _ (af HL.out)).trans HL.out) OP.out;have q8:w1.cell? ⟨g.r,8,none⟩=some (.slice A h.sh.out.length cap):=(aa mI).trans rfl;have z8:=ay mI 8;have y1:=aI dA;have eQ:=af mI;replace fZ:=ab fZ;replace bK:=ab bK;replace hat:=ab hat;clear dA mI))
 all_goals
  go_wp2
  go_end0
  exact ⟨rfl,_,_,_,_,_,lZ.emit (HH.out.bl (((Bl.refl _).alloc _).drew)) bK.out fZ.out (hat.out.elim (fun e=>Or.inl e.symm) (fun e=>Or.inr fun b hb=>Nat.le_of_eq (e.symm.trans (by simpa [Value.ownBlock] using hb))))⟩
theorem Mv (w:World) (H:RX s X wx w0 g w h qs a c) (hd:h.dry=true) :
  Calls Tryz.prog 161 #[.pointer (some ⟨g.r,0,none⟩)] w fun e w'=>e=aV 3 0 0/\RX s X wx w0 g w' h qs a c:=by
 have HH:=ab H
 obtain ⟨vc,vo,vx,vs,l,H⟩:=H
 have c4:=H.rh.runCells.2.2.2.2.1
 have c7:=H.rh.runCells.2.2.2.2.2.2.2.1
 have hq:=af H.rh.run
 have VV:(h.input.length:Int)≤h.sh.used:=of_decide_eq_true hd
 clear H hd
 go_enter Tryz.func161,Tryz.ntmps161
 go_wp2
 go_quiet (fail)
 go_wp2_with (go_at_call 101;refine (kZ 3 _).mono ?_;rintro e w1 ⟨rfl,hw⟩;rw [hw];clear hw w1)
 exact ⟨rfl,rfl,HH.out.bl (aR ((Bl.refl w).alloc _) _)⟩
theorem zV (w:World) (H:RX s X wx w0 g w h qs a c) (hI:cM w0 g.I h.input) (hd:h.dry=false) (hu:0≤h.sh.used) (hl:h.input.length≤1000000) :
  Calls Tryz.prog 161 #[.pointer (some ⟨g.r,0,none⟩)] w fun e w'=>e=.returned (cn ⟨2,nth (0:Int) h.input h.sh.used.toNat⟩)/\RX s X wx w0 g w' h.uses qs a c:=by
 have hlt:h.sh.used<(h.input.length:Int):=by have:=of_decide_eq_false hd;omega
 obtain ⟨u,QE⟩:∃u:Nat,h.sh.used=u:=⟨h.sh.used.toNat,by omega⟩
 have V9:u<h.input.length:=by omega
 rcases hI.2 with h0|⟨ib,io,RM,hic⟩
 ·omega
 have hx:=(hic u V9).1
 have e1:h.sh.used.toNat=u:=by omega
 rw [e1]
 have cH:=H.size
 obtain ⟨vc,vo,vx,vs,l,H⟩:=H
 have HH:=ab (H.bl ((Bl.refl w).alloc eS))
 have HL:=ab (aD w #[int i64 0,int i64 0] 98)
 have c4:=H.rh.runCells.2.2.2.2.1
 have c7:=H.rh.runCells.2.2.2.2.2.2.2.1
 have fz:=ay H.rh.run
 have hq:=af H.rh.run
 have xi:=Bl.cell H.rh.bl hx
 have OU:=bt xi
 have Wa:ib≠g.r:=by have h1:=bt hx;have h2:=H.rh.ownr;omega
 have T8:Hid (∀nq,lZ s X wx w0 g (((w.alloc eS).drewN nq).setCell ⟨g.r,7,none⟩ (int i64 ((u:Int)+1))) h.uses qs a c vc vo vx vs l):=fun nq=>lZ.setr (HH.out.bl (aR (Bl.refl _) nq)) (by unfold gM Hp.uses;simp [QE]) rfl rfl rfl (Int.le_refl _)
 have T9:g.r≠w.heap.size:=by omega
 rw [RM] at c4
 rw [QE] at c7 hlt
 have hu0:(0:Int)≤(u:Int):=by omega
 have Wb:(u:Int)<(h.input.length:Int):=by omega
 have xS:((u:Int)+1-1)=(u:Int):=by omega
 have hw1:IntKind.i64.wrap (u:Int)=(u:Int):=by rw [IntKind.wrap_i64];omega
 have yt:=ab (H.rh.farNew (Nat.le_refl _))
 have Mr:=ab (H.ca.farNew (Nat.le_refl _))
 have RF:Hid (¬X w.heap.size):=fun hx=>by have:=(H.kept.blk _ hx).1;have:=H.kept.size;omega
 have IZ:=ab hx
 have HU:=ab QE
 have HI:=ab RM
 clear H hd hu hic hx hI QE e1 RM
 generalize nth (0:Int) h.input u=V at *
 go_enter Tryz.func161,Tryz.ntmps161
 go_wp2
 go_quiet (fail)
 go_wp2
 have HA:=T8.out nq
 have b0:(((w.alloc eS).drewN nq).setCell ⟨g.r,7,none⟩ (int i64 ((u:Int)+1))).heap[w.heap.size]?=some (.cells #[int i64 0,int i64 0] 98 (0,0)):=ql HL.out (fun e=>T9 e.symm) _
 generalize (((w.alloc eS).drewN nq).setCell ⟨g.r,7,none⟩ (int i64 ((u:Int)+1)))=W at *
 have k4:=HA.rh.runCells.2.2.2.2.1
 have k7:=HA.rh.runCells.2.2.2.2.2.2.2.1
 have ki:=Bl.cell HA.rh.bl IZ.out
 have e7:h.uses.sh.used=(u:Int)+1:=by unfold Hp.uses;dsimp only;rw [HU.out]
 have e4:h.uses.input=h.input:=rfl
 rw [e7] at k7
 rw [e4,HI.out] at k4
 have YH:=af b0
 have n1:w.heap.size≠g.r:=fun e=>T9 e.symm
 have n2:w.heap.size≠ib:=by omega
 replace HA:=ab HA
 replace b0:=ab b0
 clear T8 e7 e4
 go_region_held3 (fun w'=>w'.cell? ⟨g.r,4,none⟩=some (.slice (some ⟨ib,io,none⟩) h.input.length g.i)/\w'.cell? ⟨g.r,7,none⟩=some (int i64 ((u:Int)+1))/\w'.cell? ⟨ib,io+u,none⟩=some (int i64 V))
  (go_keep)
  (first
   | (go_at_call 102;refine (iX V _).mono ?_;rintro e w2 ⟨rfl,b2⟩;have d4:=b2.cell k4;have d7:=b2.cell k7;have di:=b2.cell ki;have q0:=ai b2 b0.out;have r0:=aK q0;have r1:=aI q0;have rz:=ay q0;replace b2:=ab b2;replace q0:=ab q0))
 go_wp2
 refine bodyPost_ret (results_cell_row rfl _ _ w.heap.size _ _ _ _ rfl (bQ q0.out) Tryz.underlying98 rfl bH) rfl ?_
 refine ⟨rfl,cJ.x (cJ.set (Y:=fun b=>b=w.heap.size) (b:=w.heap.size) (cJ.set (Y:=fun b=>b=w.heap.size) (b:=w.heap.size) ⟨vc,vo,vx,vs,l,HA.out.bl ((Bl.refl _).drew.trans b2.out),fun b hb=>?_⟩ rfl 0 _) rfl 1 _)⟩
 subst hb
 exact ⟨af q0.out,cH,RF.out,yt.out,Mr.out⟩
end
end
theorem qw (w:World) (a b:Array Value) (s t:TypeId):((w.alloc (.cells a s)).alloc (.cells b t)).heap[w.heap.size]?=some (.cells a s (0,0))/\((w.alloc (.cells a s)).alloc (.cells b t)).heap[w.heap.size+1]?=some (.cells b t (0,0)):=by
 have h1:(w.alloc (.cells a s)).heap.size=w.heap.size+1:=by simp
 refine ⟨?_,?_⟩
 ·rw [Below.heap_alloc _ _ _ (by omega)];exact aD _ _ _
 ·rw [<-h1];exact aD _ _ _
theorem Ev (hb:Nat) (v:Va) (cc:Int) (w:World) (hk:v.kind=3) (hv:v.n=-1) :
  Calls Tryz.prog 201 #[.pointer (some ⟨hb,0,none⟩),cn (im v),int i64 cc] w fun e w'=>e=.returned (cn (im v))/\Bl w w':=by
 have HN:Hid (vz (im v)=true):=l4 hk hv
 obtain ⟨L0,L1⟩:=qw w #[int i64 (im v).kind,int i64 (im v).n] #[int i64 0,int i64 0] 98 98
 have oY:=ab L0
 have gz:=ab L1
 have HB:Hid (Bl w ((w.alloc (dL (im v))).alloc eS)):=((Bl.refl w).alloc _).alloc _
 clear hk hv L0 L1
 go_enter Tryz.func201,Tryz.ntmps201
 go_wp2_with (go_at_call 92;refine (bW (im v) _).mono ?_;rintro e w2 ⟨he,b2⟩;rw [HN.out] at he;subst he;have q0:=ai b2 oY.out;have q1:=ai b2 gz.out;have c0:=aK q0;have c1:=aI q0;have c4:=aK q1;have c5:=aI q1;have fz:=ay q1;replace b2:=ab b2;replace q1:=ab q1;clear q0)
 refine bodyPost_ret (results_cell_row rfl _ _ (w.heap.size+1) _ _ _ _ rfl (bQ q1.out) Tryz.underlying98 rfl bH) rfl ?_
 exact ⟨rfl,ky (HB.out.trans b2.out) (Nat.le_succ _) _ _⟩
theorem Ew (g:Mg) (h:Hp) (v:Va) (cc:Int) (w:World) (R:oW w g h) (hk:v.kind=3) (hv:0≤v.n) (hn:v.n<h.objs.length) (hz:gj h.file.classes (h.obj v.n).cls cc=true) :
  Calls Tryz.prog 201 #[.pointer (some ⟨g.hb,0,none⟩),cn (im v),int i64 cc] w fun e w'=>e=.returned (cn (im v))/\Bl w w':=by
 have HN:Hid (vz (im v)=false):=lx hk hv
 have HV:Hid (v.kind=3/\0≤v.n/\v.n<h.objs.length):=⟨hk,hv,hn⟩
 have HZ:=ab hz
 have HR:=ab R
 obtain ⟨L0,L1⟩:=qw w #[int i64 (im v).kind,int i64 (im v).n] #[int i64 0,int i64 0] 98 98
 have oY:=ab L0
 have gz:=ab L1
 have HB:Hid (Bl w ((w.alloc (dL (im v))).alloc eS)):=((Bl.refl w).alloc _).alloc _
 clear hk hv hn hz R L0 L1
 go_enter Tryz.func201,Tryz.ntmps201
 go_wp2_with (first
  | (go_at_call 92;refine (bW (im v) _).mono ?_;rintro e w2 ⟨he,b2⟩;rw [HN.out] at he;subst he;have q0:=ai b2 oY.out;have q1:=ai b2 gz.out;have c0:=aK q0;have c1:=aI q0;replace b2:=ab b2;replace q1:=ab q1;replace q0:=ab q0)
  | (go_at_call 164;refine (jj g h v cc _ (HR.out.bl (HB.out.trans b2.out)) HV.out.1 HV.out.2.1 HV.out.2.2).mono ?_;rintro e w3 ⟨he,b3⟩;rw [HZ.out] at he;subst he;replace q0:=ab (ai b3 q0.out);replace q1:=ab (ai b3 q1.out);replace b2:=ab (b2.out.trans b3);clear c0 c1;have c0:=aK q0.out;have c1:=aI q0.out;have c4:=aK q1.out;have c5:=aI q1.out;have fz:=ay q1.out))
 refine bodyPost_ret (results_cell_row rfl _ _ (w.heap.size+1) _ _ _ _ rfl (bQ q1.out) Tryz.underlying98 rfl bH) rfl ?_
 exact ⟨rfl,ky (HB.out.trans b2.out) (Nat.le_succ _) _ _⟩
theorem Iu (s:Nat) (X:Nat->Prop) (wx w0:World) (g:Mg) (h:Hp) (qs:List Nat) (a:Mc) (c:aH) (v:Va) (cc:Int) (w:World) (H:RX s X wx w0 g w h qs a c) (F:Fix w0 g h) (hl:h.objs.length≤100) (ho:h.over=false) (hk:v.kind=3) (hv:0≤v.n) (hn:v.n<h.objs.length) (hz:gj h.file.classes (h.obj v.n).cls cc=false) :
  Calls Tryz.prog 201 #[.pointer (some ⟨g.hb,0,none⟩),cn (im v),int i64 cc] w fun e w'=>e=bL h/\RX s X wx w0 g w' (h.raise 3) qs a c:=by
 have HN:Hid (vz (im v)=false):=lx hk hv
 have HV:Hid (v.kind=3/\0≤v.n/\v.n<h.objs.length):=⟨hk,hv,hn⟩
 have HZ:=ab hz
 have HH:=ab H
 have HL:=ab (And.intro hl ho)
 have HR:=ab (H.rd F hl)
 obtain ⟨L0,L1⟩:=qw w #[int i64 (im v).kind,int i64 (im v).n] #[int i64 0,int i64 0] 98 98
 have oY:=ab L0
 have HB:Hid (Bl w ((w.alloc (dL (im v))).alloc eS)):=((Bl.refl w).alloc _).alloc _
 obtain ⟨E,hE⟩:∃E,bL h=E:=⟨_,rfl⟩
 have HE:=ab hE
 rw [hE]
 have HX:Hid (∃ch,E=.panicked ch):=by
  rw [<-hE];unfold bL;split<;>exact ⟨_,rfl⟩
 clear hk hv hn hz L0 L1 H F hl ho hE
 obtain ⟨ch,rfl⟩:=HX.out
 go_enter Tryz.func201,Tryz.ntmps201
 go_wp2_with (first
  | (go_at_call 92;refine (bW (im v) _).mono ?_;rintro e w2 ⟨he,b2⟩;rw [HN.out] at he;subst he;have q0:=ai b2 oY.out;have c0:=aK q0;have c1:=aI q0;replace b2:=ab b2;clear q0)
  | (go_at_call 164;refine (jj g h v cc _ (HR.out.bl (HB.out.trans b2.out)) HV.out.1 HV.out.2.1 HV.out.2.2).mono ?_;rintro e w3 ⟨he,b3⟩;rw [HZ.out] at he;subst he;replace b2:=ab (b2.out.trans b3))
  | (go_at_call 214;refine (gA s X wx w0 g h qs a c 3 _ (HH.out.bl (HB.out.trans b2.out)) HL.out.1 HL.out.2).mono ?_;rintro e w4 ⟨he,H4⟩;rw [HE.out] at he;subst he;replace H4:=ab H4))
 exact ⟨rfl,rfl,H4.out⟩
theorem wE (k op:Int) (a b:Va) (hk:k=1∨k=2) (w:World):Calls Tryz.prog (if k=1 then 244 else 243) #[int i64 op,int i64 a.n,int i64 b.n] w fun e w'=>e=.returned (.tuple #[int i64 (jY k op a b),.bool (iI k op a b)])/\w'=w:=by
 unfold jY iI
 rcases hk with rfl|rfl
 ·rw [if_pos rfl,if_pos rfl,if_pos rfl];exact Ie op a.n b.n w
 ·rw [if_neg (by decide),if_neg (by decide),if_neg (by decide)];exact vS op a.n b.n w
theorem yx (hb:Nat) (k op:Int) (a b:Va) (hk:k=1∨k=2) (hr:iI k op a b=true) (w:World) :
  Calls Tryz.prog 234 #[.pointer (some ⟨hb,0,none⟩),int i64 k,int i64 op,cn a,cn b] w fun e w'=>e=.returned (cn ⟨k,jY k op a b⟩)/\Bl w w':=by
 obtain ⟨L0,L1,L2⟩:=dD w #[int i64 a.kind,int i64 a.n] #[int i64 b.kind,int i64 b.n] #[int i64 0,int i64 0] 98 98 98
 have c0:=aI L0
 have c1:=aI L1
 have c4:=aK L2
 have c5:=aI L2
 have fz:=ay L2
 have wo:=ab L2
 have HB:Hid (Bl w (((w.alloc (dL a)).alloc (dL b)).alloc eS)):=(((Bl.refl w).alloc _).alloc _).alloc _
 have HW:=ab (wE k op a b hk)
 have HR:=ab hr
 clear L0 L1 L2 hr
 rcases hk with rfl|rfl
 ·rw [if_pos rfl] at HW
  go_enter Tryz.func234,Tryz.ntmps234
  go_wp2_with (go_at_call 244;refine (HW.out _).mono ?_;rintro e w2 ⟨he,hw⟩;rw [HR.out] at he;subst he;rw [hw];clear hw w2)
  refine bodyPost_ret (results_cell_row rfl _ _ (w.heap.size+1+1) _ _ _ _ rfl (dD w _ _ _ _ _ _).2.2 Tryz.underlying98 rfl bH) rfl ?_
  exact ⟨rfl,(((Bl.refl w).alloc _).alloc _).alloc _⟩
 ·rw [if_neg (by decide)] at HW
  go_enter Tryz.func234,Tryz.ntmps234
  go_wp2_with (go_at_call 243;refine (HW.out _).mono ?_;rintro e w2 ⟨he,hw⟩;rw [HR.out] at he;subst he;rw [hw];clear hw w2)
  refine bodyPost_ret (results_cell_row rfl _ _ (w.heap.size+1+1) _ _ _ _ rfl (dD w _ _ _ _ _ _).2.2 Tryz.underlying98 rfl bH) rfl ?_
  exact ⟨rfl,(((Bl.refl w).alloc _).alloc _).alloc _⟩
theorem BL (s:Nat) (X:Nat->Prop) (wx w0:World) (g:Mg) (h:Hp) (qs:List Nat) (a:Mc) (c:aH) (k op:Int) (u v:Va) (hk:k=1∨k=2) (hr:iI k op u v=false) (w:World) (H:RX s X wx w0 g w h qs a c) (hl:h.objs.length≤100) (ho:h.over=false) :
  Calls Tryz.prog 234 #[.pointer (some ⟨g.hb,0,none⟩),int i64 k,int i64 op,cn u,cn v] w fun e w'=>e=bL h/\RX s X wx w0 g w' (h.raise 2) qs a c:=by
 obtain ⟨L0,L1,L2⟩:=dD w #[int i64 u.kind,int i64 u.n] #[int i64 v.kind,int i64 v.n] #[int i64 0,int i64 0] 98 98 98
 have c0:=aI L0
 have c1:=aI L1
 have HB:Hid (Bl w (((w.alloc (dL u)).alloc (dL v)).alloc eS)):=(((Bl.refl w).alloc _).alloc _).alloc _
 have HW:=ab (wE k op u v hk)
 have HR:=ab hr
 have HH:=ab H
 have HL:=ab (And.intro hl ho)
 obtain ⟨E,hE⟩:∃E,bL h=E:=⟨_,rfl⟩
 have HE:=ab hE
 rw [hE]
 have HX:Hid (∃ch,E=.panicked ch):=by
  rw [<-hE];unfold bL;split<;>exact ⟨_,rfl⟩
 clear L0 L1 L2 hr H hl ho hE
 obtain ⟨ch,rfl⟩:=HX.out
 rcases hk with rfl|rfl
 ·rw [if_pos rfl] at HW
  go_enter Tryz.func234,Tryz.ntmps234
  go_wp2_with (first
   | (go_at_call 244;refine (HW.out _).mono ?_;rintro e w2 ⟨he,hw⟩;rw [HR.out] at he;subst he;rw [hw];clear hw w2)
   | (go_at_call 214;refine (gA s X wx w0 g h qs a c 2 _ (HH.out.bl HB.out) HL.out.1 HL.out.2).mono ?_;rintro e w4 ⟨he,H4⟩;rw [HE.out] at he;subst he;replace H4:=ab H4))
  exact ⟨rfl,rfl,H4.out⟩
 ·rw [if_neg (by decide)] at HW
  go_enter Tryz.func234,Tryz.ntmps234
  go_wp2_with (first
   | (go_at_call 243;refine (HW.out _).mono ?_;rintro e w2 ⟨he,hw⟩;rw [HR.out] at he;subst he;rw [hw];clear hw w2)
   | (go_at_call 214;refine (gA s X wx w0 g h qs a c 2 _ (HH.out.bl HB.out) HL.out.1 HL.out.2).mono ?_;rintro e w4 ⟨he,H4⟩;rw [HE.out] at he;subst he;replace H4:=ab H4))
  exact ⟨rfl,rfl,H4.out⟩
theorem dr {P:Program} {fn:Func} {p q:Tmp} {ty:TypeId} (h:fn.results=#[.cell p ty,.tmp q]) (tmps:Array Value) (w:World) (b:Nat) (t:TypeId) (cs:Array Value) (v:Value) (fr:Nat×Nat) (d:TypeDesc) (hp:tmps.getD p undef=.pointer (some ⟨b,0,none⟩)) (hq:tmps.getD q undef=v) (hb:w.heap[b]?=some (.cells cs t fr)) (hu:P.underlying ty=some d) (hd:(match d with | .struct _ | .array _ _=>true|_=>false)=true) (hi:(P.info? ty).map (·.size)=some cs.size) :
  (results fn tmps).run P w=.ok (.tuple #[.agg cs,v]) w:=by
 have BF:tmps[p]?.getD undef=.pointer (some ⟨b,0,none⟩):=by simpa using hp
 have NU:tmps[q]?.getD undef=v:=by simpa using hq
 simp [results,h,BF,NU,asAddr,run_loadVar_row w b t ty cs fr d hb hu hd hi]
theorem zW:(Tryz.prog.info? 106).map (·.size)=some 4:=by kernel_rfl
abbrev zX (x:Hd):Array Value:=#[int i64 x.fr,int i64 x.til,int i64 x.pc,int i64 x.cls]
def QF (h:Hp) (pc:Int) (l:List Hd) (w:World) (e:Ending) (w':World):Prop :=
 Bl w w'/\∃x:Hd,(0≤h.caughtL pc l/\x.pc=h.caughtL pc l/\e=.returned (.tuple #[.agg (zX x),.bool true]))∨(h.caughtL pc l<0/\e=.returned (.tuple #[.agg (zX x),.bool false]))
theorem hJ {u0 u1 u2 u3:Value} {t:TypeId} (h:w.heap[b]?=some (.cells #[u0,u1,u2,u3] t (0,0))) (v0 v1 v2 v3:Value):((((w.setCell ⟨b,0,none⟩ v0).setCell ⟨b,1,none⟩ v1).setCell ⟨b,2,none⟩ v2).setCell ⟨b,3,none⟩ v3).heap[b]?=some (.cells #[v0,v1,v2,v3] t (0,0)):=by
 rw [ax (ax (ax (ax h _) _) _)];rfl
theorem jN {v:World} (h:Bl w v) (hb:w.heap.size≤b) (y0 y1 y2 y3:Value):Bl w ((((v.setCell ⟨b,0,none⟩ y0).setCell ⟨b,1,none⟩ y1).setCell ⟨b,2,none⟩ y2).setCell ⟨b,3,none⟩ y3) :=
 (((h.setCell (p:=⟨b,0,none⟩) hb _).setCell (p:=⟨b,1,none⟩) hb _).setCell (p:=⟨b,2,none⟩) hb _).setCell (p:=⟨b,3,none⟩) hb _
abbrev yy:Obj:=.cells #[int i64 0,int i64 0,int i64 0,int i64 0] 106
theorem lA (g:Mg) (h:Hp) (v:Va) (l:List Hd) (A:Option Addr) (cap:Nat) (pc:Int) (w:World) (R:oW w g h) (hA:kP w A l) (hv:v.kind=3) (h0:0≤v.n) (hn:v.n<h.objs.length) (ht:h.thrown=v.n) (hok:∀q,q<l.length->0≤(nth eB l q).fr/\(nth eB l q).til≤1000/\0≤(nth eB l q).til/\0≤(nth eB l q).pc) (oU:0≤pc/\pc≤1000) :
  Calls Tryz.prog 98 #[.pointer (some ⟨g.hb,0,none⟩),.slice A l.length cap,int i64 pc,cn (im v)] w fun e w'=>QF h pc l w e w':=by
 have HR:=ab R
 have HA:=ab hA
 have HV:Hid (v.kind=3/\0≤v.n/\v.n<h.objs.length/\h.thrown=v.n):=⟨hv,h0,hn,ht⟩
 have DB:=ab hok
 have QD:=hA.1
 unfold maxLen at QD
 have cD:Hid (Bl w ((w.alloc (dL (im v))).alloc yy)):=((Bl.refl w).alloc _).alloc _
 obtain ⟨L0,L1⟩:=bC w #[int i64 (im v).kind,int i64 (im v).n] #[int i64 0,int i64 0,int i64 0,int i64 0] 98 106
 have HL:Hid (((w.alloc (dL (im v))).alloc yy).heap[w.heap.size]?=some (.cells #[int i64 (im v).kind,int i64 (im v).n] 98 (0,0))/\((w.alloc (dL (im v))).alloc yy).heap[w.heap.size+1]?=some (.cells #[int i64 0,int i64 0,int i64 0,int i64 0] 106 (0,0))):=⟨L0,L1⟩
 clear R hA hv h0 hn ht hok L0 L1
 go_enter Tryz.func98,Tryz.ntmps98
 go_wp2
 go_loopw [14] (fun i wr=>∃q:Nat,q≤l.length/\i=int i64 q/\Hid (h.caughtL pc l=h.caughtL pc (l.drop q))/\Hid (Bl w wr)/\Hid (wr.heap[w.heap.size]?=some (.cells #[int i64 (im v).kind,int i64 (im v).n] 98 (0,0))/\wr.heap[w.heap.size+1]?=some (.cells #[int i64 0,int i64 0,int i64 0,int i64 0] 106 (0,0)))) (fun i _=>l.length-(intOf i).toNat)
 case atStart=>exact ⟨0,Nat.zero_le _,rfl,(show h.caughtL pc l=h.caughtL pc (l.drop 0) from rfl),cD.out,HL.out⟩
 case round =>
  clear HL cD
  obtain ⟨q,hq,rfl,hc,hg,HL⟩:=hrel
  by_cases eQ:q<l.length
  ·rcases (HA.out.bl hg.out).2 with z0|⟨b,off,rfl,hcell⟩
   ·omega
   obtain ⟨x0,x1,x2,x3,-⟩:=hcell q eQ
   obtain ⟨o1,o2,o3,o4⟩:=DB.out q eQ
   have Ua:Hid (h.fits (nth eB l q) pc=false->h.caughtL pc (l.drop q)=h.caughtL pc (l.drop (q+1))):=fun e=>oM eQ e
   have Wc:Hid (h.fits (nth eB l q) pc=true->h.caughtL pc (l.drop q)=(nth eB l q).pc):=fun e=>pR eQ e
   generalize hX:nth eB l q=x at *
   have HB:Hid (∀w',Bl wr w'->Calls Tryz.prog 164 #[.pointer (some ⟨g.hb,0,none⟩),cn (im v),int i64 x.cls] w' fun e w2=>e=.returned (.bool (gj h.file.classes (h.obj v.n).cls x.cls))/\Bl w' w2):=fun w' hb=>by
    have:=qj g h v x.cls w' ((HR.out.bl hg.out).bl hb) HV.out.1 (by have:=HV.out.2.1;omega) HV.out.2.2.1
    rwa [decide_eq_true HV.out.2.1,Bool.true_and] at this
   have KM:Hid (h.fits x pc=(decide (x.fr≤pc/\pc≤x.til-1)&&gj h.file.classes (h.obj v.n).cls x.cls)):=by
    show h.fits x pc=_
    unfold Hp.fits
    rw [HV.out.2.2.2,Bool.eq_iff_iff]
    simp only [Bool.and_eq_true,decide_eq_true_eq]
    constructor
    ·rintro ⟨a,b,c⟩;exact ⟨by omega,c⟩
    ·rintro ⟨a,c⟩;exact ⟨by omega,by omega,c⟩
   have k0:=aK HL.out.1
   have k1:=aI HL.out.1
   have hlt:=af HL.out.2
   clear hcell hX
   have K0:∀o,(wr.alloc o).cell? ⟨w.heap.size,0,none⟩=some (int i64 (im v).kind):=fun o=>((Bl.refl wr).alloc o).cell k0
   have K1:∀o,(wr.alloc o).cell? ⟨w.heap.size,1,none⟩=some (int i64 (im v).n):=fun o=>((Bl.refl wr).alloc o).cell k1
   obtain ⟨T,hT⟩:∃T,decide (x.fr≤pc/\pc≤x.til-1)=T:=⟨_,rfl⟩
   obtain ⟨U,hU⟩:∃U,gj h.file.classes (h.obj v.n).cls x.cls=U:=⟨_,rfl⟩
   have HT:=ab hT
   have HU:=ab hU
   rw [hT,hU] at KM
   have bn:=aD wr #[int i64 x.fr,int i64 x.til,int i64 x.pc,int i64 x.cls] 106
   have OT:=ab bn
   clear hT hU bn
   cases T with
   | false =>
    have RN:=ab (Ua.out (KM.out.trans rfl))
    go_wp2_with (go_at_call 36;refine (bh _ _ _ _).mono ?_;rintro e w0 ⟨he,mh⟩;rw [HT.out] at he;subst he;rw [mh];clear mh w0)
    go_roundw
    case rel=>exact ⟨q+1,by omega,by go_num,hc.out.trans RN.out,hg.out.alloc _,ai ((Bl.refl wr).alloc _) HL.out.1,ai ((Bl.refl wr).alloc _) HL.out.2⟩
    case measure=>simp [intOf];omega
   | true =>
    cases U with
    | false =>
     have RN:=ab (Ua.out (KM.out.trans rfl))
     go_wp2_with (first
      | (go_at_call 36;refine (bh _ _ _ _).mono ?_;rintro e w0 ⟨he,mh⟩;rw [HT.out] at he;subst he;rw [mh];clear mh w0)
      | (go_at_call 164;refine (HB.out _ ((Bl.refl wr).alloc _)).mono ?_;rintro e w2 ⟨he,b2⟩;rw [HU.out] at he;subst he;replace b2:=ab b2))
     go_roundw
     case rel=>exact ⟨q+1,by omega,by go_num,hc.out.trans RN.out,(hg.out.alloc _).trans b2.out,ai (((Bl.refl wr).alloc _).trans b2.out) HL.out.1,ai (((Bl.refl wr).alloc _).trans b2.out) HL.out.2⟩
     case measure=>simp [intOf];omega
    | true =>
     have OV:=ab (hc.out.trans (Wc.out (KM.out.trans rfl)))
     go_wp2_with (first
      | (go_at_call 36;refine (bh _ _ _ _).mono ?_;rintro e w0 ⟨he,mh⟩;rw [HT.out] at he;subst he;rw [mh];clear mh w0)
      | (go_at_call 164;refine (HB.out _ ((Bl.refl wr).alloc _)).mono ?_;rintro e w2 ⟨he,b2⟩;rw [HU.out] at he;subst he;have q2:=ai (((Bl.refl wr).alloc _).trans b2) HL.out.2;have fz:=ay q2;have y0:w2.cell? ⟨w.heap.size+1,0,none⟩=some (int i64 0):=(aa q2).trans rfl;have y1:w2.cell? ⟨w.heap.size+1,1,none⟩=some (int i64 0):=(aa q2).trans rfl;have y2:w2.cell? ⟨w.heap.size+1,2,none⟩=some (int i64 0):=(aa q2).trans rfl;have y3:w2.cell? ⟨w.heap.size+1,3,none⟩=some (int i64 0):=(aa q2).trans rfl;have q5:=ai b2 OT.out;have p0:w2.cell? ⟨wr.heap.size,0,none⟩=some (int i64 x.fr):=(aa q5).trans rfl;have p1:w2.cell? ⟨wr.heap.size,1,none⟩=some (int i64 x.til):=(aa q5).trans rfl;have p2:w2.cell? ⟨wr.heap.size,2,none⟩=some (int i64 x.pc):=(aa q5).trans rfl;have p3:w2.cell? ⟨wr.heap.size,3,none⟩=some (int i64 x.cls):=(aa q5).trans rfl;replace q2:=ab q2;replace q5:=ab q5;replace b2:=ab b2))
     refine bodyPost_ret (dr rfl _ _ (w.heap.size+1) _ _ _ _ _ rfl rfl (hJ q2.out _ _ _ _) Tryz.underlying106 rfl zW) rfl ?_
     exact ⟨jN ((hg.out.alloc _).trans b2.out) (Nat.le_succ _) _ _ _ _,x,Or.inl ⟨by rw [OV.out];exact o4,OV.out.symm,rfl⟩⟩
  ·obtain rfl:q=l.length:=by omega
   have q2:=HL.out.2
   have fz:=ay q2
   have y0:wr.cell? ⟨w.heap.size+1,0,none⟩=some (int i64 0):=(aa q2).trans rfl
   have y1:wr.cell? ⟨w.heap.size+1,1,none⟩=some (int i64 0):=(aa q2).trans rfl
   have y2:wr.cell? ⟨w.heap.size+1,2,none⟩=some (int i64 0):=(aa q2).trans rfl
   have y3:wr.cell? ⟨w.heap.size+1,3,none⟩=some (int i64 0):=(aa q2).trans rfl
   replace q2:=ab q2
   go_wp2
   refine bodyPost_ret (dr rfl _ _ (w.heap.size+1) _ _ _ _ _ rfl rfl (hJ q2.out _ _ _ _) Tryz.underlying106 rfl zW) rfl ?_
   have NJ:=hc.out
   rw [List.drop_length] at NJ
   exact ⟨jN hg.out (Nat.le_succ _) _ _ _ _,eB,Or.inr ⟨by rw [NJ];show (-1:Int)<0;decide,rfl⟩⟩
theorem qx (p q:Addr) (w:World) :
  CallsD Tryz.prog 165 #[.pointer (some p),.pointer (some q)] .returning w fun e u' w'=>e=.returned (.tuple #[])/\u'=.returning/\w'=w:=by
 refine callsD_of_wpS Tryz.func165 rfl fun c₀ cs hu=>?_
 apply wpS_seq
 apply wpS_region
 simp [wpOpsS,go_sem,recoverD,hu,Tryz.ntmps165,Exit.thenS]
 refine wpS_of_wp ?_
 go_wp2
 cases c₀
 simp_all [bodyPostS,results,Tryz.results165]
theorem wF (x:Value) (w:World):(Instr.typeAssert (.iface 100 x) 20 100 true).run Tryz.prog w=.ok (.tuple #[x,.bool true]) w:=by
 simp [Instr.typeAssert,run_underlying Tryz.underlying100]
theorem qy (p q:Nat) (how k n:Int) (a0 a1 a2 b0:Value) (K9:List PanicEntry) (w:World) (h0:w.cell? ⟨p,0,none⟩=some a0) (h1:w.cell? ⟨p,1,none⟩=some a1) (h2:w.cell? ⟨p,2,none⟩=some a2) (h3:w.cell? ⟨q,0,none⟩=some b0) (f0:∀i,w.frozen? ⟨p,i,none⟩=false) (f1:w.frozen? ⟨q,0,none⟩=false) (hne:p≠q) :
  CallsD Tryz.prog 165 #[.pointer (some ⟨p,0,none⟩),.pointer (some ⟨q,0,none⟩)] (.panicking ({ v:=.iface 100 (.agg #[int i64 how,int i64 k,int i64 n]),recovered:=false }::K9)) w fun e u' w' =>
   e=.returned (.tuple #[])/\u'=.panicking ({ v:=.iface 100 (.agg #[int i64 how,int i64 k,int i64 n]),recovered:=true }::K9)/\w'=((((w.setCell ⟨p,0,none⟩ (int i64 how)).setCell ⟨p,1,none⟩ (int i64 k)).setCell ⟨p,2,none⟩ (int i64 n)).setCell ⟨q,0,none⟩ (.bool true)).alloc (.cells #[int i64 how,int i64 k,int i64 n] 100):=by
 refine callsD_of_wpS Tryz.func165 rfl fun c₀ cs hu=>?_
 apply wpS_seq
 apply wpS_region
 simp [wpOpsS,go_sem,recoverD,hu,Tryz.ntmps165,Exit.thenS]
 refine wpS_of_wp ?_
 have he:(#[Value.pointer (some ⟨p,0,none⟩),Value.pointer (some ⟨q,0,none⟩)]++(Array.replicate 10 undef).setIfInBounds 3 (.iface 100 (.agg #[int i64 how,int i64 k,int i64 n])))=#[.pointer (some ⟨p,0,none⟩),.pointer (some ⟨q,0,none⟩),undef,undef,undef,.iface 100 (.agg #[int i64 how,int i64 k,int i64 n]),undef,undef,undef,undef,undef,undef]:=rfl
 rw [he]
 clear he
 have RO:=wF (.agg #[int i64 how,int i64 k,int i64 n])
 have hp:=bt h0
 have hq:=bt h3
 go_wp2
 simp [bodyPostS,results,Tryz.results165]
abbrev dC:Obj:=.cells #[int i64 0,int i64 0,int i64 0] 100
abbrev dt:Obj:=.cells #[.bool false] 4
theorem tr (x:Value) (how k n:Int) (S:World->Prop) (w:World) (hc:Calls Tryz.prog 107 #[x] ((w.alloc dC).alloc dt) fun e w'=>e=aV how k n/\w'.heap[w.heap.size]?=some dC/\w'.heap[w.heap.size+1]?=some dt/\S w') :
  Calls Tryz.prog 106 #[.func (.func 107) #[x] #[]] w fun e w'=>e=.returned (.tuple #[.agg #[int i64 how,int i64 k,int i64 n],.bool true])/\∃w1,S w1/\w'=((((w1.setCell ⟨w.heap.size,0,none⟩ (int i64 how)).setCell ⟨w.heap.size,1,none⟩ (int i64 k)).setCell ⟨w.heap.size,2,none⟩ (int i64 n)).setCell ⟨w.heap.size+1,0,none⟩ (.bool true)).alloc (.cells #[int i64 how,int i64 k,int i64 n] 100):=by
 have Ip:∀(fn:Fn) (first cap:Array Value) (w:World),(Instr.makeFunc fn first cap).run Tryz.prog w=.ok (.func fn first cap) w:=fun _ _ _ _=>rfl
 have HC:Hid (_):=hc
 clear hc
 go_enter_defers Tryz.func106,Tryz.ntmps106
 go_wp2_with (go_at_call 107;refine Calls.mono HC.out ?_;rintro e w1 ⟨rfl,b1,b2,s1⟩)
 have c0:w1.cell? ⟨w.heap.size,0,none⟩=some (int i64 0):=by simp [World.cell?,b1]
 have c1:w1.cell? ⟨w.heap.size,1,none⟩=some (int i64 0):=by simp [World.cell?,b1]
 have c2:w1.cell? ⟨w.heap.size,2,none⟩=some (int i64 0):=by simp [World.cell?,b1]
 have c3:w1.cell? ⟨w.heap.size+1,0,none⟩=some (.bool false):=by simp [World.cell?,b2]
 refine leaves_cons (f:=165) (args:=#[.pointer (some ⟨w.heap.size,0,none⟩),.pointer (some ⟨w.heap.size+1,0,none⟩)]) (by simp) (by simp [go_sem]) ?_
 refine (qy w.heap.size (w.heap.size+1) how k n _ _ _ _ [] w1 c0 c1 c2 c3 (fun i=>by simp [World.frozen?,b1]) (by simp [World.frozen?,b2]) (by omega)).mono ?_
 rintro e u' w'' ⟨rfl,rfl,rfl⟩
 obtain ⟨WF,tt⟩:∃WF,WF=((((w1.setCell ⟨w.heap.size,0,none⟩ (int i64 how)).setCell ⟨w.heap.size,1,none⟩ (int i64 k)).setCell ⟨w.heap.size,2,none⟩ (int i64 n)).setCell ⟨w.heap.size+1,0,none⟩ (.bool true)).alloc (.cells #[int i64 how,int i64 k,int i64 n] 100):=⟨_,rfl⟩
 have yz:WF.heap[w.heap.size]?=some (.cells #[int i64 how,int i64 k,int i64 n] 100 (0,0)):=by
  have h1:((((w1.setCell ⟨w.heap.size,0,none⟩ (int i64 how)).setCell ⟨w.heap.size,1,none⟩ (int i64 k)).setCell ⟨w.heap.size,2,none⟩ (int i64 n)).setCell ⟨w.heap.size+1,0,none⟩ (.bool true)).heap[w.heap.size]?=some (.cells #[int i64 how,int i64 k,int i64 n] 100 (0,0)):=by
   rw [aA (by omega),ax (ax (ax b1 _) _)];rfl
  rw [tt,Below.heap_alloc _ _ _ (af h1)];exact h1
 have Mw:WF.heap[w.heap.size+1]?=some (.cells #[.bool true] 4 (0,0)):=by
  have h1:((((w1.setCell ⟨w.heap.size,0,none⟩ (int i64 how)).setCell ⟨w.heap.size,1,none⟩ (int i64 k)).setCell ⟨w.heap.size,2,none⟩ (int i64 n)).setCell ⟨w.heap.size+1,0,none⟩ (.bool true)).heap[w.heap.size+1]?=some (.cells #[.bool true] 4 (0,0)):=by
   have h2:(((w1.setCell ⟨w.heap.size,0,none⟩ (int i64 how)).setCell ⟨w.heap.size,1,none⟩ (int i64 k)).setCell ⟨w.heap.size,2,none⟩ (int i64 n)).heap[w.heap.size+1]?=some dt:=by
    rw [aA (by omega),aA (by omega),aA (by omega)];exact b2
   rw [ax h2];rfl
  rw [tt,Below.heap_alloc _ _ _ (af h1)];exact h1
 have d0:WF.cell? ⟨w.heap.size,0,none⟩=some (int i64 how):=by rw [aa yz];rfl
 have d1:WF.cell? ⟨w.heap.size,1,none⟩=some (int i64 k):=by rw [aa yz];rfl
 have d2:WF.cell? ⟨w.heap.size,2,none⟩=some (int i64 n):=by rw [aa yz];rfl
 have d3:WF.cell? ⟨w.heap.size+1,0,none⟩=some (.bool true):=by rw [aa Mw];rfl
 rw [<-tt]
 have hex:∃w1,S w1/\WF=((((w1.setCell ⟨w.heap.size,0,none⟩ (int i64 how)).setCell ⟨w.heap.size,1,none⟩ (int i64 k)).setCell ⟨w.heap.size,2,none⟩ (int i64 n)).setCell ⟨w.heap.size+1,0,none⟩ (.bool true)).alloc (.cells #[int i64 how,int i64 k,int i64 n] 100):=⟨w1,s1,tt⟩
 simp [Leaves,settle,results,Tryz.results106,go_sem,d0,d1,d2,d3]
 exact hex
theorem tv (x:Value) (S:World->Prop) (w:World) (hc:Calls Tryz.prog 107 #[x] ((w.alloc dC).alloc dt) fun e w'=>e=.returned (.tuple #[])/\w'.heap[w.heap.size]?=some dC/\w'.heap[w.heap.size+1]?=some dt/\S w') :
  Calls Tryz.prog 106 #[.func (.func 107) #[x] #[]] w fun e w'=>e=.returned (.tuple #[.agg #[int i64 0,int i64 0,int i64 0],.bool false])/\∃w1,S w1/\w'=(((w1.setCell ⟨w.heap.size,0,none⟩ (int i64 0)).setCell ⟨w.heap.size,1,none⟩ (int i64 0)).setCell ⟨w.heap.size,2,none⟩ (int i64 0)).setCell ⟨w.heap.size+1,0,none⟩ (.bool false):=by
 have Ip:∀(fn:Fn) (first cap:Array Value) (w:World),(Instr.makeFunc fn first cap).run Tryz.prog w=.ok (.func fn first cap) w:=fun _ _ _ _=>rfl
 have HC:Hid (_):=hc
 clear hc
 go_enter_defers Tryz.func106,Tryz.ntmps106
 go_wp2_with (go_at_call 107;refine Calls.mono HC.out ?_;rintro e w1 ⟨rfl,b1,b2,s1⟩;have c0:w1.cell? ⟨w.heap.size,0,none⟩=some (int i64 0):=(by simp [World.cell?,b1]);have c1:w1.cell? ⟨w.heap.size,1,none⟩=some (int i64 0):=(by simp [World.cell?,b1]);have c2:w1.cell? ⟨w.heap.size,2,none⟩=some (int i64 0):=(by simp [World.cell?,b1]);have c3:w1.cell? ⟨w.heap.size+1,0,none⟩=some (.bool false):=(by simp [World.cell?,b2]);have f0:∀i,w1.frozen? ⟨w.heap.size,i,none⟩=false:=(fun i=>by simp [World.frozen?,b1]);have f1:w1.frozen? ⟨w.heap.size+1,0,none⟩=false:=(by simp [World.frozen?,b2]))
 refine leaves_cons (f:=165) (args:=#[.pointer (some ⟨w.heap.size,0,none⟩),.pointer (some ⟨w.heap.size+1,0,none⟩)]) (by simp) (by simp [go_sem]) ?_
 refine (qx ⟨w.heap.size,0,none⟩ ⟨w.heap.size+1,0,none⟩ _).mono ?_
 rintro e u' w'' ⟨rfl,rfl,rfl⟩
 obtain ⟨WF,tt⟩:∃WF,WF=(((w1.setCell ⟨w.heap.size,0,none⟩ (int i64 0)).setCell ⟨w.heap.size,1,none⟩ (int i64 0)).setCell ⟨w.heap.size,2,none⟩ (int i64 0)).setCell ⟨w.heap.size+1,0,none⟩ (.bool false):=⟨_,rfl⟩
 have yz:WF.heap[w.heap.size]?=some dC:=by
  rw [tt,aA (by omega),ax (ax (ax b1 _) _)];rfl
 have Mw:WF.heap[w.heap.size+1]?=some dt:=by
  have h2:(((w1.setCell ⟨w.heap.size,0,none⟩ (int i64 0)).setCell ⟨w.heap.size,1,none⟩ (int i64 0)).setCell ⟨w.heap.size,2,none⟩ (int i64 0)).heap[w.heap.size+1]?=some dt:=by
   rw [aA (by omega),aA (by omega),aA (by omega)];exact b2
  rw [tt,ax h2];rfl
 have d0:WF.cell? ⟨w.heap.size,0,none⟩=some (int i64 0):=by rw [aa yz];rfl
 have d1:WF.cell? ⟨w.heap.size,1,none⟩=some (int i64 0):=by rw [aa yz];rfl
 have d2:WF.cell? ⟨w.heap.size,2,none⟩=some (int i64 0):=by rw [aa yz];rfl
 have d3:WF.cell? ⟨w.heap.size+1,0,none⟩=some (.bool false):=by rw [aa Mw];rfl
 rw [<-tt]
 have hex:∃w1,S w1/\WF=(((w1.setCell ⟨w.heap.size,0,none⟩ (int i64 0)).setCell ⟨w.heap.size,1,none⟩ (int i64 0)).setCell ⟨w.heap.size,2,none⟩ (int i64 0)).setCell ⟨w.heap.size+1,0,none⟩ (.bool false):=⟨w1,s1,tt⟩
 simp [Leaves,settle,results,Tryz.results106,go_sem,d0,d1,d2,d3]
 exact hex
theorem rK (x y:Value) (how k n:Int) (S:World->Prop) (w:World) (hc:Calls Tryz.prog 108 #[x,y] ((w.alloc dC).alloc dt) fun e w'=>e=aV how k n/\w'.heap[w.heap.size]?=some dC/\w'.heap[w.heap.size+1]?=some dt/\S w') :
  Calls Tryz.prog 106 #[.func (.func 108) #[] #[x,y]] w fun e w'=>e=.returned (.tuple #[.agg #[int i64 how,int i64 k,int i64 n],.bool true])/\∃w1,S w1/\w'=((((w1.setCell ⟨w.heap.size,0,none⟩ (int i64 how)).setCell ⟨w.heap.size,1,none⟩ (int i64 k)).setCell ⟨w.heap.size,2,none⟩ (int i64 n)).setCell ⟨w.heap.size+1,0,none⟩ (.bool true)).alloc (.cells #[int i64 how,int i64 k,int i64 n] 100):=by
 have Ip:∀(fn:Fn) (first cap:Array Value) (w:World),(Instr.makeFunc fn first cap).run Tryz.prog w=.ok (.func fn first cap) w:=fun _ _ _ _=>rfl
 have HC:Hid (_):=hc
 clear hc
 go_enter_defers Tryz.func106,Tryz.ntmps106
 go_wp2_with (go_at_call 108;refine Calls.mono HC.out ?_;rintro e w1 ⟨rfl,b1,b2,s1⟩)
 have c0:w1.cell? ⟨w.heap.size,0,none⟩=some (int i64 0):=by simp [World.cell?,b1]
 have c1:w1.cell? ⟨w.heap.size,1,none⟩=some (int i64 0):=by simp [World.cell?,b1]
 have c2:w1.cell? ⟨w.heap.size,2,none⟩=some (int i64 0):=by simp [World.cell?,b1]
 have c3:w1.cell? ⟨w.heap.size+1,0,none⟩=some (.bool false):=by simp [World.cell?,b2]
 refine leaves_cons (f:=165) (args:=#[.pointer (some ⟨w.heap.size,0,none⟩),.pointer (some ⟨w.heap.size+1,0,none⟩)]) (by simp) (by simp [go_sem]) ?_
 refine (qy w.heap.size (w.heap.size+1) how k n _ _ _ _ [] w1 c0 c1 c2 c3 (fun i=>by simp [World.frozen?,b1]) (by simp [World.frozen?,b2]) (by omega)).mono ?_
 rintro e u' w'' ⟨rfl,rfl,rfl⟩
 obtain ⟨WF,tt⟩:∃WF,WF=((((w1.setCell ⟨w.heap.size,0,none⟩ (int i64 how)).setCell ⟨w.heap.size,1,none⟩ (int i64 k)).setCell ⟨w.heap.size,2,none⟩ (int i64 n)).setCell ⟨w.heap.size+1,0,none⟩ (.bool true)).alloc (.cells #[int i64 how,int i64 k,int i64 n] 100):=⟨_,rfl⟩
 have yz:WF.heap[w.heap.size]?=some (.cells #[int i64 how,int i64 k,int i64 n] 100 (0,0)):=by
  have h1:((((w1.setCell ⟨w.heap.size,0,none⟩ (int i64 how)).setCell ⟨w.heap.size,1,none⟩ (int i64 k)).setCell ⟨w.heap.size,2,none⟩ (int i64 n)).setCell ⟨w.heap.size+1,0,none⟩ (.bool true)).heap[w.heap.size]?=some (.cells #[int i64 how,int i64 k,int i64 n] 100 (0,0)):=by
   rw [aA (by omega),ax (ax (ax b1 _) _)];rfl
  rw [tt,Below.heap_alloc _ _ _ (af h1)];exact h1
 have Mw:WF.heap[w.heap.size+1]?=some (.cells #[.bool true] 4 (0,0)):=by
  have h1:((((w1.setCell ⟨w.heap.size,0,none⟩ (int i64 how)).setCell ⟨w.heap.size,1,none⟩ (int i64 k)).setCell ⟨w.heap.size,2,none⟩ (int i64 n)).setCell ⟨w.heap.size+1,0,none⟩ (.bool true)).heap[w.heap.size+1]?=some (.cells #[.bool true] 4 (0,0)):=by
   have h2:(((w1.setCell ⟨w.heap.size,0,none⟩ (int i64 how)).setCell ⟨w.heap.size,1,none⟩ (int i64 k)).setCell ⟨w.heap.size,2,none⟩ (int i64 n)).heap[w.heap.size+1]?=some dt:=by
    rw [aA (by omega),aA (by omega),aA (by omega)];exact b2
   rw [ax h2];rfl
  rw [tt,Below.heap_alloc _ _ _ (af h1)];exact h1
 have d0:WF.cell? ⟨w.heap.size,0,none⟩=some (int i64 how):=by rw [aa yz];rfl
 have d1:WF.cell? ⟨w.heap.size,1,none⟩=some (int i64 k):=by rw [aa yz];rfl
 have d2:WF.cell? ⟨w.heap.size,2,none⟩=some (int i64 n):=by rw [aa yz];rfl
 have d3:WF.cell? ⟨w.heap.size+1,0,none⟩=some (.bool true):=by rw [aa Mw];rfl
 rw [<-tt]
 have hex:∃w1,S w1/\WF=((((w1.setCell ⟨w.heap.size,0,none⟩ (int i64 how)).setCell ⟨w.heap.size,1,none⟩ (int i64 k)).setCell ⟨w.heap.size,2,none⟩ (int i64 n)).setCell ⟨w.heap.size+1,0,none⟩ (.bool true)).alloc (.cells #[int i64 how,int i64 k,int i64 n] 100):=⟨w1,s1,tt⟩
 simp [Leaves,settle,results,Tryz.results106,go_sem,d0,d1,d2,d3]
 exact hex
theorem rL (x y:Value) (S:World->Prop) (w:World) (hc:Calls Tryz.prog 108 #[x,y] ((w.alloc dC).alloc dt) fun e w'=>e=.returned (.tuple #[])/\w'.heap[w.heap.size]?=some dC/\w'.heap[w.heap.size+1]?=some dt/\S w') :
  Calls Tryz.prog 106 #[.func (.func 108) #[] #[x,y]] w fun e w'=>e=.returned (.tuple #[.agg #[int i64 0,int i64 0,int i64 0],.bool false])/\∃w1,S w1/\w'=(((w1.setCell ⟨w.heap.size,0,none⟩ (int i64 0)).setCell ⟨w.heap.size,1,none⟩ (int i64 0)).setCell ⟨w.heap.size,2,none⟩ (int i64 0)).setCell ⟨w.heap.size+1,0,none⟩ (.bool false):=by
 have Ip:∀(fn:Fn) (first cap:Array Value) (w:World),(Instr.makeFunc fn first cap).run Tryz.prog w=.ok (.func fn first cap) w:=fun _ _ _ _=>rfl
 have HC:Hid (_):=hc
 clear hc
 go_enter_defers Tryz.func106,Tryz.ntmps106
 go_wp2_with (go_at_call 108;refine Calls.mono HC.out ?_;rintro e w1 ⟨rfl,b1,b2,s1⟩;have c0:w1.cell? ⟨w.heap.size,0,none⟩=some (int i64 0):=(by simp [World.cell?,b1]);have c1:w1.cell? ⟨w.heap.size,1,none⟩=some (int i64 0):=(by simp [World.cell?,b1]);have c2:w1.cell? ⟨w.heap.size,2,none⟩=some (int i64 0):=(by simp [World.cell?,b1]);have c3:w1.cell? ⟨w.heap.size+1,0,none⟩=some (.bool false):=(by simp [World.cell?,b2]);have f0:∀i,w1.frozen? ⟨w.heap.size,i,none⟩=false:=(fun i=>by simp [World.frozen?,b1]);have f1:w1.frozen? ⟨w.heap.size+1,0,none⟩=false:=(by simp [World.frozen?,b2]))
 refine leaves_cons (f:=165) (args:=#[.pointer (some ⟨w.heap.size,0,none⟩),.pointer (some ⟨w.heap.size+1,0,none⟩)]) (by simp) (by simp [go_sem]) ?_
 refine (qx ⟨w.heap.size,0,none⟩ ⟨w.heap.size+1,0,none⟩ _).mono ?_
 rintro e u' w'' ⟨rfl,rfl,rfl⟩
 obtain ⟨WF,tt⟩:∃WF,WF=(((w1.setCell ⟨w.heap.size,0,none⟩ (int i64 0)).setCell ⟨w.heap.size,1,none⟩ (int i64 0)).setCell ⟨w.heap.size,2,none⟩ (int i64 0)).setCell ⟨w.heap.size+1,0,none⟩ (.bool false):=⟨_,rfl⟩
 have yz:WF.heap[w.heap.size]?=some dC:=by
  rw [tt,aA (by omega),ax (ax (ax b1 _) _)];rfl
 have Mw:WF.heap[w.heap.size+1]?=some dt:=by
  have h2:(((w1.setCell ⟨w.heap.size,0,none⟩ (int i64 0)).setCell ⟨w.heap.size,1,none⟩ (int i64 0)).setCell ⟨w.heap.size,2,none⟩ (int i64 0)).heap[w.heap.size+1]?=some dt:=by
   rw [aA (by omega),aA (by omega),aA (by omega)];exact b2
  rw [tt,ax h2];rfl
 have d0:WF.cell? ⟨w.heap.size,0,none⟩=some (int i64 0):=by rw [aa yz];rfl
 have d1:WF.cell? ⟨w.heap.size,1,none⟩=some (int i64 0):=by rw [aa yz];rfl
 have d2:WF.cell? ⟨w.heap.size,2,none⟩=some (int i64 0):=by rw [aa yz];rfl
 have d3:WF.cell? ⟨w.heap.size+1,0,none⟩=some (.bool false):=by rw [aa Mw];rfl
 rw [<-tt]
 have hex:∃w1,S w1/\WF=(((w1.setCell ⟨w.heap.size,0,none⟩ (int i64 0)).setCell ⟨w.heap.size,1,none⟩ (int i64 0)).setCell ⟨w.heap.size,2,none⟩ (int i64 0)).setCell ⟨w.heap.size+1,0,none⟩ (.bool false):=⟨w1,s1,tt⟩
 simp [Leaves,settle,results,Tryz.results106,go_sem,d0,d1,d2,d3]
 exact hex
def kc (x:ph):Int×Int:=(x.cls,x.fld)
theorem qA {c:Nat} {x:ph} (h:x∈iw cs c d):x.cls=d/\∃k:Nat,k<(nth cd cs d).fields.length/\x.fld=k:=by
 unfold iw at h
 split at h
 ·rw [List.mem_map] at h
  obtain ⟨k,hk,rfl⟩:=h
  exact ⟨rfl,k,by simpa using hk,rfl⟩
 ·simp at h
section
variable (cs:List Cl) (c:Nat)
theorem tw (d:Nat):((iw cs c d).map kc).Nodup:=by
 unfold iw
 split
 ·rw [List.map_map]
  unfold List.Nodup
  rw [List.pairwise_map]
  refine List.Pairwise.imp ?_ (List.nodup_range (n:=(nth cd cs d).fields.length))
  intro a b OX e
  simp [kc] at e
  exact OX (by omega)
 ·simp
theorem qC:∀l:List Nat,l.Nodup->((l.flatMap (iw cs c)).map kc).Nodup
 | [],_=>by simp
 | d::l,h=>by
  rw [List.nodup_cons] at h
  rw [List.flatMap_cons,List.map_append,List.nodup_append]
  refine ⟨tw cs c d,qC l h.2,?_⟩
  intro a ha b hb e
  rw [List.mem_map] at ha hb
  obtain ⟨x,hx,rfl⟩:=ha
  obtain ⟨y,hy,rfl⟩:=hb
  rw [List.mem_flatMap] at hy
  obtain ⟨d',KT,hy⟩:=hy
  have h1:=(qA hx).1
  have h2:=(qA hy).1
  simp only [kc,Prod.mk.injEq] at e
  have:d=d':=by omega
  subst this
  exact h.1 KT
theorem rM:((dz cs c).map kc).Nodup:=qC cs c _ List.nodup_range
end
theorem wG {c:Nat} (hd:d<cs.length) (hb:fI cs c d=true) (hk:k<(nth cd cs d).fields.length):((d:Int),(k:Int))∈(dz cs c).map kc:=by
 rw [List.mem_map]
 refine ⟨⟨d,k,jc (nth cL (nth cd cs d).fields k)⟩,?_,rfl⟩
 unfold dz
 rw [List.mem_flatMap]
 refine ⟨d,by simpa using hd,?_⟩
 unfold iw
 rw [if_pos hb,List.mem_map]
 exact ⟨k,by simpa using hk,rfl⟩
section
variable {cs:List Cl} {l:List ph} {cl:Int}
theorem BM {c:Nat} (hl:l.map kc=(dz cs cl.toNat).map kc) (hb:gj cs cl (c:Int)=true) (hk:k<(nth cd cs c).fields.length) :
  ∃j:Nat,j<l.length/\fJ l c k=j/\(nth cG l j).cls=c/\(nth cG l j).fld=k:=by
 unfold gj at hb
 rw [Bool.and_eq_true] at hb
 have h1:=of_decide_eq_true hb.1
 have hm:=wG (cs:=cs) (c:=cl.toNat) (d:=c) (k:=k) (by omega) (by simpa using hb.2) hk
 rw [<-hl,List.mem_map] at hm
 obtain ⟨x,hx,G9⟩:=hm
 simp only [kc,Prod.mk.injEq] at G9
 unfold fJ
 cases hf:l.findIdx? (fun x=>decide (x.cls=(c:Int)/\x.fld=(k:Int))) with
 | none =>
  rw [List.findIdx?_eq_none_iff] at hf
  have:=hf x hx
  simp [G9.1,G9.2] at this
 | some i =>
  rw [List.findIdx?_eq_some_iff_getElem] at hf
  obtain ⟨hi,hp,-⟩:=hf
  have BF:=of_decide_eq_true hp
  refine ⟨i,hi,rfl,?_,?_⟩
  ·rw [bP hi];exact BF.1
  ·rw [bP hi];exact BF.2
theorem Ex (hl:l.map kc=(dz cs cl.toNat).map kc) {i:Nat} (hi:i<l.length) (hj:j<l.length) (h:kc (nth cG l i)=kc (nth cG l j)):i=j:=by
 have hn:=rM cs cl.toNat
 rw [<-hl] at hn
 rw [bP hi,bP hj] at h
 have T0:i<(l.map kc).length:=by simpa using hi
 have hj':j<(l.map kc).length:=by simpa using hj
 have e:(l.map kc)[i]=(l.map kc)[j]:=by simpa using h
 exact (List.getElem_inj hn).mp e
end
theorem Ey {l:List ph} (hj:j<l.length) (v:Va):(l.set j { nth cG l j with v:=v }).map kc=l.map kc:=by
 apply List.ext_getElem
 ·simp
 ·intro i h1 h2
  simp only [List.getElem_map,List.getElem_set]
  split
  ·rename_i e
   subst e
   rw [bP hj]
   rfl
  ·rfl
theorem zY {α:Type} {d:α} {l:List α} {x:α} (h:x∈l):∃i,i<l.length/\nth d l i=x:=by
 obtain ⟨i,hi,rfl⟩:=List.getElem_of_mem h
 exact ⟨i,hi,bP hi⟩
section
open Go.Maps (Keyed has)
theorem iY {A:Option Addr} (h:cg w A cs) {c f:Nat} (hc:c<cs.length) (hf:f<(nth cd cs c).fields.length) :
  ∃b off F fo uc,A=some ⟨b,off,none⟩/\w.cell? ⟨b,off+c*2+1,none⟩=some (.slice (some ⟨F,fo,none⟩) (nth cd cs c).fields.length uc)/\cs.length≤maxLen/\(nth cd cs c).fields.length≤maxLen
   /\ w.cell? ⟨F,fo+f*2,none⟩=some (int i64 (nth cL (nth cd cs c).fields f).kind)/\w.cell? ⟨F,fo+f*2+1,none⟩=some (int i64 (nth cL (nth cd cs c).fields f).cls):=by
 rcases h.2 with h0|⟨b,off,rfl,hcell⟩
 ·omega
 obtain ⟨-,-,A',uc,jB,hty⟩:=hcell c hc
 rcases hty.2 with h0|⟨F,fo,rfl,htc⟩
 ·omega
 exact ⟨b,off,F,fo,uc,rfl,jB,h.1,hty.1,(htc f hf).1,(htc f hf).2.1⟩
theorem yA:(Tryz.prog.info? 261).map (·.size)=some 3:=by kernel_rfl
abbrev Ub:Obj:=.cells #[int i64 0,int i64 0,int i64 0] 261
theorem BN {k n m k' n' m':Value} {t:TypeId} (q:w.heap[b]?=some (.cells #[k,n,m] t (0,0))):(((w.setCell ⟨b,0,none⟩ k').setCell ⟨b,1,none⟩ n').setCell ⟨b,2,none⟩ m').heap[b]?=some (.cells #[k',n',m'] t (0,0)):=by
 rw [ax (ax (ax q _) _) _];rfl
theorem lB (hb:Nat) (v:Va) (c k:Int) (hk:v.kind=3) (hv:0≤v.n) (w:World) :
  Calls Tryz.prog 232 #[.pointer (some ⟨hb,0,none⟩),cn (im v),int i64 c,int i64 k] w fun e w'=>e=.returned (jf (v.n+1) c k)/\Bl w w':=by
 have HN:Hid (vz (im v)=false):=lx hk hv
 have e:im v=⟨3,v.n+1⟩:=gq hk
 rw [e] at HN ⊢
 obtain ⟨L0,L1⟩:=bC w #[int i64 3,int i64 (v.n+1)] #[int i64 0,int i64 0,int i64 0] 98 261
 have oY:=ab L0
 have gz:=ab L1
 have HB:Hid (Bl w ((w.alloc (dL ⟨3,v.n+1⟩)).alloc Ub)):=((Bl.refl w).alloc _).alloc _
 clear hk hv e L0 L1
 go_enter Tryz.func232,Tryz.ntmps232
 go_wp2_with (go_at_call 92;refine (bW ⟨3,v.n+1⟩ _).mono ?_;rintro e w2 ⟨he,b2⟩;rw [HN.out] at he;subst he;have q0:=ai b2 oY.out;have c1:=aI q0;have q1:=ai b2 gz.out;have d0:w2.cell? ⟨w.heap.size+1,0,none⟩=some (int i64 0):=(aa q1).trans rfl;have d1:w2.cell? ⟨w.heap.size+1,1,none⟩=some (int i64 0):=(aa q1).trans rfl;have d2:w2.cell? ⟨w.heap.size+1,2,none⟩=some (int i64 0):=(aa q1).trans rfl;have fz:=ay q1;replace b2:=ab b2;replace q1:=ab q1;clear q0)
 refine bodyPost_ret (results_cell_row rfl _ _ (w.heap.size+1) _ _ _ _ rfl (BN q1.out) Tryz.underlying261 rfl yA) rfl ?_
 exact ⟨rfl,Bl.setCell (Bl.setCell (Bl.setCell (HB.out.trans b2.out) (p:=⟨w.heap.size+1,0,none⟩) (Nat.le_succ _) _) (p:=⟨w.heap.size+1,1,none⟩) (Nat.le_succ _) _) (p:=⟨w.heap.size+1,2,none⟩) (Nat.le_succ _) _⟩
theorem oZ (s:Nat) (X:Nat->Prop) (wx w0:World) (g:Mg) (h:Hp) (qs:List Nat) (a:Mc) (c:aH) (v:Va) (cc k:Int) (w:World) (H:RX s X wx w0 g w h qs a c) (hl:h.objs.length≤100) (ho:h.over=false) (hk:v.kind=3) (hv:v.n=-1) :
  Calls Tryz.prog 232 #[.pointer (some ⟨g.hb,0,none⟩),cn (im v),int i64 cc,int i64 k] w fun e w'=>e=bL h/\RX s X wx w0 g w' (h.raise 1) qs a c:=by
 have HN:Hid (vz (im v)=true):=l4 hk hv
 have e:im v=⟨3,0⟩:=by rw [gq hk,hv];rfl
 rw [e] at HN ⊢
 have HB:Hid (Bl w ((w.alloc (dL ⟨3,0⟩)).alloc Ub)):=((Bl.refl w).alloc _).alloc _
 have HH:=ab H
 have HL:=ab (And.intro hl ho)
 obtain ⟨E,hE⟩:∃E,bL h=E:=⟨_,rfl⟩
 have HE:=ab hE
 rw [hE]
 have HX:Hid (∃ch,E=.panicked ch):=by
  rw [<-hE];unfold bL;split<;>exact ⟨_,rfl⟩
 clear hk hv e H hl ho hE
 obtain ⟨ch,rfl⟩:=HX.out
 go_enter Tryz.func232,Tryz.ntmps232
 go_wp2_with (first
  | (go_at_call 92;refine (bW ⟨3,0⟩ _).mono ?_;rintro e w2 ⟨he,b2⟩;rw [HN.out] at he;subst he;replace b2:=ab b2)
  | (go_at_call 214;refine (gA s X wx w0 g h qs a c 1 _ (HH.out.bl (HB.out.trans b2.out)) HL.out.1 HL.out.2).mono ?_;rintro e w3 ⟨he,H3⟩;rw [HE.out] at he;subst he;replace H3:=ab H3))
 exact ⟨rfl,rfl,H3.out⟩
theorem Ez:(Tryz.prog.info? 98).map (fun i=>(i.zero,i.size,i.bytes))=some (some (.agg #[int i64 0,int i64 0]),2,16):=by kernel_rfl
theorem I0 (w:World):(zeroValue 98).run Tryz.prog w=.ok (cn ⟨0,0⟩) w:=by
 obtain ⟨i,hi,hz,-,-⟩:=info_parts Ez
 simp [zeroValue,hi,hz]
 rfl
theorem wH {mp n:Nat} {D:DataW Nat} (h:w.ownsMap Tryz.prog 261 ft mp n D) {o c k:Int} (ho:cP o) (hc:cP c) (hk:cP k) (u:Va) (hu:has D (jW o c k)=true->∀z,D.atKey (jW o c k) z=KU u) :
  (Instr.lookup 171 (.map (some mp)) (jf o c k) true).run Tryz.prog w=.ok (.tuple #[cn (if has D (jW o c k)=true then u else ⟨0,0⟩),.bool (has D (jW o c k))]) w:=by
 obtain ⟨v,ps,h1,h2⟩:=h.look_ok jX Tryz.underlying171 (I0 w) (sa ⟨0,0⟩) (lT ho hc hk)
 rw [h1]
 cases hh:has D (jW o c k) with
 | true =>
  rw [hu hh] at h2
  rw [if_pos rfl,qi h2]
 | false =>
  rw [Maps.atKey_of_not_has hh] at h2
  rw [if_neg (by decide),qi h2]
end
section
open Go.Maps (Keyed has)
theorem tx {l:List Cl} (h:eG l=true) (hd:d<l.length):l.length≤12/\(nth cd l d).fields.length≤6/\∀t∈(nth cd l d).fields,fO l.length t=true:=by
 unfold eG at h
 rw [Bool.and_eq_true,List.all_eq_true] at h
 have h1:=of_decide_eq_true h.1
 have h2:=h.2 d (by simpa using hd)
 unfold rE at h2
 rw [Bool.and_eq_true,List.all_eq_true] at h2
 have h3:=of_decide_eq_true h2.1
 exact ⟨h1.2.1,h3.2,h2.2⟩
theorem gP (cs:List Cl) (c k:Nat):dW cs (c:Int) (k:Int)=nth cL (nth cd cs c).fields k:=by unfold dW;rw [Int.toNat_natCast,Int.toNat_natCast]
theorem yB {l:List Cl} (h:eG l=true) {c:Nat} (hc:c<l.length) (hk:k<(nth cd l c).fields.length):1≤(dW l (c:Int) (k:Int)).kind/\(dW l (c:Int) (k:Int)).kind≤3:=by
 rw [gP]
 exact zH ((tx h hc).2.2 _ (bE hk))
theorem RX.find (H:RX s X wx w0 g w h qs a c) {o cc:Nat} (ho:o<h.objs.length) (hb:gj h.file.classes (nth cA h.objs o).cls (cc:Int)=true) (hk:k<(nth cd h.file.classes cc).fields.length) :
  ∃j:Nat,j<(nth cA h.objs o).held.length/\fJ (nth cA h.objs o).held cc k=j/\(nth cG (nth cA h.objs o).held j).cls=cc/\(nth cG (nth cA h.objs o).held j).fld=k/\(nth cG (nth cA h.objs o).held j).v.kind=(dW h.file.classes (cc:Int) (k:Int)).kind:=by
 obtain ⟨vc,vo,vx,vs,l,H⟩:=H
 obtain ⟨n,D,F⟩:=H.rh.fld
 obtain ⟨j,h1,h2,h3,h4⟩:=BM (F.ks o ho) hb hk
 refine ⟨j,h1,h2,h3,h4,?_⟩
 have:=F.kd o ho _ (bE (d:=cG) h1)
 rw [h3,h4] at this
 exact this
end
end Go.Proofs.YtimjmdfokicbkaaGreat
