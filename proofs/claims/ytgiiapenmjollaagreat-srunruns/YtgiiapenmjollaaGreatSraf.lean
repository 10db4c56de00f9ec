import Derived.Test.YtgiiapenmjollaaGreatSrab
import Derived.Test.YtgiiapenmjollaaGreatSrae
import Derived.Deep.RegionLaw
namespace Go.Proofs.YtgiiapenmjollaaGreat
set_option linter.all false
set_option maxHeartbeats 40000000
set_option maxRecDepth 100000
open Go.RowKit
open Go.Value (int)
open Go.IntKind (i64)
variable {c:aH} {h:Hp} {qs:List Nat} {l:List Va} {a:Mc} {g:Mg} {s:Nat} {X:Nat->Prop} {vc vo vs vx:Value} {w w0 wx:World}
theorem BC (lb lc n:Nat) (l:List Va) (w:World) (B:cu w lb l) (hn:n+1<l.length) (hl:l.length<=1000) (hk:(nth ag l n).kind=2) (h4:(nth ag l (n+1)).kind≠4) :
  Calls Tryz.prog 149 #[.slice (some ⟨lb,0,none⟩) l.length lc,int i64 (n:Int),int i64 2] w fun e w'=>e=aV 6 0 0/\Bl w w':=by
 have x0:=B.c0 (i:=n) (by omega)
 have x1:=B.c1 (i:=n) (by omega)
 have Rb:=ab (B.c0 (i:=n+1) hn)
 have Rc:=ab (B.c1 (i:=n+1) hn)
 have hlt:=af B.blk
 have kv:(0:Int)<=(n:Int):=by omega
 have kg:(n:Int)<(l.length:Int):=by omega
 have ID:(0:Int)<=(n:Int)+1:=by omega
 have Tn:(n:Int)+1<(l.length:Int):=by omega
 have HK:=ab hk
 have Rd:=ab h4
 have HB:Hid (Bl w (w.alloc eT)):=(Bl.refl w).alloc _
 generalize nth ag l n=u at *
 generalize nth ag l (n+1)=u' at *
 clear B hk h4
 go_enter Tryz.func149,Tryz.ntmps149
 go_wp2_with (go_at_call 144;first
  | (refine (eI u 2 _ HK.out).mono ?_;rintro e w2 ⟨rfl,b2⟩;have y2:=b2.cell (Bl.cell HB.out Rb.out);have y3:=b2.cell (Bl.cell HB.out Rc.out);have mZ:=bC y2;replace b2:=ab b2)
  | (refine (lU u' 4 _ Rd.out).mono ?_;rintro e w3 ⟨rfl,b3⟩;replace b3:=ab b3))
 exact ⟨rfl,rfl,(HB.out.trans (b2.out.alloc _)).trans b3.out⟩
theorem qw (lb lc n:Nat) (l:List Va) (v:Va) (w:World) (B:cu w lb l) (hn:n+1<l.length) (hl:l.length<=1000) (hk:v.kind=2) :
  Calls Tryz.prog 84 #[.slice (some ⟨lb,0,none⟩) l.length lc,int i64 (n:Int),cn v] w fun e w'=>e=.returned (.tuple #[])/\cu w' lb ((l.set n v).set (n+1) ⟨4,0⟩)/\w.grownBy w' (some lb):=by
 obtain ⟨vk,vn⟩:=v
 dsimp only at hk
 subst hk
 have x0:=B.c0 (i:=n) (by omega)
 have x1:=B.c1 (i:=n) (by omega)
 have x2:=B.c0 (i:=n+1) hn
 have x3:=B.c1 (i:=n+1) hn
 have fz:=ay B.blk
 have hlt:=af B.blk
 have kv:(0:Int)<=(n:Int):=by omega
 have kg:(n:Int)<(l.length:Int):=by omega
 have ID:(0:Int)<=(n:Int)+1:=by omega
 have Tn:(n:Int)+1<(l.length:Int):=by omega
 have HB:=ab B
 have hne:lb≠w.heap.size:=by omega
 have kV:n<l.length:=by omega
 clear B
 go_enter Tryz.func84,Tryz.ntmps84
 go_wp2
 go_end0
 have h1:=HB.out.set kV (⟨2,vn⟩:Va)
 have h2:=h1.set (i:=n+1) (by rw [List.length_set];exact hn) (⟨4,0⟩:Va)
 exact ⟨rfl,h2.bl ((Bl.refl _).alloc _),fT (fT (fT (fT (cQ lb _ _) (cQ lb _ _)) (cQ lb _ _)) (cQ lb _ _)) (World.grownBy_alloc _ _ _)⟩
theorem CA.lbox (H:CA w0 g w a c l vs):cu w a.lb l:=⟨H.loc⟩
section
variable {w0:World} {g:Mg} {a:Mc} {c:aH} {l:List Va} {vs:Value} {w:World}
theorem wB (H:CA w0 g w a c l vs) (n:Nat) (k:Int) (hn:n<c.locs.length) (hk:1<=k/\k<=3) (h2:k=2->n+1<c.locs.length) (hv:(nth ag c.locs n).kind=k) :
  Calls Tryz.prog 149 #[.slice (some ⟨a.lb,0,none⟩) c.locs.length a.lc,int i64 (n:Int),int i64 k] w fun e w'=>e=.returned (cn (im (nth ag c.locs n)))/\Bl w w':=by
 have hl:=H.rel.len
 have hs:=H.short
 have e:=H.rel.rd n (by omega) (by omega)
 rw [<-hl,<-e]
 by_cases h:k=2
 ·subst h
  exact BB a.lb a.lc n l w H.lbox (by have:=h2 rfl;omega) (by omega) (by rw [e];exact hv) (H.rel.long n hv)
 ·exact Em a.lb a.lc n l k w H.lbox (by omega) (by omega) (by rw [e];exact hv) h
theorem IE (H:CA w0 g w a c l vs) (n:Nat) (k:Int) (hn:n<c.locs.length) (hk:1<=k/\k<=3) (h2:k=2->n+1<c.locs.length) (hv:(nth ag c.locs n).kind≠k) :
  Calls Tryz.prog 149 #[.slice (some ⟨a.lb,0,none⟩) c.locs.length a.lc,int i64 (n:Int),int i64 k] w fun e w'=>e=aV 6 0 0/\Bl w w':=by
 have hl:=H.rel.len
 have hs:=H.short
 rw [<-hl]
 by_cases hm:(nth ag l n).kind=k
 ·by_cases h:k=2
  ·subst h
   refine BC a.lb a.lc n l w H.lbox (by have:=h2 rfl;omega) (by omega) hm fun h4=>hv ?_
   rw [H.rel.back n (by omega) (by omega) (fun _=>h4)]
   exact hm
  ·exact absurd ((H.rel.back n (by omega) (by omega) (fun q=>absurd (hm.symm.trans q) h)).trans hm) hv
 ·exact BA a.lb a.lc n l k w H.lbox (by omega) (by omega) hm
end
theorem l4.setl {w':World} {l':List Va} (H:l4 s X wx w0 g w h qs a c vc vo vx vs l) (hg:w.grownBy w' (some a.lb)) (hb:cu w' a.lb l') {L:List Va} (hr:mI L l') (hL:L.length=c.locs.length) :
  l4 s X wx w0 g w' h qs a { c with locs:=L } vc vo vx vs l':=by
 have hf:=(H.ca.far H.rh).2.1
 have eR:a.q≠a.lb:=dN H.ca.blk H.ca.loc (by decide)
 refine ⟨H.rh.kept hg (fun b e=>?_),⟨H.ca.own,H.ca.ownl,?_,hb.blk,hr,H.ca.stk.kept hg (Or.inr H.ca.apart),H.ca.apart,H.ca.me,by dsimp only;rw [hL];exact H.ca.short,H.ca.kinds⟩,H.farr,H.farc,H.kept.kept hg (fun b e hx=>?_)⟩
 ·cases e;exact ⟨H.ca.ownl,hf⟩
 ·have:=au hg H.ca.blk (fun e=>eR (Option.some.inj e).symm)
  rw [this]
  unfold nH
  dsimp only
  rw [hL]
 ·cases e;exact (H.farc _ hx).l rfl
theorem BD (s:Nat) (X:Nat->Prop) (wx w0:World) (g:Mg) (h:Hp) (qs:List Nat) (a:Mc) (c:aH) (n:Nat) (v:Va) (w:World) (H:RX s X wx w0 g w h qs a c) (hn:n<c.locs.length) (hv:1<=v.kind/\v.kind<=3) (h2:v.kind=2->n+1<c.locs.length) :
  Calls Tryz.prog 84 #[.slice (some ⟨a.lb,0,none⟩) c.locs.length a.lc,int i64 (n:Int),cn (im v)] w fun e w'=>e=.returned (.tuple #[])/\RX s X wx w0 g w' h qs a { c with locs:=eZ c.locs n v }:=by
 obtain ⟨vc,vo,vx,vs,l,H⟩:=H
 have hl:=H.ca.rel.len
 have hs:=H.ca.short
 have hr:=H.ca.rel.sto hn v hv h2
 have hL:(eZ c.locs n v).length=c.locs.length:=kC _ _ _
 by_cases hk:v.kind=2
 ·have e:jT l n (im v)=(l.set n (im v)).set (n+1) ⟨4,0⟩:=by unfold jT;rw [if_pos (by exact hk)]
  rw [e] at hr
  rw [<-hl]
  refine (qw a.lb a.lc n l (im v) w H.ca.lbox (by have:=h2 hk;omega) (by omega) hk).mono ?_
  rintro x w' ⟨rfl,h3,h4⟩
  exact ⟨rfl,vc,vo,vx,vs,_,H.setl h4 h3 hr hL⟩
 ·have e:jT l n (im v)=l.set n (im v):=by unfold jT;rw [if_neg (by exact hk)]
  rw [e] at hr
  rw [<-hl]
  refine (sr a.lb a.lc n l (im v) w H.ca.lbox (by omega) (by omega) hk).mono ?_
  rintro x w' ⟨rfl,h3,h4⟩
  exact ⟨rfl,vc,vo,vx,vs,_,H.setl h4 h3 hr hL⟩
theorem cK.hb {Y:Nat->Prop} (H:cK s X Y wx w0 g w h qs a c):w.cell? ⟨a.q,0,none⟩=some (.pointer (some ⟨g.hb,0,none⟩)):=by
 obtain ⟨vc,vo,vx,vs,l,H,F⟩:=H
 exact H.ca.cells.c0
theorem RX.qlt (H:RX s X wx w0 g w h qs a c):a.q<w.heap.size:=by
 obtain ⟨vc,vo,vx,vs,l,H⟩:=H
 exact af H.ca.blk
theorem bD (w:World) (a b:Array Value) (s t:TypeId):((w.alloc (.cells a s)).alloc (.cells b t)).heap[w.heap.size]?=some (.cells a s (0,0))/\((w.alloc (.cells a s)).alloc (.cells b t)).heap[w.heap.size+1]?=some (.cells b t (0,0)):=by
 have h1:(w.alloc (.cells a s)).heap.size=w.heap.size+1:=by simp
 refine ⟨?_,?_⟩
 ·rw [Below.heap_alloc _ _ _ (by omega)];exact aD _ _ _
 ·rw [<-h1];exact aD _ _ _
section
variable (w:World) (o:Obj)
theorem cX:w.heap.size<(w.alloc o).heap.size:=by simp
theorem dZ (p:Obj):w.heap.size<((w.alloc o).alloc p).heap.size:=by simp;omega
theorem cA (p:Obj):w.heap.size+1<((w.alloc o).alloc p).heap.size:=by simp
end
section
variable (s:Nat) (X:Nat->Prop) (wx w0:World) (g:Mg) (h:Hp) (qs:List Nat) (a:Mc) (c:aH)
theorem dV (l:List Va) (v:Va) (t:Ty) (w:World) (H:RX s X wx w0 g w h qs a c) (F:Fix w0 g h) (hf:h.objs.length<=100) (hs:c.stk=l++[v]) (hv:v.kind=3->-1<=v.n/\v.n<h.objs.length) (ho:h.of v t=true) :
  Calls Tryz.prog 146 #[.pointer (some ⟨a.q,0,none⟩),jD t] w fun e w'=>e=.returned (cn (im v))/\RX s X wx w0 g w' h qs a { c with stk:=l }:=by
 have HH:Hid (RX s X wx w0 g w h qs a c):=H
 have hq:=H.qlt
 have kv:w.heap.size≠a.q:=by omega
 have kg:w.heap.size+1≠a.q:=by omega
 have HS:Hid (c.stk=l++[v]):=hs
 have HF:Hid (Fix w0 g h/\h.objs.length<=100):=⟨F,hf⟩
 have HO:Hid ((v.kind=3->-1<=v.n/\v.n<h.objs.length)/\h.of v t=true):=⟨hv,ho⟩
 obtain ⟨L0,L1⟩:=bD w #[int i64 t.kind,int i64 t.cls] #[int i64 0,int i64 0] 45 100
 have B0:Bl w ((w.alloc (je t)).alloc eT):=((Bl.refl w).alloc _).alloc _
 have z0:=(H.y.bl B0).hb
 have z1:=aK L0
 have z2:=aI L0
 have HB:Hid (Bl w ((w.alloc (je t)).alloc eT)):=B0
 have oZ:=ab L0
 have gx:=ab L1
 clear H hs F hf hv ho L0 L1 B0
 go_enter Tryz.func146,Tryz.ntmps146
 go_wp2
 go_region_held3 (fun w'=>w'.cell? ⟨a.q,0,none⟩=some (.pointer (some ⟨g.hb,0,none⟩))/\w'.cell? ⟨w.heap.size,0,none⟩=some (int i64 t.kind)/\w'.cell? ⟨w.heap.size,1,none⟩=some (int i64 t.cls))
  (go_keep)
  (first
   | (go_at_call 143;refine (HH.out.y.useY (by first|exact HB.out.drew|exact HB.out) (fun X wx w H=>iY s X wx w0 g h qs a c l v w H HS.out)).mono ?_;rintro e w1 ⟨rfl,H1,K1⟩;have q0:=K1.at (Xp.new (Nat.le_refl _) (dZ w _ _)) oZ.out;have q1:=K1.at (Xp.new (Nat.le_succ _) (cA w _ _)) gx.out;have d0:=H1.hb;have d1:=aK q0;have d2:=aI q0;have H1:=ab H1;have K1:=ab K1;have q0:=ab q0;have q1:=ab q1)
   | (go_at_call 191;refine (Ej g h v t _ (H1.out.x.rd HF.out.1 HF.out.2) HO.out.1 HO.out.2).mono ?_;rintro e w2 ⟨rfl,b2⟩;have e0:=b2.cell d0;have e1:=b2.cell d1;have e2:=b2.cell d2;have q2:=ai b2 q1.out;have f4:=aK q2;have f5:=aI q2;have fz:=ay q2;have b2:=ab b2;have q2:=ab q2))
 go_wp2
 refine bodyPost_ret (results_cell_row rfl _ _ (w.heap.size+1) _ _ _ _ rfl (bQ q2.out) Tryz.underlying100 rfl bK) rfl ?_
 refine ⟨rfl,cK.x (cK.set (cK.set (H1.out.bl b2.out) ?_ 0 _) ?_ 1 _)⟩<;>exact Xp.old (Xp.new (Nat.le_succ _) (cA w _ _))
theorem mC (t:Ty) (w:World) (H:RX s X wx w0 g w h qs a c) (F:Fix w0 g h) (hf:h.objs.length<=100) (hs:c.stk=[]) :
  Calls Tryz.prog 146 #[.pointer (some ⟨a.q,0,none⟩),jD t] w fun e w'=>e=aV 6 0 0/\RS s X wx w0 g w' h qs a c:=by
 have HH:Hid (RX s X wx w0 g w h qs a c):=H
 have hq:=H.qlt
 have HF:Hid (Fix w0 g h/\h.objs.length<=100):=⟨F,hf⟩
 obtain ⟨L0,L1⟩:=bD w #[int i64 t.kind,int i64 t.cls] #[int i64 0,int i64 0] 45 100
 have B0:Bl w ((w.alloc (je t)).alloc eT):=((Bl.refl w).alloc _).alloc _
 have z0:=ab (H.y.bl B0).hb
 have z1:=ab (aK L0)
 have z2:=ab (aI L0)
 have HB:Hid (Bl w ((w.alloc (je t)).alloc eT)):=B0
 have oZ:=ab L0
 have gx:=ab L1
 have HS:Hid (c.stk=[]):=hs
 clear H hs F hf L0 L1 B0
 go_enter Tryz.func146,Tryz.ntmps146
 go_wp2
 refine wp_region_held_drew (S:=fun w'=>w'.cell? ⟨a.q,0,none⟩=some (.pointer (some ⟨g.hb,0,none⟩))/\w'.cell? ⟨w.heap.size,0,none⟩=some (int i64 t.kind)/\w'.cell? ⟨w.heap.size,1,none⟩=some (int i64 t.cls)) (by kernel_rfl) ?_ (fun ae=>?_)
 ·exact ⟨z0.out,z1.out,z2.out⟩
 iterate 6 (refine tn rfl (by kernel_rfl) (fun _ _ _ h=>h) (by intro _ h;go_split_ands;go_simp<;>with_reducible rfl) ae ?_;try simp only [aS,aN,aT,a0,a1])
 refine wpAnyH_ready (rs:=[5]) (by kernel_rfl) (by simp) ?_
 refine AllReadyH.cons rfl (fun K hK=>?_) AllReadyH.nil
 go_simp
 go_at_call 143
 refine (HH.out.y.useY HB.out.drew (fun X wx w H=>nJ s X wx w0 g h qs a c w H HS.out)).mono ?_
 rintro e w1 ⟨rfl,H1,K1⟩
 exact ⟨rfl,rfl,H1.rs⟩
theorem nL (l:List Va) (v:Va) (t:Ty) (w:World) (H:RX s X wx w0 g w h qs a c) (F:Fix w0 g h) (hf:h.objs.length<=100) (hs:c.stk=l++[v]) (hv:v.kind=3->-1<=v.n/\v.n<h.objs.length) (ho:h.of v t=false) :
  Calls Tryz.prog 146 #[.pointer (some ⟨a.q,0,none⟩),jD t] w fun e w'=>e=aV 6 0 0/\RS s X wx w0 g w' h qs a c:=by
 have HH:Hid (RX s X wx w0 g w h qs a c):=H
 have hq:=H.qlt
 have HF:Hid (Fix w0 g h/\h.objs.length<=100):=⟨F,hf⟩
 obtain ⟨L0,L1⟩:=bD w #[int i64 t.kind,int i64 t.cls] #[int i64 0,int i64 0] 45 100
 have B0:Bl w ((w.alloc (je t)).alloc eT):=((Bl.refl w).alloc _).alloc _
 have z0:=ab (H.y.bl B0).hb
 have z1:=ab (aK L0)
 have z2:=ab (aI L0)
 have HB:Hid (Bl w ((w.alloc (je t)).alloc eT)):=B0
 have oZ:=ab L0
 have gx:=ab L1
 have HS:Hid (c.stk=l++[v]):=hs
 have HO:Hid ((v.kind=3->-1<=v.n/\v.n<h.objs.length)/\h.of v t=false):=⟨hv,ho⟩
 clear H hs F hf hv ho L0 L1 B0
 go_enter Tryz.func146,Tryz.ntmps146
 go_wp2
 refine wp_region_held_drew (S:=fun w'=>w'.cell? ⟨a.q,0,none⟩=some (.pointer (some ⟨g.hb,0,none⟩))/\w'.cell? ⟨w.heap.size,0,none⟩=some (int i64 t.kind)/\w'.cell? ⟨w.heap.size,1,none⟩=some (int i64 t.cls)) (by kernel_rfl) ?_ (fun ae=>?_)
 ·exact ⟨z0.out,z1.out,z2.out⟩
 iterate 6 (refine tn rfl (by kernel_rfl) (fun _ _ _ h=>h) (by intro _ h;go_split_ands;go_simp<;>with_reducible rfl) ae ?_;try simp only [aS,aN,aT,a0,a1])
 refine wpAnyH_ready (rs:=[5]) (by kernel_rfl) (by simp) ?_
 refine AllReadyH.cons rfl (fun K hK=>?_) AllReadyH.nil
 go_simp
 go_at_call 143
 refine (HH.out.y.useY HB.out.drew (fun X wx w H=>iY s X wx w0 g h qs a c l v w H HS.out)).mono ?_
 rintro e w1 ⟨rfl,H1,K1⟩
 have q0:=K1.at (Xp.new (Nat.le_refl _) (dZ w _ _)) oZ.out
 have d0:=ab (H1.hb)
 have d1:=ab (aK q0)
 have d2:=ab (aI q0)
 have H1:=ab H1
 go_wp2_with fail
 refine hK.out _ _ (⟨d0.out,d1.out,d2.out⟩) (fun ah=>?_)
 try simp only [aS,aN,aT,a0,a1]
 refine wpAnyH_ready (rs:=[7]) (by kernel_rfl) (by simp) ?_
 refine AllReadyH.cons rfl (fun K hK=>?_) AllReadyH.nil
 go_simp
 go_at_call 191
 refine (IA g h v t _ (H1.out.x.rd HF.out.1 HF.out.2) HO.out.1 HO.out.2).mono ?_
 rintro e w2 ⟨rfl,b2⟩
 exact ⟨rfl,rfl,(H1.out.bl b2).rs.of rfl ⟨rfl,rfl⟩⟩
theorem jN (t:Ty) (w:World) (H:RX s X wx w0 g w h qs a c) (F:Fix w0 g h) (hf:h.objs.length<=100) (hs:c.stk=[]∨∃(l:List Va) (v:Va),c.stk=l++[v]/\(v.kind=3->-1<=v.n/\v.n<h.objs.length)/\h.of v t=false) :
  Calls Tryz.prog 146 #[.pointer (some ⟨a.q,0,none⟩),jD t] w fun e w'=>e=aV 6 0 0/\RS s X wx w0 g w' h qs a c:=by
 rcases hs with hs|⟨l,v,hs,hv,ho⟩
 ·exact mC s X wx w0 g h qs a c t w H F hf hs
 ·exact nL s X wx w0 g h qs a c l v t w H F hf hs hv ho
end
theorem rL {P:Program} {fn:Func} {p q:Tmp} {ty:TypeId} (h:fn.results=#[.cell p ty,.cell q ty]) (tmps:Array Value) (w:World) (b b':Nat) (t:TypeId) (cs ds:Array Value) (fr To:Nat×Nat) (d:TypeDesc) (hp:tmps.getD p undef=.pointer (some ⟨b,0,none⟩)) (hq:tmps.getD q undef=.pointer (some ⟨b',0,none⟩)) (hb:w.heap[b]?=some (.cells cs t fr)) (vt:w.heap[b']?=some (.cells ds t To)) (hu:P.underlying ty=some d) (hd:(match d with | .struct _ | .array _ _=>true|_=>false)=true) (hi:(P.info? ty).map (·.size)=some cs.size) (Tp:(P.info? ty).map (·.size)=some ds.size) :
  (results fn tmps).run P w=.ok (.tuple #[.agg cs,.agg ds]) w:=by
 have BF:tmps[p]?.getD undef=.pointer (some ⟨b,0,none⟩):=by simpa using hp
 have NG:tmps[q]?.getD undef=.pointer (some ⟨b',0,none⟩):=by simpa using hq
 simp [results,h,BF,NG,asAddr,run_loadVar_row w b t ty cs fr d hb hu hd hi,run_loadVar_row w b' t ty ds To d vt hu hd Tp]
theorem dC {b b':Nat} {o:Obj} (h:w.heap[b]?=some o) (hb:b≠b') (k n:Value):((w.setCell ⟨b',0,none⟩ k).setCell ⟨b',1,none⟩ n).heap[b]?=some o:=by rw [aA hb,aA hb];exact h
section
variable (s:Nat) (X:Nat->Prop) (wx w0:World) (g:Mg) (h:Hp) (qs:List Nat) (a:Mc) (c:aH)
theorem lA (l:List Va) (u v:Va) (k:Int) (w:World) (H:RX s X wx w0 g w h qs a c) (hs:c.stk=l++[u,v]) (hu:u.kind=k) (hv:v.kind=k) :
  Calls Tryz.prog 193 #[.pointer (some ⟨a.q,0,none⟩),int i64 k] w fun e w'=>e=.returned (.tuple #[cn (im u),cn (im v)])/\RX s X wx w0 g w' h qs a { c with stk:=l }:=by
 have HH:Hid (RX s X wx w0 g w h qs a c):=H
 have HS:Hid (c.stk=(l++[u])++[v]):=by show c.stk=(l++[u])++[v];rw [hs];simp
 have HK:Hid (u.kind=k/\v.kind=k):=⟨hu,hv⟩
 obtain ⟨L0,L1⟩:=bD w #[int i64 0,int i64 0] #[int i64 0,int i64 0] 100 100
 have HB:Hid (Bl w ((w.alloc eT).alloc eT)):=((Bl.refl w).alloc _).alloc _
 have oZ:=ab L0
 have gx:=ab L1
 have En:w.heap.size+1≠w.heap.size:=by omega
 have BG:w.heap.size≠w.heap.size+1:=by omega
 clear H hs hu hv L0 L1
 go_enter Tryz.func193,Tryz.ntmps193
 go_wp2_with (go_at_call 89;refine (HH.out.y.useY HB.out (fun X wx w H=>cz s X wx w0 g h qs a c (l++[u]) v k w H HS.out HK.out.2)).mono ?_;rintro e w1 ⟨rfl,H1,K1⟩;have q0:=K1.at (Xp.new (Nat.le_refl _) (dZ w _ _)) oZ.out;have q1:=K1.at (Xp.new (Nat.le_succ _) (cA w _ _)) gx.out;have d4:=aK q1;have d5:=aI q1;have fz:=ay q1;replace H1:=ab H1;clear K1;replace q0:=ab q0;replace q1:=ab q1)
 have y1:Xp NF w.heap.size ((w.alloc eT).alloc eT).heap.size (w.heap.size+1):=Xp.new (Nat.le_succ _) (cA w _ _)
 have y0:Xp NF w.heap.size ((w.alloc eT).alloc eT).heap.size w.heap.size:=Xp.new (Nat.le_refl _) (dZ w _ _)
 have H2:=cK.set (cK.set H1.out y1 0 (int i64 (im v).kind)) y1 1 (int i64 (im v).n)
 have r0:=ab (dC q0.out BG (int i64 (im v).kind) (int i64 (im v).n))
 have r1:=ab (bQ (k':=int i64 (im v).kind) (n':=int i64 (im v).n) q1.out)
 generalize (w1.setCell ⟨w.heap.size+1,0,none⟩ (int i64 (im v).kind)).setCell ⟨w.heap.size+1,1,none⟩ (int i64 (im v).n)=W2 at *
 clear H1 q0 q1 d4 d5 fz
 replace H2:=ab H2
 go_at_call 89
 refine (H2.out.useY (Bl.refl _) (fun X wx w H=>cz s X wx w0 g h qs a { c with stk:=l++[u] } l u k w H rfl HK.out.1)).mono ?_
 rintro e w3 ⟨rfl,H3,K3⟩
 have p0:=K3.at (Xp.old y0) r0.out
 have p1:=K3.at (Xp.old y1) r1.out
 have d4:=aK p0
 have d5:=aI p0
 have fz:=ay p0
 replace H3:=ab H3
 replace p0:=ab p0
 replace p1:=ab p1
 clear K3 r0 r1 H2
 go_wp2
 have H4:=cK.set (cK.set H3.out (Xp.old y0) 0 (int i64 (im u).kind)) (Xp.old y0) 1 (int i64 (im u).n)
 have s1:=dC p1.out En (int i64 (im u).kind) (int i64 (im u).n)
 have s0:=bQ (k':=int i64 (im u).kind) (n':=int i64 (im u).n) p0.out
 generalize (w3.setCell ⟨w.heap.size,0,none⟩ (int i64 (im u).kind)).setCell ⟨w.heap.size,1,none⟩ (int i64 (im u).n)=W4 at *
 clear H3 p0 p1 d4 d5 fz
 have a0:=aK s0
 have a1:=aI s0
 have a2:=aK s1
 have a3:=aI s1
 have az:=ay s0
 have bz:=ay s1
 replace H4:=ab H4
 replace s0:=ab s0
 replace s1:=ab s1
 go_region
 go_wp2
 have t0:=dC (bQ (k':=int i64 (im u).kind) (n':=int i64 (im u).n) s0.out) BG (int i64 (im v).kind) (int i64 (im v).n)
 have t1:=bQ (k':=int i64 (im v).kind) (n':=int i64 (im v).n) (dC s1.out En (int i64 (im u).kind) (int i64 (im u).n))
 have H5:=cK.set (cK.set (cK.set (cK.set H4.out (Xp.old y0) 0 (int i64 (im u).kind)) (Xp.old y0) 1 (int i64 (im u).n)) (Xp.old y1) 0 (int i64 (im v).kind)) (Xp.old y1) 1 (int i64 (im v).n)
 refine bodyPost_ret (rL rfl _ _ w.heap.size (w.heap.size+1) _ _ _ _ _ _ rfl rfl t0 t1 Tryz.underlying100 rfl bK bK) rfl ?_
 exact ⟨rfl,H5.x.bl (Bl.refl _).drew⟩
theorem nM (k:Int) (w:World) (H:RX s X wx w0 g w h qs a c) (hs:c.stk=[]∨∃l v,c.stk=l++[v]/\v.kind≠k) :
  Calls Tryz.prog 193 #[.pointer (some ⟨a.q,0,none⟩),int i64 k] w fun e w'=>e=aV 6 0 0/\RS s X wx w0 g w' h qs a c:=by
 have HH:Hid (RX s X wx w0 g w h qs a c):=H
 have HS:=ab hs
 have HB:Hid (Bl w ((w.alloc eT).alloc eT)):=((Bl.refl w).alloc _).alloc _
 clear H hs
 go_enter Tryz.func193,Tryz.ntmps193
 go_wp2_with (go_at_call 89;refine (HH.out.y.useN HB.out (fun X wx w H=>dk s X wx w0 g h qs a c k w H HS.out)).mono ?_;rintro e w1 ⟨rfl,H1⟩;replace H1:=ab H1)
 exact ⟨rfl,rfl,H1.out⟩
theorem wC (l:List Va) (v:Va) (k:Int) (w:World) (H:RX s X wx w0 g w h qs a c) (hs:c.stk=l++[v]) (hv:v.kind=k) (hl:l=[]∨∃l' u,l=l'++[u]/\u.kind≠k) :
  Calls Tryz.prog 193 #[.pointer (some ⟨a.q,0,none⟩),int i64 k] w fun e w'=>e=aV 6 0 0/\RS s X wx w0 g w' h qs a c:=by
 have HH:Hid (RX s X wx w0 g w h qs a c):=H
 have HS:=ab hs
 have HK:=ab hv
 have zP:=ab hl
 obtain ⟨L0,L1⟩:=bD w #[int i64 0,int i64 0] #[int i64 0,int i64 0] 100 100
 have HB:Hid (Bl w ((w.alloc eT).alloc eT)):=((Bl.refl w).alloc _).alloc _
 have gx:=ab L1
 clear H hs hv hl L0 L1
 have rM:Hid (Xp NF w.heap.size ((w.alloc eT).alloc eT).heap.size (w.heap.size+1)):=Xp.new (Nat.le_succ _) (cA w _ _)
 go_enter Tryz.func193,Tryz.ntmps193
 go_wp2_with (go_at_call 89;first
  | (refine (HH.out.y.useY HB.out (fun X wx w H=>cz s X wx w0 g h qs a c l v k w H HS.out HK.out)).mono ?_;rintro e w1 ⟨rfl,H1,K1⟩;have q1:=K1.at (Xp.new (Nat.le_succ _) (cA w _ _)) gx.out;have d4:=aK q1;have d5:=aI q1;have fz:=ay q1;replace H1:=ab H1;clear K1;replace q1:=ab q1)
  | (refine ((cK.set (cK.set H1.out rM.out 0 _) rM.out 1 _).useN (Bl.refl _) (fun X wx w H=>dk s X wx w0 g h qs a { c with stk:=l } k w H zP.out)).mono ?_;rintro e w2 ⟨rfl,H2⟩;replace H2:=ab H2))
 exact ⟨rfl,rfl,H2.out.of rfl ⟨rfl,rfl⟩⟩
theorem qx (k:Int) (w:World) (H:RX s X wx w0 g w h qs a c) (hs:∀l u v,c.stk=l++[u,v]->u.kind=k->v.kind=k->False) :
  Calls Tryz.prog 193 #[.pointer (some ⟨a.q,0,none⟩),int i64 k] w fun e w'=>e=aV 6 0 0/\RS s X wx w0 g w' h qs a c:=by
 rcases List.eq_nil_or_concat c.stk with h0|⟨l,v,h0⟩
 ·exact nM s X wx w0 g h qs a c k w H (Or.inl h0)
 ·rw [List.concat_eq_append] at h0
  by_cases hv:v.kind=k
  ·refine wC s X wx w0 g h qs a c l v k w H h0 hv ?_
   rcases List.eq_nil_or_concat l with h1|⟨l',u,h1⟩
   ·exact Or.inl h1
   ·rw [List.concat_eq_append] at h1
    refine Or.inr ⟨l',u,h1,fun hu=>hs l' u v ?_ hu hv⟩
    rw [h0,h1];simp
  ·exact nM s X wx w0 g h qs a c k w H (Or.inr ⟨l,v,h0,hv⟩)
end
theorem wD:(Tryz.prog.info? 100).map (fun i=>(i.zero,i.size,i.bytes))=some (some (.agg #[int i64 0,int i64 0]),2,16):=by kernel_rfl
theorem zQ:∀(k j:Nat),j<k*2->(aL (List.replicate k ag))[j]?=some (int i64 0)
 | 0,j,h=>by omega
 | k+1,0,_=>by rw [List.replicate_succ];rfl
 | k+1,1,_=>by rw [List.replicate_succ];rfl
 | k+1,j+2,h=>by
  rw [List.replicate_succ]
  show (aL (List.replicate k ag))[j]?=_
  exact zQ k j (by omega)
theorem zR (k:Nat):madeCells #[int i64 0,int i64 0] (k*2)=(aL (List.replicate k ag)).toArray:=by
 apply Array.ext_getElem?
 intro j
 by_cases hj:j<k*2
 ·have h2:=zQ k j hj
  simp only [List.getElem?_toArray,h2]
  unfold madeCells
  have hm:j%2=0∨j%2=1:=by omega
  rcases hm with hm|hm<;>simp [hj,hm]
 ·rw [Array.getElem?_eq_none (by rw [size_madeCells];omega),Array.getElem?_eq_none (by simp [eF];omega)]
theorem zS (n:Nat) (hn:n<=1000000) (u:World):(Instr.makeSlice 81 (int i64 (n:Int)) (int i64 (n:Int))).run Tryz.prog u=.ok (.slice (some ⟨u.heap.size,0,none⟩) n n) (u.alloc (.cells (aL (List.replicate n ag)).toArray 100)):=by
 obtain ⟨i,hi,hz,hs,hb⟩:=info_parts wD
 have h:=run_make u 81 100 i _ Tryz.underlying81 hi hz .i64 .i64 (n:Int) (n:Int) (by omega) (Int.le_refl _) (by rw [hb];omega) (by omega)
 rw [hs] at h
 simp only [Int.toNat_natCast] at h
 rw [<-zR]
 exact h
theorem IG (n:Nat) (hn:n<=1000000) (u:World):(Instr.makeSlice 91 (int i64 (n:Int)) (int i64 (n:Int))).run Tryz.prog u=.ok (.slice (some ⟨u.heap.size,0,none⟩) n n) (u.alloc (.cells (aL (List.replicate n ag)).toArray 100)):=by
 obtain ⟨i,hi,hz,hs,hb⟩:=info_parts wD
 have h:=run_make u 91 100 i _ Tryz.underlying91 hi hz .i64 .i64 (n:Int) (n:Int) (by omega) (Int.le_refl _) (by rw [hb];omega) (by omega)
 rw [hs] at h
 simp only [Int.toNat_natCast] at h
 rw [<-zR]
 exact h
theorem cu.new (w:World) (l:List Va):cu (w.alloc (.cells (aL l).toArray 100)) w.heap.size l:=⟨aD _ _ _⟩
theorem II (j:Nat) (u:Va) (L:List Va):(List.replicate (j+1) ag++L).set j u=List.replicate j ag++(u::L):=by
 rw [List.replicate_succ',List.append_assoc,List.set_append_right _ _ (by simp)]
 simp
def sw (h:Hp) (vs:List Va) (ts:List Ty):Prop:=∀k,k<ts.length->h.of (nth ag vs k) (nth cN ts k)=true
def Vm (s:Nat) (X:Nat->Prop) (wx w0:World) (g:Mg) (h:Hp) (qs:List Nat) (a:Mc) (c:aH) (ts:List Ty) (b:Nat) (e:Ending) (w':World):Prop :=
 (∃l vs,c.stk=l++vs/\vs.length=ts.length/\sw h vs ts/\e=.returned (.slice (some ⟨b,0,none⟩) ts.length ts.length)/\cK s X (fun x=>x=b) wx w0 g w' h qs a { c with stk:=l }/\cu w' b (vs.map im))
 ∨ ((∀l vs,c.stk=l++vs->vs.length=ts.length->sw h vs ts->False)/\e=aV 6 0 0/\RS s X wx w0 g w' h qs a c)
def Tq (s:Nat) (X:Nat->Prop) (wx w0:World) (g:Mg) (h:Hp) (qs:List Nat) (a:Mc) (c:aH) (ts:List Ty) (b j:Nat) (wr:World):Prop :=
 ∃l vs,c.stk=l++vs/\vs.length=ts.length-j/\(∀k,k<ts.length-j->h.of (nth ag vs k) (nth cN ts (j+k))=true)/\cK s X (fun x=>x=b) wx w0 g wr h qs a { c with stk:=l }/\cu wr b (List.replicate j ag++vs.map im)
theorem cK.bl0 {Y:Nat->Prop} (H:cK s X Y wx w0 g w h qs a c):Bl w0 w:=by
 obtain ⟨vc,vo,vx,vs,l,H,-⟩:=H
 exact H.rh.bl
theorem Mb {xW vs:List Va} {j:Nat} {v:Va} (h:xW.drop j=v::vs):nth ag xW j=v:=by
 have:=congrArg (fun l=>l[0]?) h
 simp [List.getElem?_drop] at this
 unfold nth
 simp [List.getD_eq_getElem?_getD,this]
theorem og {α:Type} {l l' vs il:List α} (h:l++vs=l'++il) (hl:vs.length=il.length):l=l'/\vs=il:=List.append_inj' h hl
theorem mD (s:Nat) (X:Nat->Prop) (wx w0:World) (g:Mg) (h:Hp) (qs:List Nat) (a:Mc) (c:aH) (A:Option Addr) (cap:Nat) (ts:List Ty) (w:World) (H:RX s X wx w0 g w h qs a c) (F:Fix w0 g h) (hf:h.objs.length<=100) (hT:dp w0 A ts) (h4:ts.length<=4) (hg:∀v∈c.stk,v.kind=3->-1<=v.n/\v.n<h.objs.length) :
  Calls Tryz.prog 91 #[.pointer (some ⟨a.q,0,none⟩),.slice A ts.length cap] w fun e w'=>Vm s X wx w0 g h qs a c ts w.heap.size e w':=by
 have HF:Hid (Fix w0 g h/\h.objs.length<=100):=⟨F,hf⟩
 have HT:=ab hT
 have HG:=ab hg
 have KP:=zS ts.length (by omega)
 have HS:Hid (Tq s X wx w0 g h qs a c ts w.heap.size ts.length (w.alloc (.cells (aL (List.replicate ts.length ag)).toArray 100))):=by
  refine ⟨c.stk,[],by simp,by simp,fun k hk=>by omega,?_,?_⟩
  ·have:=H.y.bl ((Bl.refl w).alloc (.cells (aL (List.replicate ts.length ag)).toArray 100))
   exact this.less fun b hb=>Or.inr (by subst hb;simp)
  ·simpa using cu.new w (List.replicate ts.length ag)
 clear H F hf hT hg
 go_enter Tryz.func91,Tryz.ntmps91
 go_wp2
 go_loopw [6] (fun i wr=>∃j:Nat,j<=ts.length/\i=int i64 ((j:Int)-1)/\Hid (Tq s X wx w0 g h qs a c ts w.heap.size j wr)) (fun i _=>(intOf i+1).toNat)
 case atStart=>exact ⟨ts.length,Nat.le_refl _,rfl,HS.out⟩
 case round =>
  clear HS KP
  obtain ⟨j,hj,rfl,HR⟩:=hrel
  cases j with
  | zero =>
   go_wp2
   go_ret
   obtain ⟨l,vs,e1,e2,e3,e4,e5⟩:=HR.out
   exact Or.inl ⟨l,vs,e1,by omega,fun k hk=>by simpa using e3 k (by omega),rfl,e4,by simpa using e5⟩
  | succ j =>
   have ej:((j+1:Nat):Int)-1=(j:Int):=by omega
   rw [ej]
   obtain ⟨l,vs,e1,e2,e3,e4,e5⟩:=HR.out
   clear HR
   rcases HT.out.2 with h0|⟨tb,to,rfl,hcell⟩
   ·omega
   obtain ⟨t0,t1,-,-⟩:=hcell j (by omega)
   replace t0:=e4.bl0.cell t0
   replace t1:=e4.bl0.cell t1
   have HE:=ab e1
   have Md:=ab e2
   have Vn:=ab e3
   have HX:=ab e4
   have HL:=ab e5
   generalize ht:nth cN ts j=t at *
   have KQ:=ab ht
   clear hcell e1 e2 e3 e4 e5 ht
   rcases List.eq_nil_or_concat l with hl|⟨l',v,hl⟩
   ·have zP:=ab hl
    clear hl
    go_wp2_with (go_at_call 146;refine (HX.out.useN (Bl.refl _) (fun X wx w H=>mC s X wx w0 g h qs a _ t w H HF.out.1 HF.out.2 zP.out)).mono ?_;rintro e w1 ⟨rfl,H1⟩)
    refine ⟨rfl,Or.inr ⟨fun l2 xW d1 d2 d3=>?_,rfl,H1.of rfl ⟨rfl,rfl⟩⟩⟩
    have:(l2++xW).length=(l++vs).length:=by rw [<-d1,<-HE.out]
    rw [zP.out] at this
    have:=Md.out
    simp at *
    omega
   ·have zT:l=l'++[v]:=by simpa using hl
    have zP:=ab zT
    have Tr:v∈c.stk:=by rw [HE.out,zT];simp
    have HV:=ab (HG.out v Tr)
    clear hl zT Tr
    cases ho:h.of v t with
    | false =>
     have HO:=ab ho
     clear ho
     go_wp2_with (go_at_call 146;refine (HX.out.useN (Bl.refl _) (fun X wx w H=>nL s X wx w0 g h qs a _ l' v t w H HF.out.1 HF.out.2 zP.out HV.out HO.out)).mono ?_;rintro e w1 ⟨rfl,H1⟩)
     refine ⟨rfl,Or.inr ⟨fun l2 xW d1 d2 d3=>?_,rfl,H1.of rfl ⟨rfl,rfl⟩⟩⟩
     have e2:=Md.out
     have es:xW.drop j=v::vs:=by
      refine (og (l:=l2++xW.take j) (l':=l') ?_ ?_).2
      ·rw [List.append_assoc,List.take_append_drop,<-d1,HE.out,zP.out];simp
      ·simp;omega
     have:=d3 j (by omega)
     rw [Mb es,KQ.out,HO.out] at this
     cases this
    | true =>
     have HO:=ab ho
     clear ho
     go_wp2_with (go_at_call 146;refine (HX.out.useY (Bl.refl _) (fun X wx w H=>dV s X wx w0 g h qs a _ l' v t w H HF.out.1 HF.out.2 zP.out HV.out HO.out)).mono ?_;rintro e w1 ⟨rfl,H1,K1⟩;have q1:=K1.at (Xp.old rfl) HL.out.blk;have x0:=(cu.mk q1).c0 (i:=j) (by simp;omega);have x1:=(cu.mk q1).c1 (i:=j) (by simp;omega);have fz:=ay q1;have H1:=ab H1;have K1:=ab K1;have q1:=ab q1)
     go_roundw
     case rel =>
      have hy:=(H1.out.less (Z:=fun x=>x=w.heap.size) fun b hb=>Xp.old hb)
      refine ⟨j,by omega,by go_num,l',v::vs,by rw [HE.out,zP.out];simp,by have:=Md.out;simp;omega,fun k hk=>?_,(hy.set rfl _ _).set rfl _ _,?_⟩
      ·cases k with
       | zero=>rw [Nat.add_zero,KQ.out];exact HO.out
       | succ k =>
        have:=Vn.out k (by omega)
        rw [show j+(k+1)=j+1+k by omega]
        exact this
      ·have:=(cu.mk q1.out).set (i:=j) (by simp;omega) (im v)
       rw [II] at this
       exact this
     case measure=>simp [intOf]
def mi (l:List Ty):Bool:=l.any fun t=>decide (t.kind=3)
theorem wE {l:List Ty} {q:Nat} (hq:q<l.length) (h:(nth cN l q).kind=3):mi l=true:=by
 unfold mi;rw [List.any_eq_true];exact ⟨nth cN l q,bJ hq,by simpa using h⟩
theorem BH {l:List Ty} (h:∀q,q<l.length->(nth cN l q).kind≠3):mi l=false:=by
 unfold mi;rw [List.any_eq_false]
 intro x hx
 obtain ⟨k,hk,rfl⟩:=List.getElem_of_mem hx
 rw [<-bU (d:=cN) hk]
 simpa using h k hk
theorem BI (A R:Option Addr) (cap n rc:Nat) (ts:List Ty) (w:World) (hT:dp w A ts) (hn:n<=maxLen) :
  Calls Tryz.prog 98 #[.slice A ts.length cap,.slice R n rc] w fun e w'=>e=.returned (.bool (!(mi ts)&&decide (n=ts.length)))/\Bl w w':=by
 have HT:=ab hT
 have Qe:=hT.1
 unfold maxLen at Qe hn
 clear hT
 have Ov:Hid (∀q,q<ts.length->(nth cN ts q).kind=3->mi ts=true):=fun q hq h=>wE hq h
 have KR:Hid ((∀q,q<ts.length->(nth cN ts q).kind≠3)->mi ts=false):=BH
 obtain ⟨T,Ts⟩:∃T,mi ts=T:=⟨_,rfl⟩
 rw [Ts] at Ov KR ⊢
 clear Ts
 have hd:decide (n=ts.length)=((n:Int)==(ts.length:Int)):=by rw [Bool.eq_iff_iff];simp;omega
 rw [hd]
 clear hd
 go_enter Tryz.func98,Tryz.ntmps98
 go_wp2
 go_loopw [9] (fun i wr=>∃q:Nat,q<=ts.length/\i=int i64 q/\Hid (∀j,j<q->(nth cN ts j).kind≠3)/\Hid (Bl w wr)) (fun i _=>ts.length-(intOf i).toNat)
 case atStart=>exact ⟨0,Nat.zero_le _,rfl,fun j hj=>absurd hj (Nat.not_lt_zero _),Bl.refl _⟩
 case round =>
  obtain ⟨q,hq,rfl,mG,hg⟩:=hrel
  by_cases eR:q<ts.length
  ·rcases (HT.out.bl hg.out).2 with z0|⟨b,off,rfl,hcell⟩
   ·omega
   obtain ⟨x0,x1,-,-⟩:=hcell q eR
   have HH:=ab (Ov.out q eR)
   generalize hX:nth cN ts q=t at *
   have HX:=ab hX
   clear hcell hX
   by_cases h3:t.kind=3
   ·have HF:=ab (HH.out h3)
    have k3:(t.kind==3)=true:=by simpa using h3
    have H3:=ab h3
    clear h3 HH
    go_wp2
    go_ret
    exact ⟨aj (by rw [HF.out];rfl),hg.out.alloc _⟩
   ·have k3:(t.kind==3)=false:=by simpa using h3
    have H3:Hid (¬t.kind=3):=h3
    clear h3 HH
    go_wp2
    go_roundw
    case rel=>exact ⟨q+1,by omega,by go_num,fun j hj=>if h:j<q then mG.out j h else by have:j=q:=(by omega);subst this;rw [HX.out];exact H3.out,hg.out.alloc _⟩
    case measure=>simp [intOf];omega
  ·obtain rfl:q=ts.length:=by omega
   have HF:=ab (KR.out mG.out)
   go_wp2
   all_goals
    go_ret
    refine ⟨aj ?_,hg.out⟩
    rw [HF.out]
    simp [*]
def NH (ts:List Ty) (args:List Int) (j:Nat):Va:=⟨(nth cN ts j).kind,if (nth cN ts j).kind=1 then wrap32 (nth (0:Int) args j) else nth (0:Int) args j⟩
def lB (ts:List Ty) (args:List Int) (q:Nat):List Va:=(List.range ts.length).map (fun j=>if j<q then NH ts args j else ag)
section
variable (ts:List Ty) (args:List Int)
theorem Eo:lB ts args 0=List.replicate ts.length ag:=by
 unfold lB
 apply List.ext_getElem
 ·simp
 ·intro i h1 h2;simp
theorem du (q:Nat):(lB ts args q).length=ts.length:=by simp [lB]
theorem IJ (q:Nat):(lB ts args q).set q (NH ts args q)=lB ts args (q+1):=by
 unfold lB
 apply List.ext_getElem
 ·simp
 ·intro i h1 h2
  simp only [List.getElem_set,List.getElem_map,List.getElem_range]
  by_cases hi:q=i
  ·subst hi;simp
  ·rw [if_neg hi]
   by_cases hlt:i<q
   ·rw [if_pos hlt,if_pos (by omega)]
   ·rw [if_neg hlt,if_neg (by omega)]
end
theorem yy (A R:Option Addr) (cap n rc:Nat) (ts:List Ty) (args:List Int) (w:World) (hT:dp w A ts) (hR:cL w R args) (hl:args.length=ts.length) (h4:ts.length<=4) (hk:∀q,q<ts.length->(nth cN ts q).kind=1∨(nth cN ts q).kind=2) :
  Calls Tryz.prog 46 #[.slice A ts.length cap,.slice R args.length rc] w fun e w'=>e=.returned (.slice (some ⟨w.heap.size,0,none⟩) ts.length ts.length)/\cu w' w.heap.size (lB ts args ts.length)/\Bl w w':=by
 have HT:=ab hT
 have HR:=ab hR
 have HK:=ab hk
 have KP:=zS ts.length (by omega)
 have HS:Hid (Bl w (w.alloc (.cells (aL (List.replicate ts.length ag)).toArray 100))/\cu (w.alloc (.cells (aL (List.replicate ts.length ag)).toArray 100)) w.heap.size (lB ts args 0)) :=
  ⟨(Bl.refl w).alloc _,by rw [Eo];exact cu.new w _⟩
 rw [hl]
 have HL:=ab hl
 clear hT hR hk hl
 go_enter Tryz.func46,Tryz.ntmps46
 go_wp2
 go_loopw [13] (fun i wr=>∃q:Nat,q<=ts.length/\i=int i64 q/\Hid (Bl w wr/\cu wr w.heap.size (lB ts args q))) (fun i _=>ts.length-(intOf i).toNat)
 case atStart=>exact ⟨0,Nat.zero_le _,rfl,HS.out⟩
 case round =>
  clear HS KP
  obtain ⟨q,hq,rfl,HB⟩:=hrel
  by_cases eR:q<ts.length
  ·rcases (HT.out.bl HB.out.1).2 with z0|⟨tb,to,rfl,hcell⟩
   ·omega
   rcases (HR.out.bl HB.out.1).2 with z0|⟨rb,ro,rfl,hrc⟩
   ·have:=HL.out;omega
   obtain ⟨x0,x1,-,-⟩:=hcell q eR
   obtain ⟨y0,-⟩:=hrc q (by rw [HL.out];exact eR)
   have Vo:=HK.out q eR
   have Tt:=ab (IJ ts args q)
   have Tv:Hid (NH ts args q=⟨(nth cN ts q).kind,if (nth cN ts q).kind=1 then wrap32 (nth (0:Int) args q) else nth (0:Int) args q⟩):=rfl
   generalize hX:nth cN ts q=t at *
   generalize hY:nth (0:Int) args q=a at *
   clear hcell hrc hX hY
   have Vp:rb<w.heap.size:=by
    rcases HR.out.2 with z0|⟨Xu,X0,ee,hrc⟩
    ·have:=HL.out;omega
    ·cases ee
     exact bC (hrc q (by rw [HL.out];exact eR)).1
   have X1:w.heap.size≠rb:=by omega
   have Vq:rb≠w.heap.size:=by omega
   have X2:∀o,(wr.alloc o).cell? ⟨rb,ro+q,none⟩=some (int i64 a):=fun o=>((Bl.refl wr).alloc o).cell y0
   have hlt:=af HB.out.2.blk
   have hne:w.heap.size≠wr.heap.size:=by omega
   have BG:wr.heap.size≠w.heap.size:=by omega
   have Ow:=ab (aD wr #[int i64 t.kind,int i64 t.cls] 45)
   have Tw:q<(lB ts args q).length:=by rw [du];exact eR
   have IK:=ab Tw
   have IL:Hid (Bl wr (wr.alloc (je t))):=(Bl.refl wr).alloc _
   clear Tw
   have Tx:Hid (∀w1,Bl (wr.alloc (je t)) w1->cu w1 w.heap.size (lB ts args q)/\w1.cell? ⟨wr.heap.size,0,none⟩=some (int i64 t.kind)):=fun w1 b1=>⟨HB.out.2.bl (IL.out.trans b1),aK (ai b1 Ow.out)⟩
   rcases Vo with h1|h2
   ·have vm:=ab h1
    have k1:(t.kind==1)=true:=by simpa using h1
    clear h1
    obtain ⟨N,hN⟩:∃N,wrap32 a=N:=⟨_,rfl⟩
    have HN:=ab hN
    go_wp2_with (first
     | (have:=L2;go_at_call 102;refine (kF _ _).mono ?_;rintro e w5 ⟨he,kS⟩;rw [hN] at he;subst he;rw [kS];clear kS w5)
     | (have:=L2;go_at_call 101;refine (jl N _).mono ?_;rintro e w3 ⟨rfl,b3⟩;have L3:=L2.out.bl b3;have z0:=L3.c0 (i:=q) (by rw [List.length_set];exact IK.out);have z1:=L3.c1 (i:=q) (by rw [List.length_set];exact IK.out);have X3:=ay L3.blk;replace b3:=ab b3;have L3:=ab L3)
     | (go_at_call 100;refine (iZ a _).mono ?_;rintro e w1 ⟨rfl,b1⟩;obtain ⟨L1,kt⟩:=Tx.out w1 b1;have v0:=L1.c0 IK.out;have v1:=L1.c1 IK.out;have Vr:=ay L1.blk;have L2:=ab (L1.set IK.out ⟨2,a⟩);have y5:=(IL.out.trans b1).cell y0;replace b1:=ab b1;replace L1:=ab L1))
    go_roundw
    case rel =>
     refine ⟨q+1,by omega,by go_num,?_,?_⟩
     ·have h1:Bl w w1:=(HB.out.1.trans IL.out).trans b1.out
      have h2:=(h1.setCell (p:=⟨w.heap.size,q*2,none⟩) (Nat.le_refl _) (int i64 2)).setCell (p:=⟨w.heap.size,q*2+1,none⟩) (Nat.le_refl _) (int i64 a)
      have h3:=h2.trans b3.out
      exact (h3.setCell (p:=⟨w.heap.size,q*2,none⟩) (Nat.le_refl _) _).setCell (p:=⟨w.heap.size,q*2+1,none⟩) (Nat.le_refl _) _
     ·have:=L3.out.set (i:=q) (by rw [List.length_set];exact IK.out) ⟨1,N⟩
      rw [List.set_set] at this
      rw [<-Tt.out,Tv.out,vm.out,if_pos rfl,HN.out]
      exact this
    case measure=>simp [intOf];omega
   ·have IP:=ab h2
    have k1:(t.kind==1)=false:=by rw [h2];rfl
    clear h2
    go_wp2_with (first
     | (go_at_call 100;refine (iZ a _).mono ?_;rintro e w1 ⟨rfl,b1⟩;obtain ⟨L1,kt⟩:=Tx.out w1 b1;have v0:=L1.c0 IK.out;have v1:=L1.c1 IK.out;have Vr:=ay L1.blk;have L2:=ab (L1.set IK.out ⟨2,a⟩);replace b1:=ab b1;replace L1:=ab L1))
    go_roundw
    case rel =>
     refine ⟨q+1,by omega,by go_num,?_,?_⟩
     ·have h1:Bl w w1:=(HB.out.1.trans IL.out).trans b1.out
      exact (h1.setCell (p:=⟨w.heap.size,q*2,none⟩) (Nat.le_refl _) _).setCell (p:=⟨w.heap.size,q*2+1,none⟩) (Nat.le_refl _) _
     ·rw [<-Tt.out,Tv.out,IP.out,if_neg (by decide)]
      exact L2.out
    case measure=>simp [intOf];omega
  ·obtain rfl:q=ts.length:=by omega
   go_wp2
   go_ret
   exact ⟨rfl,HB.out.2,HB.out.1⟩
section
open Go.Maps (Keyed has)
theorem BJ:(Tryz.prog.info? 2).map (fun i=>(i.zero,i.size,i.bytes))=some (some (int i64 0),1,8):=by kernel_rfl
theorem RH.runCells (H:RH s w0 g w h qs vc vo vx) :
  w.cell? ⟨g.r,0,none⟩=some (.pointer (some ⟨g.hb,0,none⟩))/\w.cell? ⟨g.r,1,none⟩=some (.slice g.M h.file.methods.length g.m)/\w.cell? ⟨g.r,2,none⟩=some (.func (.func 17) #[] #[])/\w.cell? ⟨g.r,3,none⟩=some vc
  /\ w.cell? ⟨g.r,4,none⟩=some (.slice g.I h.input.length g.i)/\w.cell? ⟨g.r,5,none⟩=some (int i64 h.fuel)/\w.cell? ⟨g.r,6,none⟩=some (int i64 h.sh.steps)/\w.cell? ⟨g.r,7,none⟩=some (int i64 h.sh.used)/\w.cell? ⟨g.r,8,none⟩=some vx:=by
 refine ⟨?_,?_,?_,?_,?_,?_,?_,?_,?_⟩<;>(rw [aa H.run];rfl)
def Hp.outs (h:Hp) (n:Int):Hp:={ h with sh:={ h.sh with out:=h.sh.out++[n] } }
def Hp.uses (h:Hp):Hp:={ h with sh:={ h.sh with used:=h.sh.used+1 } }
theorem l4.emit {w2:World} {v':Value} (H:l4 s X wx w0 g w h qs a c vc vo vx vs l) (hg:w.grownBy w2 vx.ownBlock) {k:Int} (ho:w2.ownsRow w0.heap.size 2 1 v' (h.sh.out.length+1) (h.sh.out.map (Value.int .i64)++[int i64 k])) (hat:v'.ownBlock=vx.ownBlock∨∀b,v'.ownBlock=some b->w.heap.size<=b) :
  l4 s X wx w0 g (w2.setCell ⟨g.r,8,none⟩ v') (h.outs k) qs a c vc vo v' vs l:=by
 have R:=H.rh
 obtain ⟨n,D,F⟩:=R.fld
 obtain ⟨fr,fh,fm,fc,fo,fx⟩:=H.ca.farC R
 have hrow:∀b,vx.ownBlock=some b->w0.heap.size<=b:=fun b e=>(R.out.lt b e).1
 have n1:vx.ownBlock≠some g.r:=bc R.out R.run (by decide)
 have n2:vx.ownBlock≠some g.hb:=bc R.out R.hp (by decide)
 have n3:vx.ownBlock≠some g.mp:=l5 R.out F.own
 have qy:=au hg R.run n1
 have gE:=cQ (w:=w2) g.r 8 v'
 have Oo:(some g.r:Option Nat)≠some g.hb:=fun e=>dN R.hp R.run (by decide) (Option.some.inj e).symm
 have Re:g.r≠g.mp:=iC R.run F.own
 have hne:∀(vv:Value) {b e sz nn xs},w.ownsRow b e sz vv nn xs->e≠2->vv.ownBlock=none∨vv.ownBlock≠vx.ownBlock:=fun vv b e sz nn xs hr he=>ta hr R.out he
 have C2:=H.ca.kept hg (fun b e=>fx b e)
 have L9:∀b,X b->lv g vc vo v' b:=fun b hx=>⟨(H.farr b hx).r,(H.farr b hx).h,(H.farr b hx).m,(H.farr b hx).c,(H.farr b hx).o,fun e=>by
  rcases hat with q|q
  ·rw [q] at e;exact (H.farr b hx).x e
  ·have:=q b e;have:=(H.kept.blk b hx).1;have:=H.kept.size;omega⟩
 refine ⟨⟨R.ownr,R.ownh,R.ownm,?_,?_,?_,?_,?_,?_,n,D,?_⟩,?_,L9,H.farc,?_⟩
 ·exact Below.setCell (Below.grown R.bl hg R.bl.size hrow) R.ownr _
 ·rw [ax qy];rfl
 ·exact au gE (au hg R.hp n2) Oo
 ·have:=ho.kept gE (Or.inr (bc ho qy (by decide)))
  simpa [Hp.outs] using this
 ·exact (R.obs.kept hg (hne vo R.obs (by decide))).kept gE (Or.inr (bc (R.obs.kept hg (hne vo R.obs (by decide))) qy (by decide)))
 ·exact (R.calls.kept hg (hne vc R.calls (by decide))).kept gE (Or.inr (bc (R.calls.kept hg (hne vc R.calls (by decide))) qy (by decide)))
 ·exact ⟨(F.own.kept hg (fun e=>n3 e.symm)).kept gE (fun e=>Re (Option.some.inj e).symm),F.few,F.hit,F.miss,F.new,F.ks,F.kd⟩
 ·exact C2.kept gE (fun b e=>by cases e;exact ⟨fr.q,fr.l,fr.s⟩)
 ·exact (H.kept.kept hg (fun b e hx=>(H.farr b hx).x e)).kept gE (fun b e hx=>by cases e;exact (H.farr _ hx).r rfl)
theorem l4.setr {s':Nat} {h':Hp} {v':Value} (H:l4 s X wx w0 g w h qs a c vc vo vx vs l) {i:Nat} (hrow:(gM g h vc vx).setIfInBounds i v'=gM g h' vc vx) (e1:h'.file=h.file) (e2:h'.objs=h.objs) (e3:h'.sh.out=h.sh.out) (e4:h.sh.steps-s<=h'.sh.steps-s'):l4 s' X wx w0 g (w.setCell ⟨g.r,i,none⟩ v') h' qs a c vc vo vx vs l:=by
 have R:=H.rh
 obtain ⟨n,D,F⟩:=R.fld
 obtain ⟨fr,-⟩:=H.ca.farC R
 have gE:=cQ (w:=w) g.r i v'
 have Oo:(some g.r:Option Nat)≠some g.hb:=fun e=>dN R.hp R.run (by decide) (Option.some.inj e).symm
 have Re:g.r≠g.mp:=iC R.run F.own
 have r2:fC g h' vo=fC g h vo:=by unfold fC;rw [e1]
 refine ⟨⟨R.ownr,R.ownh,R.ownm,Below.setCell R.bl R.ownr _,?_,?_,?_,?_,?_,n,D,?_⟩,H.ca.kept gE (fun b e=>by cases e;exact fr),H.farr,H.farc,H.kept.kept gE (fun b e hx=>by cases e;exact (H.farr _ hx).r rfl)⟩
 ·rw [ax R.run,hrow]
 ·rw [r2];exact au gE R.hp Oo
 ·rw [e3];exact R.out.kept gE (Or.inr (bc R.out R.run (by decide)))
 ·rw [e2];exact R.obs.kept gE (Or.inr (bc R.obs R.run (by decide)))
 ·exact R.calls.kept gE (Or.inr (bc R.calls R.run (by decide)))
 ·exact ⟨F.own.kept gE (fun e=>Re (Option.some.inj e).symm),by have:=F.few;omega,by rw [e2];exact F.hit,by rw [e2,e1];exact F.miss,by rw [e2];exact F.new,by rw [e2,e1];exact F.ks,by rw [e2,e1];exact F.kd⟩
section
variable (s:Nat) (X:Nat->Prop) (wx w0:World) (g:Mg) (h:Hp) (qs:List Nat) (a:Mc) (c:aH)
theorem BK (v:Va) (w:World) (H:RX s X wx w0 g w h qs a c) (ho:h.sh.out.length<=100000) :
  Calls Tryz.prog 150 #[.pointer (some ⟨g.r,0,none⟩),cn v] w fun e w'=>e=.returned (.tuple #[])/\RX s X wx w0 g w' (h.outs v.n) qs a c:=by
 obtain ⟨i0,th,sj,tj,tl⟩:=info_parts BJ
 have cI:=H.size
 obtain ⟨vc,vo,vx,vs,l,H⟩:=H
 obtain ⟨A,cap,Vs,h1,h2⟩:=iq H.rh.out
 subst Vs
 have HH:=ab (H.bl ((Bl.refl w).alloc (dL v)))
 have HL:=ab (aD w #[int i64 v.kind,int i64 v.n] 100)
 have x1:=aI HL.out
 have tq:=H.rh.out
 have c8:=HH.out.rh.runCells.2.2.2.2.2.2.2.2
 have fz:=ay HH.out.rh.run 8
 have hq:=af H.rh.run
 have HO:=ab HH.out.rh.out
 have HP:=ab (HH.out.rh.run)
 have Oq:Hid ((Value.slice A h.sh.out.length cap).ownBlock≠some w.heap.size):=fun e=>by have:=lx tq e;omega
 have Ot:=ab (bc HO.out HP.out (by decide))
 clear H tq
 go_enter Tryz.func150,Tryz.ntmps150
 go_wp2
 go_region_law ((refine step_append_lies _ (by rfl) _ _ _ (by rfl) w0.heap.size 2 i0 _ 1 8 Tryz.underlying26 th sj tj tl rfl (by omega) (.slice A h.sh.out.length cap) h.sh.out.length (h.sh.out.map (Value.int .i64)) (by rfl) ((HO.out.alloc _).drew) ⟨w.heap.size+1,0,none⟩ 1 1 [int i64 v.n] (by rfl) (by rfl) (World.news_of_block (cs:=#[int i64 v.n]) (t:=2) (fr:=(0,0)) (by rw [<-El w (dL v)];exact aD _ _ _)) (by simp [Value.oneCell']) (by omega) (by unfold maxLen;omega) (by omega) (by simp;omega) _ rfl ?_;intro gb cp w1 fY bL hat tr;have mK:=au bL ((Below.heap_alloc _ _ _ (af HP.out)).trans HP.out) Ot.out;have dB:=au bL ((Below.heap_alloc _ _ _ (af HL.out)).trans HL.out) Oq.out;have q8:w1.cell? ⟨g.r,8,none⟩=some (.slice A h.sh.out.length cap):=(aa mK).trans rfl;have z8:=ay mK 8;have y1:=aI dB;have eR:=af mK;replace fY:=ab fY;replace bL:=ab bL;replace hat:=ab hat;clear dB mK))
 all_goals
  go_wp2
  go_end0
  exact ⟨rfl,_,_,_,_,_,l4.emit (HH.out.bl (((Bl.refl _).alloc _).drew)) bL.out fY.out (hat.out.elim (fun e=>Or.inl e.symm) (fun e=>Or.inr fun b hb=>Nat.le_of_eq (e.symm.trans (by simpa [Value.ownBlock] using hb))))⟩
theorem Mf (w:World) (H:RX s X wx w0 g w h qs a c) (hd:h.dry=true) :
  Calls Tryz.prog 151 #[.pointer (some ⟨g.r,0,none⟩)] w fun e w'=>e=aV 3 0 0/\RX s X wx w0 g w' h qs a c:=by
 have HH:=ab H
 obtain ⟨vc,vo,vx,vs,l,H⟩:=H
 have c4:=H.rh.runCells.2.2.2.2.1
 have c7:=H.rh.runCells.2.2.2.2.2.2.2.1
 have hq:=af H.rh.run
 have Vi:(h.input.length:Int)<=h.sh.used:=of_decide_eq_true hd
 clear H hd
 go_enter Tryz.func151,Tryz.ntmps151
 go_wp2
 go_quiet (fail)
 go_wp2_with (go_at_call 99;refine (ku 3 _).mono ?_;rintro e w1 ⟨rfl,hw⟩;rw [hw];clear hw w1)
 exact ⟨rfl,rfl,HH.out.bl (aR ((Bl.refl w).alloc _) _)⟩
theorem zU (w:World) (H:RX s X wx w0 g w h qs a c) (hI:cL w0 g.I h.input) (hd:h.dry=false) (hu:0<=h.sh.used) (hl:h.input.length<=1000000) :
  Calls Tryz.prog 151 #[.pointer (some ⟨g.r,0,none⟩)] w fun e w'=>e=.returned (cn ⟨2,nth (0:Int) h.input h.sh.used.toNat⟩)/\RX s X wx w0 g w' h.uses qs a c:=by
 have hlt:h.sh.used<(h.input.length:Int):=by have:=of_decide_eq_false hd;omega
 obtain ⟨u,Qf⟩:∃u:Nat,h.sh.used=u:=⟨h.sh.used.toNat,by omega⟩
 have Vt:u<h.input.length:=by omega
 rcases hI.2 with h0|⟨ib,io,Rf,hic⟩
 ·omega
 have hx:=(hic u Vt).1
 have e1:h.sh.used.toNat=u:=by omega
 rw [e1]
 have cI:=H.size
 obtain ⟨vc,vo,vx,vs,l,H⟩:=H
 have HH:=ab (H.bl ((Bl.refl w).alloc eT))
 have HL:=ab (aD w #[int i64 0,int i64 0] 100)
 have c4:=H.rh.runCells.2.2.2.2.1
 have c7:=H.rh.runCells.2.2.2.2.2.2.2.1
 have fz:=ay H.rh.run
 have hq:=af H.rh.run
 have xi:=Bl.cell H.rh.bl hx
 have Ox:=bC xi
 have Vv:ib≠g.r:=by have h1:=bC hx;have h2:=H.rh.ownr;omega
 have Tz:Hid (∀nq,l4 s X wx w0 g (((w.alloc eT).drewN nq).setCell ⟨g.r,7,none⟩ (int i64 ((u:Int)+1))) h.uses qs a c vc vo vx vs l):=fun nq=>l4.setr (HH.out.bl (aR (Bl.refl _) nq)) (by unfold gM Hp.uses;simp [Qf]) rfl rfl rfl (Int.le_refl _)
 have TA:g.r≠w.heap.size:=by omega
 rw [Rf] at c4
 rw [Qf] at c7 hlt
 have hu0:(0:Int)<=(u:Int):=by omega
 have Vw:(u:Int)<(h.input.length:Int):=by omega
 have xU:((u:Int)+1-1)=(u:Int):=by omega
 have hw1:IntKind.i64.wrap (u:Int)=(u:Int):=by rw [IntKind.wrap_i64];omega
 have yw:=ab (H.rh.farNew (Nat.le_refl _))
 have Ma:=ab (H.ca.farNew (Nat.le_refl _))
 have Ra:Hid (¬X w.heap.size):=fun hx=>by have:=(H.kept.blk _ hx).1;have:=H.kept.size;omega
 have IQ:=ab hx
 have HU:=ab Qf
 have HI:=ab Rf
 clear H hd hu hic hx hI Qf e1 Rf
 generalize nth (0:Int) h.input u=V at *
 go_enter Tryz.func151,Tryz.ntmps151
 go_wp2
 go_quiet (fail)
 go_wp2
 have HA:=Tz.out nq
 have b0:(((w.alloc eT).drewN nq).setCell ⟨g.r,7,none⟩ (int i64 ((u:Int)+1))).heap[w.heap.size]?=some (.cells #[int i64 0,int i64 0] 100 (0,0)):=qt HL.out (fun e=>TA e.symm) _
 generalize (((w.alloc eT).drewN nq).setCell ⟨g.r,7,none⟩ (int i64 ((u:Int)+1)))=W at *
 have k4:=HA.rh.runCells.2.2.2.2.1
 have k7:=HA.rh.runCells.2.2.2.2.2.2.2.1
 have ki:=Bl.cell HA.rh.bl IQ.out
 have e7:h.uses.sh.used=(u:Int)+1:=by unfold Hp.uses;dsimp only;rw [HU.out]
 have e4:h.uses.input=h.input:=rfl
 rw [e7] at k7
 rw [e4,HI.out] at k4
 have X4:=af b0
 have n1:w.heap.size≠g.r:=fun e=>TA e.symm
 have n2:w.heap.size≠ib:=by omega
 replace HA:=ab HA
 replace b0:=ab b0
 clear Tz e7 e4
 go_region_held3 (fun w'=>w'.cell? ⟨g.r,4,none⟩=some (.slice (some ⟨ib,io,none⟩) h.input.length g.i)/\w'.cell? ⟨g.r,7,none⟩=some (int i64 ((u:Int)+1))/\w'.cell? ⟨ib,io+u,none⟩=some (int i64 V))
  (go_keep)
  (first
   | (go_at_call 100;refine (iZ V _).mono ?_;rintro e w2 ⟨rfl,b2⟩;have d4:=b2.cell k4;have d7:=b2.cell k7;have di:=b2.cell ki;have q0:=ai b2 b0.out;have r0:=aK q0;have r1:=aI q0;have rz:=ay q0;replace b2:=ab b2;replace q0:=ab q0))
 go_wp2
 refine bodyPost_ret (results_cell_row rfl _ _ w.heap.size _ _ _ _ rfl (bQ q0.out) Tryz.underlying100 rfl bK) rfl ?_
 refine ⟨rfl,cK.x (cK.set (Y:=fun b=>b=w.heap.size) (b:=w.heap.size) (cK.set (Y:=fun b=>b=w.heap.size) (b:=w.heap.size) ⟨vc,vo,vx,vs,l,HA.out.bl ((Bl.refl _).drew.trans b2.out),fun b hb=>?_⟩ rfl 0 _) rfl 1 _)⟩
 subst hb
 exact ⟨af q0.out,cI,Ra.out,yw.out,Ma.out⟩
end
end
end Go.Proofs.YtgiiapenmjollaaGreat
