import Derived.Test.YtgbebphpjnmafaaGreatRrad
import Derived.Test.YtgbebphpjnmafaaGreatRrag
namespace Go.Proofs.YtgbebphpjnmafaaGreat
set_option linter.all false
set_option maxHeartbeats 40000000
set_option maxRecDepth 100000
open Go.RowKit
open Tryz
variable {c c':aL} {h h':Hp} {i:In} {k nx:Int} {cs:List Cl} {a:Mc} {g:Mg} {b:Nat} {X:Nat->Prop} {v:Va} {w w0 wx:World}
structure BJ (cs:List Cl) (ms:List Me) (regs ret:Int) (i:In):Prop where
 b2:(i.op=4/\i.c=2)∨i.op=6∨i.op=8∨i.op=9->i.b+1<regs
 c2:i.op=6∨i.op=9->i.c+1<regs
 a2:(i.op=15/\(nth bS (nth bL cs i.c.toNat).fields i.n.toNat).kind=2)∨(i.op=23/\i.b=2)->i.a+1<regs
 g2:i.op=18->∀k,k<i.args.length->(nth bS (nth bT ms i.a.toNat).params k).kind=2->nth (0:Int) i.args k+1<regs
 r2:i.op=20->ret=2->i.a+1<regs
theorem KS {ms:List Me} {fS:Nat} {regs ret:Int} (h:bU cs ms fS regs ret i=true):BJ cs ms regs ret i:=by
 have hop:=Ft h
 unfold bU at h
 rcases (by omega:i.op=1∨i.op=2∨i.op=3∨i.op=4∨i.op=5∨i.op=6∨i.op=7∨i.op=8∨i.op=9∨i.op=10∨i.op=11∨i.op=12∨i.op=13∨i.op=14∨i.op=15∨i.op=16∨i.op=17∨i.op=18∨i.op=19∨i.op=20∨i.op=21∨i.op=22∨i.op=23∨i.op=24) with e|e|e|e|e|e|e|e|e|e|e|e|e|e|e|e|e|e|e|e|e|e|e|e
 all_goals
  simp only [e,aW,bp,aM,pV,true_implies,false_implies,if_true,if_false,Int.reduceEq,Int.reduceLT,Int.reduceNeg,or_true,true_or,or_false,false_or,or_self,Bool.and_eq_true,decide_eq_true_eq,List.all_eq_true,List.mem_range,Bool.true_and,decide_true] at h
 all_goals
  constructor
  all_goals intros
  all_goals first|omega|(exact (h.2.2.2 _ ‹_›).2.2 ‹_›)|(have h':=h.2.2.2;rw [if_neg (by omega),pV] at h';omega)
def cy (h:Hp) (c:aL) (i:In):Hp:=if i.op=19 then h.must (decide (c.giv.kind=i.b)) else if i.op=22 then h.must (isRef c.cau) else givesH h c i
def bR (h:Hp) (c:aL) (i:In):Va:=if i.op=19 then c.giv else if i.op=22 then c.cau else aG h c i
theorem aF (hs:h.stops=false):h.over=false/\¬0<=h.thrown:=by
 unfold Hp.stops at hs
 rw [Bool.or_eq_false_iff] at hs
 exact ⟨hs.1,by simpa using hs.2⟩
theorem BK (hs:h.stops=false) (b:Bool) (c:aL) (a:Int) (v:Va):(if h.mustB b=true then mI h c a v else c)=mI (h.must b) c a v:=by
 obtain ⟨ho,-⟩:=aF hs
 unfold Hp.mustB Hp.must
 cases b with
 | true=>simp [ho]
 | false =>
  have:(h.fin 6).stops=true:=by unfold Hp.stops;rw [Fs ho];rfl
  simp [mI,this]
theorem GJ (c:aL) (hs:h.stops=false) (hop:i.op<=9∨i.op=13∨i.op=14∨i.op=17∨i.op=19∨i.op=22∨i.op=24) :
  bV h c i=⟨cy h c i,mI (cy h c i) c.clr i.a (bR h c i),c.pc+1⟩:=by
 unfold bV cy bR
 by_cases oP:i.op=19
 ·simp only [oP,Int.reduceEq,if_true,if_false]
  unfold wH
  rw [BK hs]
 ·by_cases GK:i.op=22
  ·simp only [GK,Int.reduceEq,if_true,if_false]
   unfold wI
   rw [BK hs]
  ·rw [if_neg (by omega),if_neg (by omega),if_neg (by omega),if_neg (by omega),if_neg (by omega),if_neg (by omega),if_neg (by omega),if_neg (by omega),if_neg (by omega),if_neg oP,if_neg GK,if_neg oP,if_neg GK]
   rfl
theorem Oj {s:Nat} {ms:List Me} {n:Nat} {rt:Int} (g:Gh s h) (kd:Kd h) (gc:Gc h c) (hs0:h.stops=false) (mc:xr h.file.classes) (ok:pM h.file.classes ms n c.m.regs rt i) (iok:i.ok) (hop:i.op<=9∨i.op=13∨i.op=14∨i.op=17∨i.op=19∨i.op=22∨i.op=24) (hs:(cy h c i).stops=false):(bR h c i).kind≠9/\((bR h c i).kind=2->i.a+1<c.m.regs):=by
 obtain ⟨ho,ht⟩:=aF hs0
 have iA:h.thrown=-1:=by have:=g.thr;omega
 unfold cy at hs
 unfold bR
 by_cases oP:i.op=19
 ·rw [if_pos oP] at hs ⊢
  have hk:=ok.res oP
  have:=of_decide_eq_true (iJ (aF hs).1).1
  exact ⟨by omega,fun x=>ok.two (by omega)⟩
 rw [if_neg oP] at hs ⊢
 by_cases GK:i.op=22
 ·rw [if_pos GK] at hs ⊢
  have:=of_decide_eq_true (iJ (aF hs).1).1
  exact ⟨by omega,fun x=>by omega⟩
 rw [if_neg GK] at hs ⊢
 exact (oK g kd gc ho iA mc ok iok (by omega) hs).2
section
variable (s:Nat) (X:Nat->Prop) (wx w0:World) (g:Mg) (h:Hp)
theorem fj (qs:List Qb) (a:Mc) (c:aL) (n k:Int) (w:World) (H:RX s X wx w0 g w h qs a c) (hn:0<=n/\n<c.locs.length) (hk:1<=k/\k<=3) (h2:k=2->n+1<c.locs.length) (hv:(c.rd n).kind=k) :
  χ 132 #[π a.q 0,ι n,ι k] w fun e w'=>e=.returned (cm (im (c.rd n)))/\Bl w w':=by
 obtain ⟨m,rfl⟩:∃m:Nat,n=m:=⟨n.toNat,by omega⟩
 have er:c.rd (m:Int)=nth aE c.locs m:=by unfold aL.rd;rw [Int.toNat_natCast]
 rw [er] at hv ⊢
 obtain ⟨vc,vo,vx,vs,l,H⟩:=H
 have HB:Θ (Bl w (w.alloc fa)):=(Bl.refl w).alloc _
 have C:=H.ca.kept (df HB.o none) (fun b e=>by cases e)
 have c10:=C.cells.c10
 have HR:=ae (FN C m k (by omega) hk (fun e=>by have:=h2 e;omega) hv)
 have HQ:=ae (aB w #[ι 0,ι 0] 98)
 have hq:a.q<w.heap.size:=af H.ca.blk
 clear H C hn hk h2 hv er
 go_enter func132,ntmps132
 go_wp2_with (go_at_call 150;refine HR.o.mono ?_;rintro e w1 ⟨rfl,b1⟩;have q1:=ax b1 HQ.o;have c4:=aO q1;have c5:=aJ q1;have fz:=aA q1;replace q1:=ae q1;replace b1:=ae b1)
 refine bodyPost_ret (results_cell_row rfl _ _ w.heap.size _ _ _ _ rfl (ba q1.o) underlying98 rfl au) rfl ?_
 exact ⟨rfl,cT (HB.o.trans b1.o) (by omega) _ _⟩
theorem jD (qs:List Qb) (a:Mc) (c:aL) (n k:Int) (w:World) (H:RX s X wx w0 g w h qs a c) (hn:0<=n/\n<c.locs.length) (hk:1<=k/\k<=3) (h2:k=2->n+1<c.locs.length) (hv:(c.rd n).kind≠k) :
  χ 132 #[π a.q 0,ι n,ι k] w fun e w'=>e=bF 6 0 0/\Bl w w':=by
 obtain ⟨m,rfl⟩:∃m:Nat,n=m:=⟨n.toNat,by omega⟩
 have er:c.rd (m:Int)=nth aE c.locs m:=by unfold aL.rd;rw [Int.toNat_natCast]
 rw [er] at hv
 obtain ⟨vc,vo,vx,vs,l,H⟩:=H
 have HB:Θ (Bl w (w.alloc fa)):=(Bl.refl w).alloc _
 have C:=H.ca.kept (df HB.o none) (fun b e=>by cases e)
 have c10:=C.cells.c10
 have HR:=ae (Kj C m k (by omega) hk (fun e=>by have:=h2 e;omega) hv)
 have HQ:=ae (aB w #[ι 0,ι 0] 98)
 have hq:a.q<w.heap.size:=af H.ca.blk
 clear H C hn hk h2 hv er
 go_enter func132,ntmps132
 go_wp2_with (go_at_call 150;refine HR.o.mono ?_;rintro e w1 ⟨rfl,b1⟩;have q1:=ax b1 HQ.o;have c4:=aO q1;have c5:=aJ q1;have fz:=aA q1;replace q1:=ae q1;replace b1:=ae b1)
 exact ⟨rfl,rfl,HB.o.trans b1.o⟩
theorem jE (qs:List Qb) (a:Mc) (c:aL) (n:Int) (t:Ty) (w:World) (H:RX s X wx w0 g w h qs a c) (F:Fix w0 g h) (hf:h.objs.length<=100) (hn:0<=n/\n<c.locs.length) (hk:1<=t.kind/\t.kind<=3) (h2:t.kind=2->n+1<c.locs.length) (hv:(c.rd n).kind=3->-1<=(c.rd n).n/\(c.rd n).n<h.objs.length) (ho:h.of (c.rd n) t=true) :
  χ 184 #[π a.q 0,ι n,ix t] w fun e w'=>e=.returned (cm (im (c.rd n)))/\Bl w w':=by
 have hkd:(c.rd n).kind=t.kind:=by unfold Hp.of at ho;rw [Bool.and_eq_true] at ho;exact of_decide_eq_true ho.1
 have HH:=ae H
 have hq:=H.qlt
 have HF:Θ (Fix w0 g h/\h.objs.length<=100):=⟨F,hf⟩
 obtain ⟨L0,L1⟩:=bc w #[ι t.kind,ι t.cls] #[ι 0,ι 0] 45 98
 have B0:Bl w ((w.alloc (hJ t)).alloc fa):=((Bl.refl w).alloc _).alloc _
 have z0:=ae (H.y.bl B0).hb
 have z1:=ae (aO L0)
 have z2:=ae (aJ L0)
 have HB:Θ (Bl w ((w.alloc (hJ t)).alloc fa)):=B0
 have dK:=ae L0
 have ey:=ae L1
 have HR:Θ (∀w',RX s X wx w0 g w' h qs a c->χ 132 #[π a.q 0,ι n,ι t.kind] w' fun e w2=>e=.returned (cm (im (c.rd n)))/\Bl w' w2):=fun w' H=>fj s X wx w0 g h qs a c n t.kind w' H hn hk h2 hkd
 have HO:Θ (((c.rd n).kind=3->-1<=(c.rd n).n/\(c.rd n).n<h.objs.length)/\h.of (c.rd n) t=true):=⟨hv,ho⟩
 have ig:w.heap.size≠a.q:=by omega
 have fT:w.heap.size+1≠a.q:=by omega
 have z0:=z0.o
 have z1:=z1.o
 have z2:=z2.o
 clear H F hf hv ho L0 L1 B0 hn hk h2 hkd
 go_enter func184,ntmps184
 go_wp2
 go_region_held3 (fun w'=>w'.cell? ⟨a.q,0,none⟩=some (π g.hb 0)/\w'.cell? ⟨w.heap.size,0,none⟩=some (ι t.kind)/\w'.cell? ⟨w.heap.size,1,none⟩=some (ι t.cls))
  (go_keep)
  (first
   | (go_at_call 132;refine (HR.o _ (HH.o.bl (by first|exact HB.o.drew|exact HB.o))).mono ?_;rintro e w1 ⟨rfl,b1⟩;have d0:=b1.cell z0;have d1:=b1.cell z1;have d2:=b1.cell z2;have q1:=ae (ax b1 ey.o);have b1:=ae b1)
   | (go_at_call 192;refine (FK g h (c.rd n) t _ ((HH.o.bl ((by first|exact HB.o.drew.trans b1.o|exact HB.o.trans b1.o))).rd HF.o.1 HF.o.2) HO.o.1 HO.o.2).mono ?_;rintro e w2 ⟨rfl,b2⟩;have e0:=b2.cell d0;have e1:=b2.cell d1;have e2:=b2.cell d2;have q2:=ax b2 q1.o;have f4:=aO q2;have f5:=aJ q2;have fz:=aA q2;have b2:=ae b2;have q2:=ae q2))
 go_wp2
 refine bodyPost_ret (results_cell_row rfl _ _ (w.heap.size+1) _ _ _ _ rfl (ba q2.o) underlying98 rfl au) rfl ?_
 exact ⟨rfl,cT (by first|exact (HB.o.drew.trans b1.o).trans b2.o|exact (HB.o.trans b1.o).trans b2.o) (by omega) _ _⟩
theorem GL (qs:List Qb) (a:Mc) (c:aL) (n:Int) (t:Ty) (w:World) (H:RX s X wx w0 g w h qs a c) (F:Fix w0 g h) (hf:h.objs.length<=100) (hn:0<=n/\n<c.locs.length) (hk:1<=t.kind/\t.kind<=3) (h2:t.kind=2->n+1<c.locs.length) (hkd:(c.rd n).kind≠t.kind) :
  χ 184 #[π a.q 0,ι n,ix t] w fun e w'=>e=bF 6 0 0/\Bl w w':=by
 have HH:=ae H
 have hq:=H.qlt
 have HF:Θ (Fix w0 g h/\h.objs.length<=100):=⟨F,hf⟩
 obtain ⟨L0,L1⟩:=bc w #[ι t.kind,ι t.cls] #[ι 0,ι 0] 45 98
 have B0:Bl w ((w.alloc (hJ t)).alloc fa):=((Bl.refl w).alloc _).alloc _
 have z0:=ae (H.y.bl B0).hb
 have z1:=ae (aO L0)
 have z2:=ae (aJ L0)
 have HB:Θ (Bl w ((w.alloc (hJ t)).alloc fa)):=B0
 have dK:=ae L0
 have ey:=ae L1
 have HR:Θ (∀w',RX s X wx w0 g w' h qs a c->χ 132 #[π a.q 0,ι n,ι t.kind] w' fun e w2=>e=bF 6 0 0/\Bl w' w2):=fun w' H=>jD s X wx w0 g h qs a c n t.kind w' H hn hk h2 hkd
 clear H F hf L0 L1 B0 hn hk h2 hkd
 go_enter func184,ntmps184
 go_wp2
 refine wp_region_held_drew (S:=fun w'=>κ w' a.q 0 (π g.hb 0)/\κ w' w.heap.size 0 (ι t.kind)/\κ w' w.heap.size 1 (ι t.cls)) (by kernel_rfl) ?_ (fun aa=>?_)
 ·exact ⟨z0.o,z1.o,z2.o⟩
 iterate 9 (refine tn rfl (by kernel_rfl) (fun _ _ _ h=>h) (by intro _ h;go_split_ands;go_simp<;>with_reducible rfl) aa ?_;try simp only [aZ])
 refine aY (i:=8) (by kernel_rfl) rfl fun K hK=>?_
 go_simp
 go_at_call 132
 refine (HR.o _ (HH.o.bl HB.o.drew)).mono ?_
 rintro e w1 ⟨rfl,b1⟩
 exact ⟨rfl,rfl,HB.o.drew.trans b1⟩
theorem KT (qs:List Qb) (a:Mc) (c:aL) (n:Int) (t:Ty) (w:World) (H:RX s X wx w0 g w h qs a c) (F:Fix w0 g h) (hf:h.objs.length<=100) (hn:0<=n/\n<c.locs.length) (hk:1<=t.kind/\t.kind<=3) (h2:t.kind=2->n+1<c.locs.length) (hkd:(c.rd n).kind=t.kind) (hv:(c.rd n).kind=3->-1<=(c.rd n).n/\(c.rd n).n<h.objs.length) (ho:h.of (c.rd n) t=false) :
  χ 184 #[π a.q 0,ι n,ix t] w fun e w'=>e=bF 6 0 0/\Bl w w':=by
 have HH:=ae H
 have hq:=H.qlt
 have HF:Θ (Fix w0 g h/\h.objs.length<=100):=⟨F,hf⟩
 obtain ⟨L0,L1⟩:=bc w #[ι t.kind,ι t.cls] #[ι 0,ι 0] 45 98
 have B0:Bl w ((w.alloc (hJ t)).alloc fa):=((Bl.refl w).alloc _).alloc _
 have z0:=ae (H.y.bl B0).hb
 have z1:=ae (aO L0)
 have z2:=ae (aJ L0)
 have HB:Θ (Bl w ((w.alloc (hJ t)).alloc fa)):=B0
 have dK:=ae L0
 have ey:=ae L1
 have HR:Θ (∀w',RX s X wx w0 g w' h qs a c->χ 132 #[π a.q 0,ι n,ι t.kind] w' fun e w2=>e=.returned (cm (im (c.rd n)))/\Bl w' w2):=fun w' H=>fj s X wx w0 g h qs a c n t.kind w' H hn hk h2 hkd
 have HO:Θ (((c.rd n).kind=3->-1<=(c.rd n).n/\(c.rd n).n<h.objs.length)/\h.of (c.rd n) t=false):=⟨hv,ho⟩
 clear H F hf L0 L1 B0 hn hk h2 hkd hv ho
 go_enter func184,ntmps184
 go_wp2
 refine wp_region_held_drew (S:=fun w'=>κ w' a.q 0 (π g.hb 0)/\κ w' w.heap.size 0 (ι t.kind)/\κ w' w.heap.size 1 (ι t.cls)) (by kernel_rfl) ?_ (fun aa=>?_)
 ·exact ⟨z0.o,z1.o,z2.o⟩
 iterate 9 (refine tn rfl (by kernel_rfl) (fun _ _ _ h=>h) (by intro _ h;go_split_ands;go_simp<;>with_reducible rfl) aa ?_;try simp only [aZ])
 refine aY (i:=8) (by kernel_rfl) rfl fun K hK=>?_
 go_simp
 go_at_call 132
 refine (HR.o _ (HH.o.bl HB.o.drew)).mono ?_
 rintro e w1 ⟨rfl,b1⟩
 have d0:=ae (b1.cell z0.o)
 have d1:=ae (b1.cell z1.o)
 have d2:=ae (b1.cell z2.o)
 have b1:=ae b1
 go_wp2_with fail
 refine hK.out _ _ (⟨d0.o,d1.o,d2.o⟩) (fun ah=>?_)
 try simp only [aZ]
 refine aY (i:=10) (by kernel_rfl) rfl fun K hK=>?_
 go_simp
 go_at_call 192
 refine (Kg g h (c.rd n) t _ ((HH.o.bl (HB.o.drew.trans b1.o)).rd HF.o.1 HF.o.2) HO.o.1 HO.o.2).mono ?_
 rintro e w2 ⟨rfl,b2⟩
 exact ⟨rfl,rfl,(HB.o.drew.trans b1.o).trans b2⟩
theorem rG (qs:List Qb) (a:Mc) (c:aL) (n:Int) (t:Ty) (w:World) (H:RX s X wx w0 g w h qs a c) (F:Fix w0 g h) (hf:h.objs.length<=100) (hn:0<=n/\n<c.locs.length) (hk:1<=t.kind/\t.kind<=3) (h2:t.kind=2->n+1<c.locs.length) (hv:(c.rd n).kind=3->-1<=(c.rd n).n/\(c.rd n).n<h.objs.length) (ho:h.of (c.rd n) t=false) :
  χ 184 #[π a.q 0,ι n,ix t] w fun e w'=>e=bF 6 0 0/\Bl w w':=by
 by_cases hkd:(c.rd n).kind=t.kind
 ·exact KT s X wx w0 g h qs a c n t w H F hf hn hk h2 hkd hv ho
 ·exact GL s X wx w0 g h qs a c n t w H F hf hn hk h2 hkd
end
def mQ (d:nd):Ending:=if d.h.over=true then bF d.h.sh.fin 0 0 else if 0<=d.h.thrown then vg d.h.thrown else .returned (.tuple #[])
structure iM (X:Nat->Prop) (wx w0:World) (g:Mg) (qs:List Qb) (a:Mc) (c:aL) (d:nd) (e:Ending) (w':World):Prop where
 how:e=mQ d
 stop:d.h.stops=true->RS 0 X wx w0 g w' d.h qs a c
 go:d.h.stops=false->RX 0 X wx w0 g w' d.h qs a { c with locs:=d.c.locs }
theorem RH.less {qs:List Qb} {vc vo vx:Value} (H:RH 1 w0 g w h qs vc vo vx):RH 0 w0 g w h qs vc vo vx:=by
 obtain ⟨n,D,F⟩:=H.fld
 exact ⟨H.ownr,H.ownh,H.ownm,H.bl,H.run,H.hp,H.o,H.obs,H.calls,n,D,F.own,by have:=F.few;omega,F.hit,F.miss,F.new,F.ks,F.kd⟩
section
variable {X:Nat->Prop} {wx w0 w:World} {g:Mg} {h:Hp}
theorem RX.less {qs:List Qb} (H:RX 1 X wx w0 g w h qs a c):RX 0 X wx w0 g w h qs a c:=by
 obtain ⟨vc,vo,vx,vs,l,H⟩:=H
 exact ⟨vc,vo,vx,vs,l,H.rh.less,H.ca,H.farr,H.farc,H.kept⟩
theorem RS.less {qs:List Qb} (H:RS 1 X wx w0 g w h qs a c):RS 0 X wx w0 g w h qs a c:=by
 obtain ⟨d,e1,e2,H⟩:=H
 exact ⟨d,e1,e2,H.less⟩
end
theorem ml (ho:h.over=false) (k:Int):(h.fin k).over=true/\(h.fin k).sh.fin=k:=by
 unfold Hp.fin;rw [if_neg (by rw [ho];decide)];exact ⟨rfl,rfl⟩
theorem oT (hs:h.stops=false) (k:Int):(h.fin k).stops=true:=by
 unfold Hp.stops;rw [(ml (aF hs).1 k).1];rfl
theorem zN (k:Int) (ho:h.over=false) (hf:h.full=true):h.raise k=h.fin 4:=by
 unfold Hp.raise Hp.new
 rw [if_pos hf,if_pos (ml ho 4).1]
theorem Dl (k:Int) (ho:h.over=false) (hf:h.full=false):h.raise k={ h with objs:=h.objs++[⟨k,cZ h.file.classes k.toNat⟩],thrown:=(h.objs.length:Nat) }:=by
 have hn:h.new k={ h with objs:=h.objs++[⟨k,cZ h.file.classes k.toNat⟩] }:=by unfold Hp.new;rw [if_neg (by rw [hf];decide)]
 have hv:h.newV=⟨3,(h.objs.length:Nat)⟩:=by unfold Hp.newV;rw [if_neg (by rw [hf];decide)]
 unfold Hp.raise
 rw [hn,hv,if_neg (by simp [ho])]
def nQ (h':Hp) (v:Va):Ending:=if h'.over=true then bF h'.sh.fin 0 0 else if 0<=h'.thrown then vg h'.thrown else .returned (cm (im v))
structure cM (X:Nat->Prop) (wx w0:World) (g:Mg) (qs:List Qb) (a:Mc) (c:aL) (h':Hp) (v:Va) (e:Ending) (w':World):Prop where
 how:e=nQ h' v
 stop:h'.stops=true->RS 1 X wx w0 g w' h' qs a c
 go:h'.stops=false->RX 1 X wx w0 g w' h' qs a c
section
variable {X:Nat->Prop} {wx w0 w':World} {g:Mg} {h:Hp}
theorem ea {qs:List Qb} {e:Ending} (hs:h.stops=false) (he:e=.returned (cm (im v))) (H:RX 1 X wx w0 g w' h qs a c):cM X wx w0 g qs a c h v e w':=by
 obtain ⟨ho,ht⟩:=aF hs
 exact ⟨by unfold nQ;rw [if_neg (by rw [ho];decide),if_neg ht];exact he,fun q=>by rw [hs] at q;exact absurd q (by decide),fun _=>H⟩
theorem fC {qs:List Qb} (ho:h.over=false) (e:h'=h.fin k) (H:RS 1 X wx w0 g w' h qs a c):cM X wx w0 g qs a c h' v (bF k 0 0) w':=by
 subst e
 obtain ⟨h1,h2⟩:=ml ho k
 refine ⟨?_,fun _=>H.eqv (tu h k),fun q=>?_⟩
 ·unfold nQ;rw [if_pos h1,h2]
 ·simp [Hp.stops,h1] at q
end
theorem oU (hs:h.stops=false) (k:Int) (v:Va):cU h=nQ (h.raise k) v/\(h.raise k).stops=true:=by
 obtain ⟨ho,-⟩:=aF hs
 cases hf:h.full with
 | true =>
  have e1:=zN k ho hf
  have h1:=ml ho 4
  refine ⟨?_,by rw [e1];exact oT hs 4⟩
  unfold nQ cU
  rw [e1,if_pos hf,if_pos h1.1,h1.2]
 | false =>
  have e1:=Dl k ho hf
  refine ⟨?_,by rw [e1];simp [Hp.stops]⟩
  unfold nQ cU
  rw [e1,if_neg (by rw [hf];decide)]
  dsimp only
  rw [if_neg (by rw [ho];decide),if_pos (by omega)]
theorem tI {w':World} {qs:List Qb} (hs:h.stops=false) (e:h'=h.raise k) (H:RS 1 X wx w0 g w' (h.raise k) qs a c):cM X wx w0 g qs a c h' v (cU h) w':=by
 subst e
 obtain ⟨h1,h2⟩:=oU hs k v
 exact ⟨h1,fun _=>H,fun q=>by rw [h2] at q;exact absurd q (by decide)⟩
theorem jg (h:Hp):∃ch,cU h=.panicked ch:=by unfold cU;split<;>exact ⟨_,rfl⟩
section
variable {X:Nat->Prop} {wx w0 w':World} {g:Mg} {h:Hp}
theorem jF {qs:List Qb} (ho:h.over=false) (e:h'=h.fin k) (H:RS 0 X wx w0 g w' h qs a c):iM X wx w0 g qs a c ⟨h',c',nx⟩ (bF k 0 0) w':=by
 subst e
 obtain ⟨h1,h2⟩:=ml ho k
 refine ⟨?_,fun _=>H.eqv (tu h k),fun q=>?_⟩
 ·unfold mQ;dsimp only;rw [if_pos h1,h2]
 ·simp [Hp.stops,h1] at q
theorem oV {qs:List Qb} (hs:h.stops=false) (e:h'=h.raise k) (H:RS 0 X wx w0 g w' (h.raise k) qs a c):iM X wx w0 g qs a c ⟨h',c',nx⟩ (cU h) w':=by
 subst e
 obtain ⟨h1,h2⟩:=oU hs k aE
 refine ⟨?_,fun _=>H,fun q=>by dsimp only at q;rw [h2] at q;exact absurd q (by decide)⟩
 unfold Hp.stops at h2
 rw [Bool.or_eq_true] at h2
 rw [h1]
 unfold nQ mQ
 dsimp only
 rcases h2 with h2|h2
 ·rw [if_pos h2,if_pos h2]
 ·have h2:=of_decide_eq_true h2
  split<;>first|rfl|rw [if_pos h2]
theorem vK {qs:List Qb} (hs:h.stops=false) (H:RX 0 X wx w0 g w' h qs a { c with locs:=c'.locs }):iM X wx w0 g qs a c ⟨h,c',nx⟩ (.returned (.tuple #[])) w':=by
 obtain ⟨ho,ht⟩:=aF hs
 refine ⟨?_,fun q=>?_,fun _=>H⟩
 ·unfold mQ;dsimp only;rw [if_neg (by rw [ho];decide),if_neg ht]
 ·dsimp only at q;rw [hs] at q;exact absurd q (by decide)
end
theorem iO {b:Bool} (hb:b=false):h.must b=h.fin 6:=by unfold Hp.must;rw [if_neg (by rw [hb];decide)]
theorem nR {b:Bool} (hb:b=true):h.must b=h:=by unfold Hp.must;rw [if_pos hb]
section
variable {h:Hp} {c:aL} {n k:Int}
theorem fO (hk:(c.rd n).kind≠k):h.rdH c n k=h.fin 6:=iO (decide_eq_false hk)
theorem de (hk:(c.rd n).kind=k):h.rdH c n k=h:=nR (decide_eq_true hk)
end
theorem aD {b' i:Nat} {k n x:Value} (h:w.cell? ⟨b,i,none⟩=some x) (hb:b≠b'):((w.setCell ⟨b',0,none⟩ k).setCell ⟨b',1,none⟩ n).cell? ⟨b,i,none⟩=some x:=by
 rw [World.cell?_setCell_far _ _ _ _ (Ne.symm hb),World.cell?_setCell_far _ _ _ _ (Ne.symm hb)];exact h
theorem dr {y0 y1 y2 y3 y4 y5:Value} {t:TypeId} (h:w.heap[b]?=some (.cells #[y0,y1,y2,y3,y4,y5] t (0,0))):w.cell? ⟨b,0,none⟩=some y0/\w.cell? ⟨b,1,none⟩=some y1/\w.cell? ⟨b,2,none⟩=some y2/\w.cell? ⟨b,3,none⟩=some y3/\w.cell? ⟨b,4,none⟩=some y4/\w.cell? ⟨b,5,none⟩=some y5:=by
 refine ⟨?_,?_,?_,?_,?_,?_⟩<;>(rw [ab h];rfl)
theorem RX.cells {s:Nat} {qs:List Qb} (H:RX s X wx w0 g w h qs a c):∃vs,tf g w a c vs:=by
 obtain ⟨vc,vo,vx,vs,l,H⟩:=H
 exact ⟨vs,H.ca.cells⟩
theorem kg (a b:Int) (w:World):(Instr.field 98 (.agg #[ι a,ι b]) 1).run Tryz.prog w=.ok (ι b) w:=by
 simp [Instr.field,go_sem,underlying98,run_underlying underlying98,run_underlying underlying2,asAgg]
theorem jh {w':World} {qs:List Qb} {ch:List PanicEntry} (hs:h'.stops=true) (he:nQ h' v=.panicked ch) (H:RS 1 X wx w0 g w' h' qs a c):cM X wx w0 g qs a c h' v (.panicked ch) w' :=
 ⟨he.symm,fun _=>H,fun q=>by rw [hs] at q;exact absurd q (by decide)⟩
theorem Dm (v:Va) (hs:h'.stops=true):∃ch,nQ h' v=.panicked ch:=by
 unfold Hp.stops at hs
 rw [Bool.or_eq_true] at hs
 unfold nQ
 split
 ·exact ⟨_,rfl⟩
 ·rename_i hn
  rw [if_pos (of_decide_eq_true (hs.resolve_left hn))]
  exact ⟨_,rfl⟩
theorem KU (v:Va) (hs:h'.stops=false):nQ h' v=.returned (cm (im v)):=by
 obtain ⟨ho,ht⟩:=aF hs
 unfold nQ;rw [if_neg (by rw [ho];decide),if_neg ht]
theorem fY {qs:List Qb} {f:FuncId} {args:Array Value} (hc:∀X wx w,RX 1 X wx w0 g w h qs a c->χ f args w fun e w2=>cM X wx w0 g qs a c h' v e w2) :
  (∃ch,(h'.stops=true/\nQ h' v=.panicked ch)/\∀X wx w,RX 1 X wx w0 g w h qs a c->χ f args w fun e w2=>e=.panicked ch/\RS 1 X wx w0 g w2 h' qs a c) ∨
  (h'.stops=false/\∀X wx w,RX 1 X wx w0 g w h qs a c->χ f args w fun e w2=>e=.returned (cm (im v))/\RX 1 X wx w0 g w2 h' qs a c):=by
 cases hs:h'.stops with
 | true =>
  obtain ⟨ch,he⟩:=Dm v hs
  exact Or.inl ⟨ch,⟨rfl,he⟩,fun X wx w H=>(hc X wx w H).mono fun e w2 q=>⟨q.how.trans he,q.stop hs⟩⟩
 | false=>exact Or.inr ⟨rfl,fun X wx w H=>(hc X wx w H).mono fun e w2 q=>⟨q.how.trans (KU v hs),q.go hs⟩⟩
section
open Go.Maps (Keyed has)
theorem pF (op:Int) (X:Nat->Prop) (wx w0:World) (g:Mg) (h:Hp) (qs:List Qb) (a:Mc) (c:aL) (ia ib ic ii:Int) (args:List Int) (Q:Option Addr) (nl q:Nat) (w:World) (H:RX 1 X wx w0 g w h qs a c) (hs:h.stops=false) (k:Int) (hb:0<=ib/\ib<c.locs.length) (hc:0<=ic/\ic<c.locs.length) (hk:k=1∨k=2) (h2:k=2->ib+1<c.locs.length/\ic+1<c.locs.length) (eT:h.objs.length<=100) :
  χ 245 #[π a.q 0,ι k,.agg #[ι op,ι ia,ι ib,ι ic,ι ii,.slice Q nl q]] w fun e w'=>cM X wx w0 g qs a c (h.reckH (c.rd ib) (c.rd ic) k ii) (h.reckV (c.rd ib) (c.rd ic) k ii) e w':=by
 have ho:=(aF hs).1
 have HH:=ae H
 have HS:=ae hs
 have hq:=H.qlt
 obtain ⟨L0,L1⟩:=bc w #[ι op,ι ia,ι ib,ι ic,ι ii,.slice Q nl q] #[ι 0,ι 0] 55 98
 have HB:Θ (Bl w ((w.alloc (.cells #[ι op,ι ia,ι ib,ι ic,ι ii,.slice Q nl q] 55)).alloc fa)):=((Bl.refl w).alloc _).alloc _
 have dK:=ae L0
 have ey:=ae L1
 have ig:w.heap.size≠a.q:=by omega
 have fT:w.heap.size+1≠a.q:=by omega
 have lj:w.heap.size≠w.heap.size+1:=by omega
 clear L0 L1
 have z0:=ae (H.y.bl HB.o).hb
 have z1:=ae (And.intro (dr dK.o).2.2.1 (And.intro (dr dK.o).2.2.2.1 (dr dK.o).2.2.2.2.1))
 have hkk:1<=k/\k<=3:=by omega
 by_cases e1:(c.rd ib).kind=k
 ·by_cases e2:(c.rd ic).kind=k
  ·have hm:h.mustB (eU (c.rd ib) (c.rd ic) k)=true:=by unfold Hp.mustB eU;rw [e1,e2,ho];simp
   have ev:h.reckV (c.rd ib) (c.rd ic) k ii=⟨k,lv k ii (c.rd ib) (c.rd ic)⟩:=by unfold Hp.reckV;rw [if_pos hm]
   have i1:im (c.rd ib)=c.rd ib:=iy (by omega)
   have i2:im (c.rd ic)=c.rd ic:=iy (by omega)
   have jB:Θ (∀w',RX 1 X wx w0 g w' h qs a c->χ 132 #[π a.q 0,ι ib,ι k] w' fun e w2=>e=.returned (cm (im (c.rd ib)))/\Bl w' w2):=fun w' H=>fj 1 X wx w0 g h qs a c ib k w' H hb hkk (fun x=>(h2 x).1) e1
   have pP:Θ (∀w',RX 1 X wx w0 g w' h qs a c->χ 132 #[π a.q 0,ι ic,ι k] w' fun e w2=>e=.returned (cm (im (c.rd ic)))/\Bl w' w2):=fun w' H=>fj 1 X wx w0 g h qs a c ic k w' H hc hkk (fun x=>(h2 x).2) e2
   rw [i1] at jB
   rw [i2] at pP
   have HK:=ae hk
   cases hr:qF k ii (c.rd ib) (c.rd ic) with
   | true =>
    have eh:h.reckH (c.rd ib) (c.rd ic) k ii=h:=by unfold Hp.reckH;rw [if_pos hm,if_pos hr]
    rw [eh,ev]
    have i3:im ⟨k,lv k ii (c.rd ib) (c.rd ic)⟩=⟨k,lv k ii (c.rd ib) (c.rd ic)⟩:=iy (by show k≠3;omega)
    have HE:Θ (∀w',RX 1 X wx w0 g w' h qs a c->cM X wx w0 g qs a c h ⟨k,lv k ii (c.rd ib) (c.rd ic)⟩ (.returned (cm ⟨k,lv k ii (c.rd ib) (c.rd ic)⟩)) w'):=fun w' H=>ea hs (by rw [i3]) H
    have HR:=ae hr
    clear H hs hb hc hk h2 eT e1 e2 hm ev i1 i2 i3 hr eh hkk
    go_enter func245,ntmps245
    go_wp2
    refine wp_region_held_drew (S:=fun w'=>κ w' a.q 0 (π g.hb 0)/\κ w' w.heap.size 2 (ι ib)/\κ w' w.heap.size 3 (ι ic)/\κ w' w.heap.size 4 (ι ii)) (by kernel_rfl) ?_ (fun aa=>?_)
    ·exact ⟨z0.o,z1.o.1,z1.o.2.1,z1.o.2.2⟩
    iterate 15 (refine tn rfl (by kernel_rfl) (fun _ _ _ h=>h) (by intro _ h;go_split_ands;go_simp<;>with_reducible rfl) aa ?_;try simp only [aZ])
    refine aY (i:=11) (by kernel_rfl) rfl fun K hK=>?_
    go_simp
    go_at_call 132
    refine (jB.o _ (HH.o.bl (HB.o.drew))).mono ?_
    rintro e w1 ⟨rfl,b1⟩
    have jO:=ae (b1.cell aa.1)
    have kh:=ae (b1.cell aa.2.1)
    have nS:=ae (b1.cell aa.2.2.1)
    have GM:=ae (b1.cell aa.2.2.2)
    replace b1:=ae b1
    go_wp2_with fail
    refine hK.out _ _ (⟨jO.o,kh.o,nS.o,GM.o⟩) (fun ah=>?_)
    try simp only [aZ]
    refine aY (i:=16) (by kernel_rfl) rfl fun K hK=>?_
    go_simp
    go_at_call 132
    refine (pP.o _ (HH.o.bl (HB.o.drew.trans b1.o))).mono ?_
    rintro e w2 ⟨rfl,b2⟩
    have oW:=ae (b2.cell ah.1)
    have rH:=ae (b2.cell ah.2.1)
    have xU:=ae (b2.cell ah.2.2.1)
    have Ok:=ae (b2.cell ah.2.2.2)
    replace b2:=ae b2
    go_wp2_with fail
    refine hK.out _ _ (⟨oW.o,rH.o,xU.o,Ok.o⟩) (fun aH=>?_)
    try simp only [aZ]
    refine aY (i:=17) (by kernel_rfl) rfl fun K hK=>?_
    go_simp
    go_at_call 232
    refine (yX g.hb k ii _ _ HK.o HR.o _).mono ?_
    rintro e w3 ⟨rfl,b3⟩
    have GN:=ae (b3.cell aH.1)
    have GO:=ae (b3.cell aH.2.1)
    have MY:=ae (b3.cell aH.2.2.1)
    have QN:=ae (b3.cell aH.2.2.2)
    replace b3:=ae b3
    have bb:=ae (((HB.o.drew.trans b1.o).trans b2.o).trans b3.o)
    have q1:=ax ((b1.o.trans b2.o).trans b3.o) ey.o
    have c4:=aO q1
    have c5:=aJ q1
    have fz:=aA q1
    replace q1:=ae q1
    go_wp2_with fail
    refine hK.out _ _ (⟨GN.o,GO.o,MY.o,QN.o⟩) (fun bG=>?_)
    try simp only [aZ]
    refine aY (i:=18) (by kernel_rfl) rfl fun K hK=>?_
    go_wp2_with fail
    refine hK.out _ _ (⟨aD GN.o (Ne.symm fT),aD GO.o lj,aD MY.o lj,aD QN.o lj⟩) (fun bd=>?_)
    try simp only [aZ]
    refine wpAnyH_done (by kernel_rfl) ?_ _
    go_wp2
    refine bodyPost_ret (results_cell_row rfl _ _ (w.heap.size+1) _ _ _ _ rfl (ba q1.o) underlying98 rfl au) rfl ?_
    exact HE.o _ (HH.o.bl (cT bb.o (by omega) _ _))
   | false =>
    have eh:h.reckH (c.rd ib) (c.rd ic) k ii=h.raise 2:=by unfold Hp.reckH;rw [if_pos hm,if_neg (by rw [hr];decide)]
    rw [eh]
    obtain ⟨ch,hch⟩:=jg h
    have HE:Θ (∀w',RX 1 X wx w0 g w' (h.raise 2) qs a c->cM X wx w0 g qs a c (h.raise 2) (h.reckV (c.rd ib) (c.rd ic) k ii) (.panicked ch) w'):=fun w' H=>hch▸tI hs rfl H.rs
    have HN:Θ (∀w',RX 1 X wx w0 g w' h qs a c->χ 232 #[π g.hb 0,ι k,ι ii,cm (c.rd ib),cm (c.rd ic)] w' fun e w2=>e=.panicked ch/\RX 1 X wx w0 g w2 (h.raise 2) qs a c):=fun w' H=>hch▸CY 1 X wx w0 g h qs a c k ii _ _ hk hr w' H eT ho
    generalize h.reckV (c.rd ib) (c.rd ic) k ii=V at *
    clear H hs hb hc hk h2 eT e1 e2 hm i1 i2 hr eh hkk hch
    go_enter func245,ntmps245
    go_wp2
    refine wp_region_held_drew (S:=fun w'=>κ w' a.q 0 (π g.hb 0)/\κ w' w.heap.size 2 (ι ib)/\κ w' w.heap.size 3 (ι ic)/\κ w' w.heap.size 4 (ι ii)) (by kernel_rfl) ?_ (fun aa=>?_)
    ·exact ⟨z0.o,z1.o.1,z1.o.2.1,z1.o.2.2⟩
    iterate 15 (refine tn rfl (by kernel_rfl) (fun _ _ _ h=>h) (by intro _ h;go_split_ands;go_simp<;>with_reducible rfl) aa ?_;try simp only [aZ])
    refine aY (i:=11) (by kernel_rfl) rfl fun K hK=>?_
    go_simp
    go_at_call 132
    refine (jB.o _ (HH.o.bl (HB.o.drew))).mono ?_
    rintro e w1 ⟨rfl,b1⟩
    have jO:=ae (b1.cell aa.1)
    have kh:=ae (b1.cell aa.2.1)
    have nS:=ae (b1.cell aa.2.2.1)
    have GM:=ae (b1.cell aa.2.2.2)
    replace b1:=ae b1
    go_wp2_with fail
    refine hK.out _ _ (⟨jO.o,kh.o,nS.o,GM.o⟩) (fun ah=>?_)
    try simp only [aZ]
    refine aY (i:=16) (by kernel_rfl) rfl fun K hK=>?_
    go_simp
    go_at_call 132
    refine (pP.o _ (HH.o.bl (HB.o.drew.trans b1.o))).mono ?_
    rintro e w2 ⟨rfl,b2⟩
    have oW:=ae (b2.cell ah.1)
    have rH:=ae (b2.cell ah.2.1)
    have xU:=ae (b2.cell ah.2.2.1)
    have Ok:=ae (b2.cell ah.2.2.2)
    replace b2:=ae b2
    go_wp2_with fail
    refine hK.out _ _ (⟨oW.o,rH.o,xU.o,Ok.o⟩) (fun aH=>?_)
    try simp only [aZ]
    refine aY (i:=17) (by kernel_rfl) rfl fun K hK=>?_
    go_simp
    go_at_call 232
    refine (HN.o _ (HH.o.bl ((HB.o.drew.trans b1.o).trans b2.o))).mono ?_
    rintro e w3 ⟨rfl,H3⟩
    exact ⟨rfl,HE.o _ H3⟩
  ·have hm:eU (c.rd ib) (c.rd ic) k=false:=by unfold eU;simp [e2]
   have eh:h.reckH (c.rd ib) (c.rd ic) k ii=h.fin 6:=by unfold Hp.reckH Hp.mustB;rw [hm,Bool.false_and,if_neg (by decide),iO rfl]
   rw [eh]
   generalize h.reckV (c.rd ib) (c.rd ic) k ii=V
   have jB:Θ (∀w',RX 1 X wx w0 g w' h qs a c->χ 132 #[π a.q 0,ι ib,ι k] w' fun e w2=>e=.returned (cm (im (c.rd ib)))/\Bl w' w2):=fun w' H=>fj 1 X wx w0 g h qs a c ib k w' H hb hkk (fun x=>(h2 x).1) e1
   have pP:Θ (∀w',RX 1 X wx w0 g w' h qs a c->χ 132 #[π a.q 0,ι ic,ι k] w' fun e w2=>e=bF 6 0 0/\Bl w' w2):=fun w' H=>jD 1 X wx w0 g h qs a c ic k w' H hc hkk (fun x=>(h2 x).2) e2
   clear H hs hb hc hk h2 eT e1 e2 hm eh hkk
   go_enter func245,ntmps245
   go_wp2
   refine wp_region_held_drew (S:=fun w'=>κ w' a.q 0 (π g.hb 0)/\κ w' w.heap.size 2 (ι ib)/\κ w' w.heap.size 3 (ι ic)/\κ w' w.heap.size 4 (ι ii)) (by kernel_rfl) ?_ (fun aa=>?_)
   ·exact ⟨z0.o,z1.o.1,z1.o.2.1,z1.o.2.2⟩
   iterate 15 (refine tn rfl (by kernel_rfl) (fun _ _ _ h=>h) (by intro _ h;go_split_ands;go_simp<;>with_reducible rfl) aa ?_;try simp only [aZ])
   refine aY (i:=11) (by kernel_rfl) rfl fun K hK=>?_
   go_simp
   go_at_call 132
   refine (jB.o _ (HH.o.bl (HB.o.drew))).mono ?_
   rintro e w1 ⟨rfl,b1⟩
   have jO:=ae (b1.cell aa.1)
   have kh:=ae (b1.cell aa.2.1)
   have nS:=ae (b1.cell aa.2.2.1)
   have GM:=ae (b1.cell aa.2.2.2)
   replace b1:=ae b1
   go_wp2_with fail
   refine hK.out _ _ (⟨jO.o,kh.o,nS.o,GM.o⟩) (fun ah=>?_)
   try simp only [aZ]
   refine aY (i:=16) (by kernel_rfl) rfl fun K hK=>?_
   go_simp
   go_at_call 132
   refine (pP.o _ (HH.o.bl (HB.o.drew.trans b1.o))).mono ?_
   rintro e w2 ⟨rfl,b2⟩
   exact ⟨rfl,fC (aF HS.o).1 rfl (HH.o.bl ((HB.o.drew.trans b1.o).trans b2)).rs⟩
 ·have hm:eU (c.rd ib) (c.rd ic) k=false:=by unfold eU;simp [e1]
  have eh:h.reckH (c.rd ib) (c.rd ic) k ii=h.fin 6:=by unfold Hp.reckH Hp.mustB;rw [hm,Bool.false_and,if_neg (by decide),iO rfl]
  rw [eh]
  generalize h.reckV (c.rd ib) (c.rd ic) k ii=V
  have jB:Θ (∀w',RX 1 X wx w0 g w' h qs a c->χ 132 #[π a.q 0,ι ib,ι k] w' fun e w2=>e=bF 6 0 0/\Bl w' w2):=fun w' H=>jD 1 X wx w0 g h qs a c ib k w' H hb hkk (fun x=>(h2 x).1) e1
  clear H hs hb hc hk h2 eT e1 hm eh hkk
  go_enter func245,ntmps245
  go_wp2
  refine wp_region_held_drew (S:=fun w'=>κ w' a.q 0 (π g.hb 0)/\κ w' w.heap.size 2 (ι ib)/\κ w' w.heap.size 3 (ι ic)/\κ w' w.heap.size 4 (ι ii)) (by kernel_rfl) ?_ (fun aa=>?_)
  ·exact ⟨z0.o,z1.o.1,z1.o.2.1,z1.o.2.2⟩
  iterate 15 (refine tn rfl (by kernel_rfl) (fun _ _ _ h=>h) (by intro _ h;go_split_ands;go_simp<;>with_reducible rfl) aa ?_;try simp only [aZ])
  refine aY (i:=11) (by kernel_rfl) rfl fun K hK=>?_
  go_simp
  go_at_call 132
  refine (jB.o _ (HH.o.bl (HB.o.drew))).mono ?_
  rintro e w1 ⟨rfl,b1⟩
  exact ⟨rfl,fC (aF HS.o).1 rfl (HH.o.bl (HB.o.drew.trans b1)).rs⟩
end
section
open Go.Maps (Keyed has)
section
variable (X:Nat->Prop) (wx w0:World) (g:Mg) (h:Hp)
theorem zO (qs:List Qb) (a:Mc) (c:aL) (ia ib ic ii:Int) (args:List Int) (Q:Option Addr) (nl q:Nat) (w:World) (H:RX 1 X wx w0 g w h qs a c) (hs:h.stops=false) (hb:0<=ib/\ib<c.locs.length) (hc:0<=ic/\ic<c.locs.length) (eT:h.objs.length<=100) :
  χ 231 #[π a.q 0,.agg #[ι 5,ι ia,ι ib,ι ic,ι ii,.slice Q nl q]] w fun e w'=>cM X wx w0 g qs a c (h.reckH (c.rd ib) (c.rd ic) 1 ii) (h.reckV (c.rd ib) (c.rd ic) 1 ii) e w':=by
 have ho:=(aF hs).1
 have HH:=ae H
 have HS:=ae hs
 have hq:=H.qlt
 obtain ⟨L0,L1⟩:=bc w #[ι 5,ι ia,ι ib,ι ic,ι ii,.slice Q nl q] #[ι 0,ι 0] 55 98
 have HB:Θ (Bl w ((w.alloc (.cells #[ι 5,ι ia,ι ib,ι ic,ι ii,.slice Q nl q] 55)).alloc fa)):=((Bl.refl w).alloc _).alloc _
 have dK:=ae L0
 have ey:=ae L1
 have ig:w.heap.size≠a.q:=by omega
 have fT:w.heap.size+1≠a.q:=by omega
 have lj:w.heap.size≠w.heap.size+1:=by omega
 clear L0 L1
 rcases fY (fun X wx w H=>pF 5 X wx w0 g h qs a c ia ib ic ii args Q nl q w H hs 1 hb hc (Or.inl rfl) (fun x=>by omega) eT) with ⟨ch,st,HC⟩|⟨st,HC⟩
 ·replace HC:=ae HC
  have HE:Θ (∀w',RS 1 X wx w0 g w' (h.reckH (c.rd ib) (c.rd ic) 1 ii) qs a c->cM X wx w0 g qs a c (h.reckH (c.rd ib) (c.rd ic) 1 ii) (h.reckV (c.rd ib) (c.rd ic) 1 ii) (.panicked ch) w'):=fun w' H=>jh st.1 st.2 H
  clear H hs st hb hc eT
  go_enter func231,ntmps231
  go_wp2_with (go_at_call 245;refine (HH.o.y.useN HB.o HC.o).mono ?_;rintro e w1 ⟨rfl,H1⟩;replace H1:=ae H1)
  exact ⟨rfl,HE.o _ H1.o⟩
 ·replace HC:=ae HC
  have HE:Θ (∀w',RX 1 X wx w0 g w' (h.reckH (c.rd ib) (c.rd ic) 1 ii) qs a c->cM X wx w0 g qs a c (h.reckH (c.rd ib) (c.rd ic) 1 ii) (h.reckV (c.rd ib) (c.rd ic) 1 ii) (.returned (cm (im (h.reckV (c.rd ib) (c.rd ic) 1 ii)))) w'):=fun w' H=>ea st rfl H
  clear H hs st hb hc eT
  go_enter func231,ntmps231
  go_wp2_with (go_at_call 245;refine (HH.o.y.useY HB.o HC.o).mono ?_;rintro e w1 ⟨rfl,H1,K1⟩;have q1:=K1.at (Xp.new (Nat.le_succ _) (dg w _ _)) ey.o;have c4:=aO q1;have c5:=aJ q1;have fz:=aA q1;clear K1;replace H1:=ae H1;replace q1:=ae q1)
  refine bodyPost_ret (results_cell_row rfl _ _ (w.heap.size+1) _ _ _ _ rfl (ba q1.o) underlying98 rfl au) rfl ?_
  refine HE.o _ (dz.x (dz.set (dz.set H1.o ?_ 0 _) ?_ 1 _))<;>exact (Xp.new (Nat.le_succ _) (dg w _ _))
theorem zP (qs:List Qb) (a:Mc) (c:aL) (ia ib ic ii:Int) (args:List Int) (Q:Option Addr) (nl q:Nat) (w:World) (H:RX 1 X wx w0 g w h qs a c) (hs:h.stops=false) (hb:0<=ib/\ib<c.locs.length) (hc:0<=ic/\ic<c.locs.length) (eT:h.objs.length<=100) (h2:ib+1<c.locs.length/\ic+1<c.locs.length) :
  χ 231 #[π a.q 0,.agg #[ι 6,ι ia,ι ib,ι ic,ι ii,.slice Q nl q]] w fun e w'=>cM X wx w0 g qs a c (h.reckH (c.rd ib) (c.rd ic) 2 ii) (h.reckV (c.rd ib) (c.rd ic) 2 ii) e w':=by
 have ho:=(aF hs).1
 have HH:=ae H
 have HS:=ae hs
 have hq:=H.qlt
 obtain ⟨L0,L1⟩:=bc w #[ι 6,ι ia,ι ib,ι ic,ι ii,.slice Q nl q] #[ι 0,ι 0] 55 98
 have HB:Θ (Bl w ((w.alloc (.cells #[ι 6,ι ia,ι ib,ι ic,ι ii,.slice Q nl q] 55)).alloc fa)):=((Bl.refl w).alloc _).alloc _
 have dK:=ae L0
 have ey:=ae L1
 have ig:w.heap.size≠a.q:=by omega
 have fT:w.heap.size+1≠a.q:=by omega
 have lj:w.heap.size≠w.heap.size+1:=by omega
 clear L0 L1
 rcases fY (fun X wx w H=>pF 6 X wx w0 g h qs a c ia ib ic ii args Q nl q w H hs 2 hb hc (Or.inr rfl) (fun x=>h2) eT) with ⟨ch,st,HC⟩|⟨st,HC⟩
 ·replace HC:=ae HC
  have HE:Θ (∀w',RS 1 X wx w0 g w' (h.reckH (c.rd ib) (c.rd ic) 2 ii) qs a c->cM X wx w0 g qs a c (h.reckH (c.rd ib) (c.rd ic) 2 ii) (h.reckV (c.rd ib) (c.rd ic) 2 ii) (.panicked ch) w'):=fun w' H=>jh st.1 st.2 H
  clear H hs st hb hc eT h2
  go_enter func231,ntmps231
  go_wp2_with (go_at_call 245;refine (HH.o.y.useN HB.o HC.o).mono ?_;rintro e w1 ⟨rfl,H1⟩;replace H1:=ae H1)
  exact ⟨rfl,HE.o _ H1.o⟩
 ·replace HC:=ae HC
  have HE:Θ (∀w',RX 1 X wx w0 g w' (h.reckH (c.rd ib) (c.rd ic) 2 ii) qs a c->cM X wx w0 g qs a c (h.reckH (c.rd ib) (c.rd ic) 2 ii) (h.reckV (c.rd ib) (c.rd ic) 2 ii) (.returned (cm (im (h.reckV (c.rd ib) (c.rd ic) 2 ii)))) w'):=fun w' H=>ea st rfl H
  clear H hs st hb hc eT h2
  go_enter func231,ntmps231
  go_wp2_with (go_at_call 245;refine (HH.o.y.useY HB.o HC.o).mono ?_;rintro e w1 ⟨rfl,H1,K1⟩;have q1:=K1.at (Xp.new (Nat.le_succ _) (dg w _ _)) ey.o;have c4:=aO q1;have c5:=aJ q1;have fz:=aA q1;clear K1;replace H1:=ae H1;replace q1:=ae q1)
  refine bodyPost_ret (results_cell_row rfl _ _ (w.heap.size+1) _ _ _ _ rfl (ba q1.o) underlying98 rfl au) rfl ?_
  refine HE.o _ (dz.x (dz.set (dz.set H1.o ?_ 0 _) ?_ 1 _))<;>exact (Xp.new (Nat.le_succ _) (dg w _ _))
theorem zQ (qs:List Qb) (a:Mc) (c:aL) (ia ib ic ii:Int) (args:List Int) (Q:Option Addr) (nl q:Nat) (w:World) (H:RX 1 X wx w0 g w h qs a c) (hs:h.stops=false) (hb:0<=ib/\ib<c.locs.length) :
  χ 231 #[π a.q 0,.agg #[ι 7,ι ia,ι ib,ι ic,ι ii,.slice Q nl q]] w fun e w'=>cM X wx w0 g qs a c (h.rdH c ib 1) ⟨2,(c.rd ib).n⟩ e w':=by
 have ho:=(aF hs).1
 have HH:=ae H
 have HS:=ae hs
 have hq:=H.qlt
 obtain ⟨L0,L1⟩:=bc w #[ι 7,ι ia,ι ib,ι ic,ι ii,.slice Q nl q] #[ι 0,ι 0] 55 98
 have HB:Θ (Bl w ((w.alloc (.cells #[ι 7,ι ia,ι ib,ι ic,ι ii,.slice Q nl q] 55)).alloc fa)):=((Bl.refl w).alloc _).alloc _
 have dK:=ae L0
 have ey:=ae L1
 have ig:w.heap.size≠a.q:=by omega
 have fT:w.heap.size+1≠a.q:=by omega
 have lj:w.heap.size≠w.heap.size+1:=by omega
 clear L0 L1
 by_cases e1:(c.rd ib).kind=1
 ·rw [de e1]
  have i1:im (c.rd ib)=c.rd ib:=iy (by omega)
  have HR:Θ (∀w',RX 1 X wx w0 g w' h qs a c->χ 132 #[π a.q 0,ι ib,ι 1] w' fun e w2=>e=.returned (cm (im (c.rd ib)))/\Bl w' w2):=fun w' H=>fj 1 X wx w0 g h qs a c ib 1 w' H hb (by omega) (fun x=>by omega) e1
  rw [i1] at HR
  have Sz:=fun w=>kg (c.rd ib).kind (c.rd ib).n w
  have HE:Θ (∀w',RX 1 X wx w0 g w' h qs a c->cM X wx w0 g qs a c h ⟨2,(c.rd ib).n⟩ (.returned (cm ⟨2,(c.rd ib).n⟩)) w'):=fun w' H=>ea hs rfl H
  clear H hs hb e1 i1
  go_enter func231,ntmps231
  go_wp2_with (first
   | (go_at_call 132;refine (HR.o _ (HH.o.bl HB.o)).mono ?_;rintro e w1 ⟨rfl,b1⟩;have q1:=ax b1 ey.o;have c4:=aO q1;have c5:=aJ q1;have fz:=aA q1;replace q1:=ae q1;replace b1:=ae b1)
   | (go_at_call 100;refine (jY (c.rd ib).n _).mono ?_;rintro e w2 ⟨rfl,b2⟩;replace q1:=ae (ax b2 q1.o);clear c4 c5 fz;have c4:=aO q1.o;have c5:=aJ q1.o;have fz:=aA q1.o;replace b2:=ae b2))
  refine bodyPost_ret (results_cell_row rfl _ _ (w.heap.size+1) _ _ _ _ rfl (ba q1.o) underlying98 rfl au) rfl ?_
  exact HE.o _ (HH.o.bl (cT ((HB.o.trans b1.o).trans b2.o) (by omega) _ _))
 ·rw [fO e1]
  have HR:Θ (∀w',RX 1 X wx w0 g w' h qs a c->χ 132 #[π a.q 0,ι ib,ι 1] w' fun e w2=>e=bF 6 0 0/\Bl w' w2):=fun w' H=>jD 1 X wx w0 g h qs a c ib 1 w' H hb (by omega) (fun x=>by omega) e1
  clear H hs hb e1
  go_enter func231,ntmps231
  go_wp2_with (go_at_call 132;refine (HR.o _ (HH.o.bl HB.o)).mono ?_;rintro e w1 ⟨rfl,b1⟩;replace b1:=ae b1)
  exact ⟨rfl,fC (aF HS.o).1 rfl (HH.o.bl (HB.o.trans b1.o)).rs⟩
theorem zR (qs:List Qb) (a:Mc) (c:aL) (ia ib ic ii:Int) (args:List Int) (Q:Option Addr) (nl q:Nat) (w:World) (H:RX 1 X wx w0 g w h qs a c) (hs:h.stops=false) (hb:0<=ib/\ib<c.locs.length) (h2:ib+1<c.locs.length) :
  χ 231 #[π a.q 0,.agg #[ι 8,ι ia,ι ib,ι ic,ι ii,.slice Q nl q]] w fun e w'=>cM X wx w0 g qs a c (h.rdH c ib 2) ⟨1,wrap32 (c.rd ib).n⟩ e w':=by
 have ho:=(aF hs).1
 have HH:=ae H
 have HS:=ae hs
 have hq:=H.qlt
 obtain ⟨L0,L1⟩:=bc w #[ι 8,ι ia,ι ib,ι ic,ι ii,.slice Q nl q] #[ι 0,ι 0] 55 98
 have HB:Θ (Bl w ((w.alloc (.cells #[ι 8,ι ia,ι ib,ι ic,ι ii,.slice Q nl q] 55)).alloc fa)):=((Bl.refl w).alloc _).alloc _
 have dK:=ae L0
 have ey:=ae L1
 have ig:w.heap.size≠a.q:=by omega
 have fT:w.heap.size+1≠a.q:=by omega
 have lj:w.heap.size≠w.heap.size+1:=by omega
 clear L0 L1
 by_cases e1:(c.rd ib).kind=2
 ·rw [de e1]
  have i1:im (c.rd ib)=c.rd ib:=iy (by omega)
  have HR:Θ (∀w',RX 1 X wx w0 g w' h qs a c->χ 132 #[π a.q 0,ι ib,ι 2] w' fun e w2=>e=.returned (cm (im (c.rd ib)))/\Bl w' w2):=fun w' H=>fj 1 X wx w0 g h qs a c ib 2 w' H hb (by omega) (fun x=>h2) e1
  rw [i1] at HR
  have Sz:=fun w=>kg (c.rd ib).kind (c.rd ib).n w
  have HE:Θ (∀w',RX 1 X wx w0 g w' h qs a c->cM X wx w0 g qs a c h ⟨1,wrap32 (c.rd ib).n⟩ (.returned (cm ⟨1,wrap32 (c.rd ib).n⟩)) w'):=fun w' H=>ea hs rfl H
  clear H hs hb h2 e1 i1
  go_enter func231,ntmps231
  go_wp2_with (first
   | (go_at_call 132;refine (HR.o _ (HH.o.bl HB.o)).mono ?_;rintro e w1 ⟨rfl,b1⟩;have q1:=ax b1 ey.o;have c4:=aO q1;have c5:=aJ q1;have fz:=aA q1;replace q1:=ae q1;replace b1:=ae b1)
   | (go_at_call 102;refine (kB (c.rd ib).n _).mono ?_;rintro e w2 ⟨rfl,hw⟩;rw [hw];clear hw w2)
   | (go_at_call 101;refine (jX (wrap32 (c.rd ib).n) _).mono ?_;rintro e w2 ⟨rfl,b2⟩;replace q1:=ae (ax b2 q1.o);clear c4 c5 fz;have c4:=aO q1.o;have c5:=aJ q1.o;have fz:=aA q1.o;replace b2:=ae b2))
  refine bodyPost_ret (results_cell_row rfl _ _ (w.heap.size+1) _ _ _ _ rfl (ba q1.o) underlying98 rfl au) rfl ?_
  exact HE.o _ (HH.o.bl (cT ((HB.o.trans b1.o).trans b2.o) (by omega) _ _))
 ·rw [fO e1]
  have HR:Θ (∀w',RX 1 X wx w0 g w' h qs a c->χ 132 #[π a.q 0,ι ib,ι 2] w' fun e w2=>e=bF 6 0 0/\Bl w' w2):=fun w' H=>jD 1 X wx w0 g h qs a c ib 2 w' H hb (by omega) (fun x=>h2) e1
  clear H hs hb h2 e1
  go_enter func231,ntmps231
  go_wp2_with (go_at_call 132;refine (HR.o _ (HH.o.bl HB.o)).mono ?_;rintro e w1 ⟨rfl,b1⟩;replace b1:=ae b1)
  exact ⟨rfl,fC (aF HS.o).1 rfl (HH.o.bl (HB.o.trans b1.o)).rs⟩
theorem zS (qs:List Qb) (a:Mc) (c:aL) (ia ib ic ii:Int) (args:List Int) (Q:Option Addr) (nl q:Nat) (w:World) (H:RX 1 X wx w0 g w h qs a c) (hs:h.stops=false) (hb:0<=ib/\ib<c.locs.length) (hc:0<=ic/\ic<c.locs.length) (h2:ib+1<c.locs.length/\ic+1<c.locs.length) :
  χ 231 #[π a.q 0,.agg #[ι 9,ι ia,ι ib,ι ic,ι ii,.slice Q nl q]] w fun e w'=>cM X wx w0 g qs a c ((h.rdH c ib 2).rdH c ic 2) ⟨1,kX (c.rd ib).n (c.rd ic).n⟩ e w':=by
 have ho:=(aF hs).1
 have HH:=ae H
 have HS:=ae hs
 have hq:=H.qlt
 obtain ⟨L0,L1⟩:=bc w #[ι 9,ι ia,ι ib,ι ic,ι ii,.slice Q nl q] #[ι 0,ι 0] 55 98
 have HB:Θ (Bl w ((w.alloc (.cells #[ι 9,ι ia,ι ib,ι ic,ι ii,.slice Q nl q] 55)).alloc fa)):=((Bl.refl w).alloc _).alloc _
 have dK:=ae L0
 have ey:=ae L1
 have ig:w.heap.size≠a.q:=by omega
 have fT:w.heap.size+1≠a.q:=by omega
 have lj:w.heap.size≠w.heap.size+1:=by omega
 clear L0 L1
 have z0:=ae (H.y.bl HB.o).hb
 have z1:=ae (And.intro (dr dK.o).2.2.1 (And.intro (dr dK.o).2.2.2.1 (dr dK.o).2.2.2.2.1))
 by_cases e1:(c.rd ib).kind=2
 ·rw [de e1]
  by_cases e2:(c.rd ic).kind=2
  ·rw [de e2]
   have i1:im (c.rd ib)=c.rd ib:=iy (by omega)
   have i2:im (c.rd ic)=c.rd ic:=iy (by omega)
   have jB:Θ (∀w',RX 1 X wx w0 g w' h qs a c->χ 132 #[π a.q 0,ι ib,ι 2] w' fun e w2=>e=.returned (cm (im (c.rd ib)))/\Bl w' w2):=fun w' H=>fj 1 X wx w0 g h qs a c ib 2 w' H hb (by omega) (fun x=>h2.1) e1
   have pP:Θ (∀w',RX 1 X wx w0 g w' h qs a c->χ 132 #[π a.q 0,ι ic,ι 2] w' fun e w2=>e=.returned (cm (im (c.rd ic)))/\Bl w' w2):=fun w' H=>fj 1 X wx w0 g h qs a c ic 2 w' H hc (by omega) (fun x=>h2.2) e2
   rw [i1] at jB
   rw [i2] at pP
   have Sz:=fun w=>kg (c.rd ib).kind (c.rd ib).n w
   have Zb:=fun w=>kg (c.rd ic).kind (c.rd ic).n w
   have HE:Θ (∀w',RX 1 X wx w0 g w' h qs a c->cM X wx w0 g qs a c h ⟨1,kX (c.rd ib).n (c.rd ic).n⟩ (.returned (cm ⟨1,kX (c.rd ib).n (c.rd ic).n⟩)) w'):=fun w' H=>ea hs rfl H
   clear H hs hb hc h2 e1 e2 i1 i2
   go_enter func231,ntmps231
   go_wp2
   refine wp_region_held_drew (S:=fun w'=>κ w' w.heap.size 2 (ι ib)/\κ w' w.heap.size 3 (ι ic)) (by kernel_rfl) ?_ (fun aa=>?_)
   ·exact ⟨z1.o.1,z1.o.2.1⟩
   iterate 6 (refine tn rfl (by kernel_rfl) (fun _ _ _ h=>h) (by intro _ h;go_split_ands;go_simp<;>with_reducible rfl) aa ?_;try simp only [aZ])
   refine aY (i:=3) (by kernel_rfl) rfl fun K hK=>?_
   go_simp
   go_at_call 132
   refine (jB.o _ (HH.o.bl (HB.o.drew))).mono ?_
   rintro e w1 ⟨rfl,b1⟩
   have jO:=ae (b1.cell aa.1)
   have kh:=ae (b1.cell aa.2)
   replace b1:=ae b1
   go_wp2_with fail
   refine hK.out _ _ (⟨jO.o,kh.o⟩) (fun ah=>?_)
   try simp only [aZ]
   refine tn rfl (by kernel_rfl) (fun _ _ _ h=>h) (by intro _ h;go_split_ands;go_simp<;>with_reducible rfl) ah ?_
   try simp only [aZ]
   refine aY (i:=8) (by kernel_rfl) rfl fun K hK=>?_
   go_simp
   go_at_call 132
   refine (pP.o _ (HH.o.bl (HB.o.drew.trans b1.o))).mono ?_
   rintro e w2 ⟨rfl,b2⟩
   have oW:=ae (b2.cell ah.1)
   have rH:=ae (b2.cell ah.2)
   replace b2:=ae b2
   go_wp2_with fail
   refine hK.out _ _ (⟨oW.o,rH.o⟩) (fun aH=>?_)
   try simp only [aZ]
   refine tn rfl (by kernel_rfl) (fun _ _ _ h=>h) (by intro _ h;go_split_ands;go_simp<;>with_reducible rfl) aH ?_
   try simp only [aZ]
   refine aY (i:=10) (by kernel_rfl) rfl fun K hK=>?_
   go_simp
   go_at_call 195
   refine (J6 (c.rd ib).n (c.rd ic).n _).mono ?_
   rintro e w3 ⟨rfl,hw⟩
   rw [hw]
   clear hw w3
   go_wp2_with fail
   refine hK.out _ _ (aH) (fun bG=>?_)
   try simp only [aZ]
   refine aY (i:=11) (by kernel_rfl) rfl fun K hK=>?_
   go_simp
   go_at_call 101
   refine (jX (kX (c.rd ib).n (c.rd ic).n) _).mono ?_
   rintro e w4 ⟨rfl,b4⟩
   have GN:=ae (b4.cell bG.1)
   have GO:=ae (b4.cell bG.2)
   replace b4:=ae b4
   have bb:=ae (((HB.o.drew.trans b1.o).trans b2.o).trans b4.o)
   have q1:=ax ((b1.o.trans b2.o).trans b4.o) ey.o
   have c4:=aO q1
   have c5:=aJ q1
   have fz:=aA q1
   replace q1:=ae q1
   go_wp2_with fail
   refine hK.out _ _ (⟨GN.o,GO.o⟩) (fun bd=>?_)
   try simp only [aZ]
   refine aY (i:=12) (by kernel_rfl) rfl fun K hK=>?_
   go_wp2_with fail
   refine hK.out _ _ (⟨aD GN.o lj,aD GO.o lj⟩) (fun cQ=>?_)
   try simp only [aZ]
   refine wpAnyH_done (by kernel_rfl) ?_ _
   go_wp2
   refine bodyPost_ret (results_cell_row rfl _ _ (w.heap.size+1) _ _ _ _ rfl (ba q1.o) underlying98 rfl au) rfl ?_
   exact HE.o _ (HH.o.bl (cT bb.o (by omega) _ _))
  ·rw [fO e2]
   have jB:Θ (∀w',RX 1 X wx w0 g w' h qs a c->χ 132 #[π a.q 0,ι ib,ι 2] w' fun e w2=>e=.returned (cm (im (c.rd ib)))/\Bl w' w2):=fun w' H=>fj 1 X wx w0 g h qs a c ib 2 w' H hb (by omega) (fun x=>h2.1) e1
   have pP:Θ (∀w',RX 1 X wx w0 g w' h qs a c->χ 132 #[π a.q 0,ι ic,ι 2] w' fun e w2=>e=bF 6 0 0/\Bl w' w2):=fun w' H=>jD 1 X wx w0 g h qs a c ic 2 w' H hc (by omega) (fun x=>h2.2) e2
   have i1:im (c.rd ib)=c.rd ib:=iy (by omega)
   rw [i1] at jB
   have Sz:=fun w=>kg (c.rd ib).kind (c.rd ib).n w
   clear H hs hb hc h2 e1 e2 i1
   go_enter func231,ntmps231
   go_wp2
   refine wp_region_held_drew (S:=fun w'=>κ w' w.heap.size 2 (ι ib)/\κ w' w.heap.size 3 (ι ic)) (by kernel_rfl) ?_ (fun aa=>?_)
   ·exact ⟨z1.o.1,z1.o.2.1⟩
   iterate 6 (refine tn rfl (by kernel_rfl) (fun _ _ _ h=>h) (by intro _ h;go_split_ands;go_simp<;>with_reducible rfl) aa ?_;try simp only [aZ])
   refine aY (i:=3) (by kernel_rfl) rfl fun K hK=>?_
   go_simp
   go_at_call 132
   refine (jB.o _ (HH.o.bl (HB.o.drew))).mono ?_
   rintro e w1 ⟨rfl,b1⟩
   have jO:=ae (b1.cell aa.1)
   have kh:=ae (b1.cell aa.2)
   replace b1:=ae b1
   go_wp2_with fail
   refine hK.out _ _ (⟨jO.o,kh.o⟩) (fun ah=>?_)
   try simp only [aZ]
   refine tn rfl (by kernel_rfl) (fun _ _ _ h=>h) (by intro _ h;go_split_ands;go_simp<;>with_reducible rfl) ah ?_
   try simp only [aZ]
   refine aY (i:=8) (by kernel_rfl) rfl fun K hK=>?_
   go_simp
   go_at_call 132
   refine (pP.o _ (HH.o.bl (HB.o.drew.trans b1.o))).mono ?_
   rintro e w2 ⟨rfl,b2⟩
   exact ⟨rfl,fC (aF HS.o).1 rfl (HH.o.bl ((HB.o.drew.trans b1.o).trans b2)).rs⟩
 ·rw [fO e1]
  have e3:(h.fin 6).rdH c ic 2=h.fin 6:=by
   unfold Hp.rdH Hp.must
   split
   ·rfl
   ·have cY:=(ml ho 6).1
    show (h.fin 6).fin 6=h.fin 6
    rw [show (h.fin 6).fin 6=(if (h.fin 6).over=true then h.fin 6 else _) from rfl,if_pos cY]
  rw [e3]
  have jB:Θ (∀w',RX 1 X wx w0 g w' h qs a c->χ 132 #[π a.q 0,ι ib,ι 2] w' fun e w2=>e=bF 6 0 0/\Bl w' w2):=fun w' H=>jD 1 X wx w0 g h qs a c ib 2 w' H hb (by omega) (fun x=>h2.1) e1
  clear H hs hb hc h2 e1 e3
  go_enter func231,ntmps231
  go_wp2
  refine wp_region_held_drew (S:=fun w'=>κ w' w.heap.size 2 (ι ib)/\κ w' w.heap.size 3 (ι ic)) (by kernel_rfl) ?_ (fun aa=>?_)
  ·exact ⟨z1.o.1,z1.o.2.1⟩
  iterate 6 (refine tn rfl (by kernel_rfl) (fun _ _ _ h=>h) (by intro _ h;go_split_ands;go_simp<;>with_reducible rfl) aa ?_;try simp only [aZ])
  refine aY (i:=3) (by kernel_rfl) rfl fun K hK=>?_
  go_simp
  go_at_call 132
  refine (jB.o _ (HH.o.bl (HB.o.drew))).mono ?_
  rintro e w1 ⟨rfl,b1⟩
  exact ⟨rfl,fC (aF HS.o).1 rfl (HH.o.bl (HB.o.drew.trans b1)).rs⟩
end
end
section
open Go.Maps (Keyed has)
section
variable (X:Nat->Prop) (wx w0:World) (g:Mg) (h:Hp)
theorem Dn (qs:List Qb) (a:Mc) (c:aL) (ia ib ic ii:Int) (args:List Int) (Q:Option Addr) (nl q:Nat) (w:World) (H:RX 1 X wx w0 g w h qs a c) (hs:h.stops=false) :
  χ 188 #[π a.q 0,.agg #[ι 1,ι ia,ι ib,ι ic,ι ii,.slice Q nl q]] w fun e w'=>cM X wx w0 g qs a c (cy h c ⟨1,ia,ib,ic,ii,args⟩) (bR h c ⟨1,ia,ib,ic,ii,args⟩) e w':=by
 have ho:=(aF hs).1
 have HH:=ae H
 have HS:=ae hs
 have hq:=H.qlt
 obtain ⟨L0,L1⟩:=bc w #[ι 1,ι ia,ι ib,ι ic,ι ii,.slice Q nl q] #[ι 0,ι 0] 55 98
 have HB:Θ (Bl w ((w.alloc (.cells #[ι 1,ι ia,ι ib,ι ic,ι ii,.slice Q nl q] 55)).alloc fa)):=((Bl.refl w).alloc _).alloc _
 have dK:=ae L0
 have ey:=ae L1
 have ig:w.heap.size≠a.q:=by omega
 have fT:w.heap.size+1≠a.q:=by omega
 have lj:w.heap.size≠w.heap.size+1:=by omega
 clear L0 L1
 have eH:cy h c ⟨1,ia,ib,ic,ii,args⟩=h:=by simp [cy,givesH]
 have eV:bR h c ⟨1,ia,ib,ic,ii,args⟩=⟨1,ii⟩:=by simp [bR,aG]
 rw [eH,eV]
 clear eH eV
 have HE:Θ (∀w',RX 1 X wx w0 g w' h qs a c->cM X wx w0 g qs a c h ⟨1,ii⟩ (.returned (cm ⟨1,ii⟩)) w'):=fun w' H=>ea hs rfl H
 clear H hs
 go_enter func188,ntmps188
 go_wp2_with (go_at_call 101;refine (jX ii _).mono ?_;rintro e w1 ⟨rfl,b1⟩;have q1:=ax b1 ey.o;have c4:=aO q1;have c5:=aJ q1;have fz:=aA q1;replace q1:=ae q1;replace b1:=ae b1)
 refine bodyPost_ret (results_cell_row rfl _ _ (w.heap.size+1) _ _ _ _ rfl (ba q1.o) underlying98 rfl au) rfl ?_
 exact HE.o _ (HH.o.bl (cT (HB.o.trans b1.o) (by omega) _ _))
theorem Dp (qs:List Qb) (a:Mc) (c:aL) (ia ib ic ii:Int) (args:List Int) (Q:Option Addr) (nl q:Nat) (w:World) (H:RX 1 X wx w0 g w h qs a c) (hs:h.stops=false) :
  χ 188 #[π a.q 0,.agg #[ι 2,ι ia,ι ib,ι ic,ι ii,.slice Q nl q]] w fun e w'=>cM X wx w0 g qs a c (cy h c ⟨2,ia,ib,ic,ii,args⟩) (bR h c ⟨2,ia,ib,ic,ii,args⟩) e w':=by
 have ho:=(aF hs).1
 have HH:=ae H
 have HS:=ae hs
 have hq:=H.qlt
 obtain ⟨L0,L1⟩:=bc w #[ι 2,ι ia,ι ib,ι ic,ι ii,.slice Q nl q] #[ι 0,ι 0] 55 98
 have HB:Θ (Bl w ((w.alloc (.cells #[ι 2,ι ia,ι ib,ι ic,ι ii,.slice Q nl q] 55)).alloc fa)):=((Bl.refl w).alloc _).alloc _
 have dK:=ae L0
 have ey:=ae L1
 have ig:w.heap.size≠a.q:=by omega
 have fT:w.heap.size+1≠a.q:=by omega
 have lj:w.heap.size≠w.heap.size+1:=by omega
 clear L0 L1
 have eH:cy h c ⟨2,ia,ib,ic,ii,args⟩=h:=by simp [cy,givesH]
 have eV:bR h c ⟨2,ia,ib,ic,ii,args⟩=⟨2,ii⟩:=by simp [bR,aG]
 rw [eH,eV]
 clear eH eV
 have HE:Θ (∀w',RX 1 X wx w0 g w' h qs a c->cM X wx w0 g qs a c h ⟨2,ii⟩ (.returned (cm ⟨2,ii⟩)) w'):=fun w' H=>ea hs rfl H
 clear H hs
 go_enter func188,ntmps188
 go_wp2_with (go_at_call 100;refine (jY ii _).mono ?_;rintro e w1 ⟨rfl,b1⟩;have q1:=ax b1 ey.o;have c4:=aO q1;have c5:=aJ q1;have fz:=aA q1;replace q1:=ae q1;replace b1:=ae b1)
 refine bodyPost_ret (results_cell_row rfl _ _ (w.heap.size+1) _ _ _ _ rfl (ba q1.o) underlying98 rfl au) rfl ?_
 exact HE.o _ (HH.o.bl (cT (HB.o.trans b1.o) (by omega) _ _))
theorem Dq (qs:List Qb) (a:Mc) (c:aL) (ia ib ic ii:Int) (args:List Int) (Q:Option Addr) (nl q:Nat) (w:World) (H:RX 1 X wx w0 g w h qs a c) (hs:h.stops=false) :
  χ 188 #[π a.q 0,.agg #[ι 3,ι ia,ι ib,ι ic,ι ii,.slice Q nl q]] w fun e w'=>cM X wx w0 g qs a c (cy h c ⟨3,ia,ib,ic,ii,args⟩) (bR h c ⟨3,ia,ib,ic,ii,args⟩) e w':=by
 have ho:=(aF hs).1
 have HH:=ae H
 have HS:=ae hs
 have hq:=H.qlt
 obtain ⟨L0,L1⟩:=bc w #[ι 3,ι ia,ι ib,ι ic,ι ii,.slice Q nl q] #[ι 0,ι 0] 55 98
 have HB:Θ (Bl w ((w.alloc (.cells #[ι 3,ι ia,ι ib,ι ic,ι ii,.slice Q nl q] 55)).alloc fa)):=((Bl.refl w).alloc _).alloc _
 have dK:=ae L0
 have ey:=ae L1
 have ig:w.heap.size≠a.q:=by omega
 have fT:w.heap.size+1≠a.q:=by omega
 have lj:w.heap.size≠w.heap.size+1:=by omega
 clear L0 L1
 have eH:cy h c ⟨3,ia,ib,ic,ii,args⟩=h:=by simp [cy,givesH]
 have eV:bR h c ⟨3,ia,ib,ic,ii,args⟩=⟨3,-1⟩:=by simp [bR,aG]
 rw [eH,eV]
 clear eH eV
 have HE:Θ (∀w',RX 1 X wx w0 g w' h qs a c->cM X wx w0 g qs a c h ⟨3,-1⟩ (.returned (cm ⟨3,0⟩)) w'):=fun w' H=>ea hs rfl H
 clear H hs
 go_enter func188,ntmps188
 go_wp2_with (go_at_call 146;refine (pw _).mono ?_;rintro e w1 ⟨rfl,b1⟩;have q1:=ax b1 ey.o;have c4:=aO q1;have c5:=aJ q1;have fz:=aA q1;replace q1:=ae q1;replace b1:=ae b1)
 refine bodyPost_ret (results_cell_row rfl _ _ (w.heap.size+1) _ _ _ _ rfl (ba q1.o) underlying98 rfl au) rfl ?_
 exact HE.o _ (HH.o.bl (cT (HB.o.trans b1.o) (by omega) _ _))
theorem Dr (qs:List Qb) (a:Mc) (c:aL) (ia ib ic ii:Int) (args:List Int) (Q:Option Addr) (nl q:Nat) (w:World) (H:RX 1 X wx w0 g w h qs a c) (hs:h.stops=false) (hb:0<=ib/\ib<c.locs.length) (hk:1<=ic/\ic<=3) (h2:ic=2->ib+1<c.locs.length) :
  χ 188 #[π a.q 0,.agg #[ι 4,ι ia,ι ib,ι ic,ι ii,.slice Q nl q]] w fun e w'=>cM X wx w0 g qs a c (cy h c ⟨4,ia,ib,ic,ii,args⟩) (bR h c ⟨4,ia,ib,ic,ii,args⟩) e w':=by
 have ho:=(aF hs).1
 have HH:=ae H
 have HS:=ae hs
 have hq:=H.qlt
 obtain ⟨L0,L1⟩:=bc w #[ι 4,ι ia,ι ib,ι ic,ι ii,.slice Q nl q] #[ι 0,ι 0] 55 98
 have HB:Θ (Bl w ((w.alloc (.cells #[ι 4,ι ia,ι ib,ι ic,ι ii,.slice Q nl q] 55)).alloc fa)):=((Bl.refl w).alloc _).alloc _
 have dK:=ae L0
 have ey:=ae L1
 have ig:w.heap.size≠a.q:=by omega
 have fT:w.heap.size+1≠a.q:=by omega
 have lj:w.heap.size≠w.heap.size+1:=by omega
 clear L0 L1
 have eH:cy h c ⟨4,ia,ib,ic,ii,args⟩=h.rdH c ib ic:=by simp [cy,givesH]
 have eV:bR h c ⟨4,ia,ib,ic,ii,args⟩=c.rd ib:=by simp [bR,aG]
 rw [eH,eV]
 clear eH eV
 by_cases e1:(c.rd ib).kind=ic
 ·rw [de e1]
  have HR:Θ (∀w',RX 1 X wx w0 g w' h qs a c->χ 132 #[π a.q 0,ι ib,ι ic] w' fun e w2=>e=.returned (cm (im (c.rd ib)))/\Bl w' w2):=fun w' H=>fj 1 X wx w0 g h qs a c ib ic w' H hb hk h2 e1
  have HE:Θ (∀w',RX 1 X wx w0 g w' h qs a c->cM X wx w0 g qs a c h (c.rd ib) (.returned (cm (im (c.rd ib)))) w'):=fun w' H=>ea hs rfl H
  generalize im (c.rd ib)=U at *
  generalize c.rd ib=V at *
  clear H hs hb e1 hk h2
  go_enter func188,ntmps188
  go_wp2_with (go_at_call 132;refine (HR.o _ (HH.o.bl HB.o)).mono ?_;rintro e w1 ⟨rfl,b1⟩;have q1:=ax b1 ey.o;have c4:=aO q1;have c5:=aJ q1;have fz:=aA q1;replace q1:=ae q1;replace b1:=ae b1)
  refine bodyPost_ret (results_cell_row rfl _ _ (w.heap.size+1) _ _ _ _ rfl (ba q1.o) underlying98 rfl au) rfl ?_
  exact HE.o _ (HH.o.bl (cT (HB.o.trans b1.o) (by omega) _ _))
 ·rw [fO e1]
  have HR:Θ (∀w',RX 1 X wx w0 g w' h qs a c->χ 132 #[π a.q 0,ι ib,ι ic] w' fun e w2=>e=bF 6 0 0/\Bl w' w2):=fun w' H=>jD 1 X wx w0 g h qs a c ib ic w' H hb hk h2 e1
  generalize c.rd ib=V at *
  clear H hs hb e1 hk h2
  go_enter func188,ntmps188
  go_wp2_with (go_at_call 132;refine (HR.o _ (HH.o.bl HB.o)).mono ?_;rintro e w1 ⟨rfl,b1⟩;replace b1:=ae b1)
  exact ⟨rfl,fC (aF HS.o).1 rfl (HH.o.bl (HB.o.trans b1.o)).rs⟩
theorem Ds (qs:List Qb) (a:Mc) (c:aL) (ia ib ic ii:Int) (args:List Int) (Q:Option Addr) (nl q:Nat) (w:World) (H:RX 1 X wx w0 g w h qs a c) (hs:h.stops=false) (hb:0<=ib/\ib<c.locs.length) (hc:0<=ic/\ic<c.locs.length) (eT:h.objs.length<=100) :
  χ 188 #[π a.q 0,.agg #[ι 5,ι ia,ι ib,ι ic,ι ii,.slice Q nl q]] w fun e w'=>cM X wx w0 g qs a c (cy h c ⟨5,ia,ib,ic,ii,args⟩) (bR h c ⟨5,ia,ib,ic,ii,args⟩) e w':=by
 have ho:=(aF hs).1
 have HH:=ae H
 have HS:=ae hs
 have hq:=H.qlt
 obtain ⟨L0,L1⟩:=bc w #[ι 5,ι ia,ι ib,ι ic,ι ii,.slice Q nl q] #[ι 0,ι 0] 55 98
 have HB:Θ (Bl w ((w.alloc (.cells #[ι 5,ι ia,ι ib,ι ic,ι ii,.slice Q nl q] 55)).alloc fa)):=((Bl.refl w).alloc _).alloc _
 have dK:=ae L0
 have ey:=ae L1
 have ig:w.heap.size≠a.q:=by omega
 have fT:w.heap.size+1≠a.q:=by omega
 have lj:w.heap.size≠w.heap.size+1:=by omega
 clear L0 L1
 have eH:cy h c ⟨5,ia,ib,ic,ii,args⟩=(h.reckH (c.rd ib) (c.rd ic) 1 ii):=by simp [cy,givesH]
 have eV:bR h c ⟨5,ia,ib,ic,ii,args⟩=(h.reckV (c.rd ib) (c.rd ic) 1 ii):=by simp [bR,aG]
 rw [eH,eV]
 clear eH eV
 have rI:∀X wx w,RX 1 X wx w0 g w h qs a c->χ 231 #[π a.q 0,.agg #[ι 5,ι ia,ι ib,ι ic,ι ii,.slice Q nl q]] w fun e w2=>cM X wx w0 g qs a c (h.reckH (c.rd ib) (c.rd ic) 1 ii) (h.reckV (c.rd ib) (c.rd ic) 1 ii) e w2:=fun X wx w H=>zO X wx w0 g h qs a c ia ib ic ii args Q nl q w H hs hb hc eT
 generalize (h.reckH (c.rd ib) (c.rd ic) 1 ii)=HV at *
 generalize ((h.reckV (c.rd ib) (c.rd ic) 1 ii):Va)=VV at *
 rcases fY (fun X wx w H=>rI X wx w H) with ⟨ch,st,HC⟩|⟨st,HC⟩
 ·replace HC:=ae HC
  have HE:Θ (∀w',RS 1 X wx w0 g w' HV qs a c->cM X wx w0 g qs a c HV VV (.panicked ch) w'):=fun w' H=>jh st.1 st.2 H
  clear H hs st hb hc eT rI
  go_enter func188,ntmps188
  go_wp2_with (go_at_call 231;refine (HH.o.y.useN HB.o HC.o).mono ?_;rintro e w1 ⟨rfl,H1⟩;replace H1:=ae H1)
  exact ⟨rfl,HE.o _ H1.o⟩
 ·replace HC:=ae HC
  have HE:Θ (∀w',RX 1 X wx w0 g w' HV qs a c->cM X wx w0 g qs a c HV VV (.returned (cm (im VV))) w'):=fun w' H=>ea st rfl H
  clear H hs st hb hc eT rI
  go_enter func188,ntmps188
  go_wp2_with (go_at_call 231;refine (HH.o.y.useY HB.o HC.o).mono ?_;rintro e w1 ⟨rfl,H1,K1⟩;have q1:=K1.at (Xp.new (Nat.le_succ _) (dg w _ _)) ey.o;have c4:=aO q1;have c5:=aJ q1;have fz:=aA q1;clear K1;replace H1:=ae H1;replace q1:=ae q1)
  refine bodyPost_ret (results_cell_row rfl _ _ (w.heap.size+1) _ _ _ _ rfl (ba q1.o) underlying98 rfl au) rfl ?_
  refine HE.o _ (dz.x (dz.set (dz.set H1.o ?_ 0 _) ?_ 1 _))<;>exact (Xp.new (Nat.le_succ _) (dg w _ _))
theorem Dt (qs:List Qb) (a:Mc) (c:aL) (ia ib ic ii:Int) (args:List Int) (Q:Option Addr) (nl q:Nat) (w:World) (H:RX 1 X wx w0 g w h qs a c) (hs:h.stops=false) (hb:0<=ib/\ib<c.locs.length) (hc:0<=ic/\ic<c.locs.length) (eT:h.objs.length<=100) (h2:ib+1<c.locs.length/\ic+1<c.locs.length) :
  χ 188 #[π a.q 0,.agg #[ι 6,ι ia,ι ib,ι ic,ι ii,.slice Q nl q]] w fun e w'=>cM X wx w0 g qs a c (cy h c ⟨6,ia,ib,ic,ii,args⟩) (bR h c ⟨6,ia,ib,ic,ii,args⟩) e w':=by
 have ho:=(aF hs).1
 have HH:=ae H
 have HS:=ae hs
 have hq:=H.qlt
 obtain ⟨L0,L1⟩:=bc w #[ι 6,ι ia,ι ib,ι ic,ι ii,.slice Q nl q] #[ι 0,ι 0] 55 98
 have HB:Θ (Bl w ((w.alloc (.cells #[ι 6,ι ia,ι ib,ι ic,ι ii,.slice Q nl q] 55)).alloc fa)):=((Bl.refl w).alloc _).alloc _
 have dK:=ae L0
 have ey:=ae L1
 have ig:w.heap.size≠a.q:=by omega
 have fT:w.heap.size+1≠a.q:=by omega
 have lj:w.heap.size≠w.heap.size+1:=by omega
 clear L0 L1
 have eH:cy h c ⟨6,ia,ib,ic,ii,args⟩=(h.reckH (c.rd ib) (c.rd ic) 2 ii):=by simp [cy,givesH]
 have eV:bR h c ⟨6,ia,ib,ic,ii,args⟩=(h.reckV (c.rd ib) (c.rd ic) 2 ii):=by simp [bR,aG]
 rw [eH,eV]
 clear eH eV
 have rI:∀X wx w,RX 1 X wx w0 g w h qs a c->χ 231 #[π a.q 0,.agg #[ι 6,ι ia,ι ib,ι ic,ι ii,.slice Q nl q]] w fun e w2=>cM X wx w0 g qs a c (h.reckH (c.rd ib) (c.rd ic) 2 ii) (h.reckV (c.rd ib) (c.rd ic) 2 ii) e w2:=fun X wx w H=>zP X wx w0 g h qs a c ia ib ic ii args Q nl q w H hs hb hc eT h2
 generalize (h.reckH (c.rd ib) (c.rd ic) 2 ii)=HV at *
 generalize ((h.reckV (c.rd ib) (c.rd ic) 2 ii):Va)=VV at *
 rcases fY (fun X wx w H=>rI X wx w H) with ⟨ch,st,HC⟩|⟨st,HC⟩
 ·replace HC:=ae HC
  have HE:Θ (∀w',RS 1 X wx w0 g w' HV qs a c->cM X wx w0 g qs a c HV VV (.panicked ch) w'):=fun w' H=>jh st.1 st.2 H
  clear H hs st hb hc eT h2 rI
  go_enter func188,ntmps188
  go_wp2_with (go_at_call 231;refine (HH.o.y.useN HB.o HC.o).mono ?_;rintro e w1 ⟨rfl,H1⟩;replace H1:=ae H1)
  exact ⟨rfl,HE.o _ H1.o⟩
 ·replace HC:=ae HC
  have HE:Θ (∀w',RX 1 X wx w0 g w' HV qs a c->cM X wx w0 g qs a c HV VV (.returned (cm (im VV))) w'):=fun w' H=>ea st rfl H
  clear H hs st hb hc eT h2 rI
  go_enter func188,ntmps188
  go_wp2_with (go_at_call 231;refine (HH.o.y.useY HB.o HC.o).mono ?_;rintro e w1 ⟨rfl,H1,K1⟩;have q1:=K1.at (Xp.new (Nat.le_succ _) (dg w _ _)) ey.o;have c4:=aO q1;have c5:=aJ q1;have fz:=aA q1;clear K1;replace H1:=ae H1;replace q1:=ae q1)
  refine bodyPost_ret (results_cell_row rfl _ _ (w.heap.size+1) _ _ _ _ rfl (ba q1.o) underlying98 rfl au) rfl ?_
  refine HE.o _ (dz.x (dz.set (dz.set H1.o ?_ 0 _) ?_ 1 _))<;>exact (Xp.new (Nat.le_succ _) (dg w _ _))
theorem Dv (qs:List Qb) (a:Mc) (c:aL) (ia ib ic ii:Int) (args:List Int) (Q:Option Addr) (nl q:Nat) (w:World) (H:RX 1 X wx w0 g w h qs a c) (hs:h.stops=false) (hb:0<=ib/\ib<c.locs.length) :
  χ 188 #[π a.q 0,.agg #[ι 7,ι ia,ι ib,ι ic,ι ii,.slice Q nl q]] w fun e w'=>cM X wx w0 g qs a c (cy h c ⟨7,ia,ib,ic,ii,args⟩) (bR h c ⟨7,ia,ib,ic,ii,args⟩) e w':=by
 have ho:=(aF hs).1
 have HH:=ae H
 have HS:=ae hs
 have hq:=H.qlt
 obtain ⟨L0,L1⟩:=bc w #[ι 7,ι ia,ι ib,ι ic,ι ii,.slice Q nl q] #[ι 0,ι 0] 55 98
 have HB:Θ (Bl w ((w.alloc (.cells #[ι 7,ι ia,ι ib,ι ic,ι ii,.slice Q nl q] 55)).alloc fa)):=((Bl.refl w).alloc _).alloc _
 have dK:=ae L0
 have ey:=ae L1
 have ig:w.heap.size≠a.q:=by omega
 have fT:w.heap.size+1≠a.q:=by omega
 have lj:w.heap.size≠w.heap.size+1:=by omega
 clear L0 L1
 have eH:cy h c ⟨7,ia,ib,ic,ii,args⟩=(h.rdH c ib 1):=by simp [cy,givesH]
 have eV:bR h c ⟨7,ia,ib,ic,ii,args⟩=⟨2,(c.rd ib).n⟩:=by simp [bR,aG]
 rw [eH,eV]
 clear eH eV
 have rI:∀X wx w,RX 1 X wx w0 g w h qs a c->χ 231 #[π a.q 0,.agg #[ι 7,ι ia,ι ib,ι ic,ι ii,.slice Q nl q]] w fun e w2=>cM X wx w0 g qs a c (h.rdH c ib 1) ⟨2,(c.rd ib).n⟩ e w2:=fun X wx w H=>zQ X wx w0 g h qs a c ia ib ic ii args Q nl q w H hs hb
 generalize (h.rdH c ib 1)=HV at *
 generalize (⟨2,(c.rd ib).n⟩:Va)=VV at *
 rcases fY (fun X wx w H=>rI X wx w H) with ⟨ch,st,HC⟩|⟨st,HC⟩
 ·replace HC:=ae HC
  have HE:Θ (∀w',RS 1 X wx w0 g w' HV qs a c->cM X wx w0 g qs a c HV VV (.panicked ch) w'):=fun w' H=>jh st.1 st.2 H
  clear H hs st hb rI
  go_enter func188,ntmps188
  go_wp2_with (go_at_call 231;refine (HH.o.y.useN HB.o HC.o).mono ?_;rintro e w1 ⟨rfl,H1⟩;replace H1:=ae H1)
  exact ⟨rfl,HE.o _ H1.o⟩
 ·replace HC:=ae HC
  have HE:Θ (∀w',RX 1 X wx w0 g w' HV qs a c->cM X wx w0 g qs a c HV VV (.returned (cm (im VV))) w'):=fun w' H=>ea st rfl H
  clear H hs st hb rI
  go_enter func188,ntmps188
  go_wp2_with (go_at_call 231;refine (HH.o.y.useY HB.o HC.o).mono ?_;rintro e w1 ⟨rfl,H1,K1⟩;have q1:=K1.at (Xp.new (Nat.le_succ _) (dg w _ _)) ey.o;have c4:=aO q1;have c5:=aJ q1;have fz:=aA q1;clear K1;replace H1:=ae H1;replace q1:=ae q1)
  refine bodyPost_ret (results_cell_row rfl _ _ (w.heap.size+1) _ _ _ _ rfl (ba q1.o) underlying98 rfl au) rfl ?_
  refine HE.o _ (dz.x (dz.set (dz.set H1.o ?_ 0 _) ?_ 1 _))<;>exact (Xp.new (Nat.le_succ _) (dg w _ _))
theorem Dw (qs:List Qb) (a:Mc) (c:aL) (ia ib ic ii:Int) (args:List Int) (Q:Option Addr) (nl q:Nat) (w:World) (H:RX 1 X wx w0 g w h qs a c) (hs:h.stops=false) (hb:0<=ib/\ib<c.locs.length) (h2:ib+1<c.locs.length) :
  χ 188 #[π a.q 0,.agg #[ι 8,ι ia,ι ib,ι ic,ι ii,.slice Q nl q]] w fun e w'=>cM X wx w0 g qs a c (cy h c ⟨8,ia,ib,ic,ii,args⟩) (bR h c ⟨8,ia,ib,ic,ii,args⟩) e w':=by
 have ho:=(aF hs).1
 have HH:=ae H
 have HS:=ae hs
 have hq:=H.qlt
 obtain ⟨L0,L1⟩:=bc w #[ι 8,ι ia,ι ib,ι ic,ι ii,.slice Q nl q] #[ι 0,ι 0] 55 98
 have HB:Θ (Bl w ((w.alloc (.cells #[ι 8,ι ia,ι ib,ι ic,ι ii,.slice Q nl q] 55)).alloc fa)):=((Bl.refl w).alloc _).alloc _
 have dK:=ae L0
 have ey:=ae L1
 have ig:w.heap.size≠a.q:=by omega
 have fT:w.heap.size+1≠a.q:=by omega
 have lj:w.heap.size≠w.heap.size+1:=by omega
 clear L0 L1
 have eH:cy h c ⟨8,ia,ib,ic,ii,args⟩=(h.rdH c ib 2):=by simp [cy,givesH]
 have eV:bR h c ⟨8,ia,ib,ic,ii,args⟩=⟨1,wrap32 (c.rd ib).n⟩:=by simp [bR,aG]
 rw [eH,eV]
 clear eH eV
 have rI:∀X wx w,RX 1 X wx w0 g w h qs a c->χ 231 #[π a.q 0,.agg #[ι 8,ι ia,ι ib,ι ic,ι ii,.slice Q nl q]] w fun e w2=>cM X wx w0 g qs a c (h.rdH c ib 2) ⟨1,wrap32 (c.rd ib).n⟩ e w2:=fun X wx w H=>zR X wx w0 g h qs a c ia ib ic ii args Q nl q w H hs hb h2
 generalize (h.rdH c ib 2)=HV at *
 generalize (⟨1,wrap32 (c.rd ib).n⟩:Va)=VV at *
 rcases fY (fun X wx w H=>rI X wx w H) with ⟨ch,st,HC⟩|⟨st,HC⟩
 ·replace HC:=ae HC
  have HE:Θ (∀w',RS 1 X wx w0 g w' HV qs a c->cM X wx w0 g qs a c HV VV (.panicked ch) w'):=fun w' H=>jh st.1 st.2 H
  clear H hs st hb h2 rI
  go_enter func188,ntmps188
  go_wp2_with (go_at_call 231;refine (HH.o.y.useN HB.o HC.o).mono ?_;rintro e w1 ⟨rfl,H1⟩;replace H1:=ae H1)
  exact ⟨rfl,HE.o _ H1.o⟩
 ·replace HC:=ae HC
  have HE:Θ (∀w',RX 1 X wx w0 g w' HV qs a c->cM X wx w0 g qs a c HV VV (.returned (cm (im VV))) w'):=fun w' H=>ea st rfl H
  clear H hs st hb h2 rI
  go_enter func188,ntmps188
  go_wp2_with (go_at_call 231;refine (HH.o.y.useY HB.o HC.o).mono ?_;rintro e w1 ⟨rfl,H1,K1⟩;have q1:=K1.at (Xp.new (Nat.le_succ _) (dg w _ _)) ey.o;have c4:=aO q1;have c5:=aJ q1;have fz:=aA q1;clear K1;replace H1:=ae H1;replace q1:=ae q1)
  refine bodyPost_ret (results_cell_row rfl _ _ (w.heap.size+1) _ _ _ _ rfl (ba q1.o) underlying98 rfl au) rfl ?_
  refine HE.o _ (dz.x (dz.set (dz.set H1.o ?_ 0 _) ?_ 1 _))<;>exact (Xp.new (Nat.le_succ _) (dg w _ _))
theorem Dx (qs:List Qb) (a:Mc) (c:aL) (ia ib ic ii:Int) (args:List Int) (Q:Option Addr) (nl q:Nat) (w:World) (H:RX 1 X wx w0 g w h qs a c) (hs:h.stops=false) (hb:0<=ib/\ib<c.locs.length) (hc:0<=ic/\ic<c.locs.length) (h2:ib+1<c.locs.length/\ic+1<c.locs.length) :
  χ 188 #[π a.q 0,.agg #[ι 9,ι ia,ι ib,ι ic,ι ii,.slice Q nl q]] w fun e w'=>cM X wx w0 g qs a c (cy h c ⟨9,ia,ib,ic,ii,args⟩) (bR h c ⟨9,ia,ib,ic,ii,args⟩) e w':=by
 have ho:=(aF hs).1
 have HH:=ae H
 have HS:=ae hs
 have hq:=H.qlt
 obtain ⟨L0,L1⟩:=bc w #[ι 9,ι ia,ι ib,ι ic,ι ii,.slice Q nl q] #[ι 0,ι 0] 55 98
 have HB:Θ (Bl w ((w.alloc (.cells #[ι 9,ι ia,ι ib,ι ic,ι ii,.slice Q nl q] 55)).alloc fa)):=((Bl.refl w).alloc _).alloc _
 have dK:=ae L0
 have ey:=ae L1
 have ig:w.heap.size≠a.q:=by omega
 have fT:w.heap.size+1≠a.q:=by omega
 have lj:w.heap.size≠w.heap.size+1:=by omega
 clear L0 L1
 have eH:cy h c ⟨9,ia,ib,ic,ii,args⟩=((h.rdH c ib 2).rdH c ic 2):=by simp [cy,givesH]
 have eV:bR h c ⟨9,ia,ib,ic,ii,args⟩=⟨1,kX (c.rd ib).n (c.rd ic).n⟩:=by simp [bR,aG]
 rw [eH,eV]
 clear eH eV
 have rI:∀X wx w,RX 1 X wx w0 g w h qs a c->χ 231 #[π a.q 0,.agg #[ι 9,ι ia,ι ib,ι ic,ι ii,.slice Q nl q]] w fun e w2=>cM X wx w0 g qs a c ((h.rdH c ib 2).rdH c ic 2) ⟨1,kX (c.rd ib).n (c.rd ic).n⟩ e w2:=fun X wx w H=>zS X wx w0 g h qs a c ia ib ic ii args Q nl q w H hs hb hc h2
 generalize ((h.rdH c ib 2).rdH c ic 2)=HV at *
 generalize (⟨1,kX (c.rd ib).n (c.rd ic).n⟩:Va)=VV at *
 rcases fY (fun X wx w H=>rI X wx w H) with ⟨ch,st,HC⟩|⟨st,HC⟩
 ·replace HC:=ae HC
  have HE:Θ (∀w',RS 1 X wx w0 g w' HV qs a c->cM X wx w0 g qs a c HV VV (.panicked ch) w'):=fun w' H=>jh st.1 st.2 H
  clear H hs st hb hc h2 rI
  go_enter func188,ntmps188
  go_wp2_with (go_at_call 231;refine (HH.o.y.useN HB.o HC.o).mono ?_;rintro e w1 ⟨rfl,H1⟩;replace H1:=ae H1)
  exact ⟨rfl,HE.o _ H1.o⟩
 ·replace HC:=ae HC
  have HE:Θ (∀w',RX 1 X wx w0 g w' HV qs a c->cM X wx w0 g qs a c HV VV (.returned (cm (im VV))) w'):=fun w' H=>ea st rfl H
  clear H hs st hb hc h2 rI
  go_enter func188,ntmps188
  go_wp2_with (go_at_call 231;refine (HH.o.y.useY HB.o HC.o).mono ?_;rintro e w1 ⟨rfl,H1,K1⟩;have q1:=K1.at (Xp.new (Nat.le_succ _) (dg w _ _)) ey.o;have c4:=aO q1;have c5:=aJ q1;have fz:=aA q1;clear K1;replace H1:=ae H1;replace q1:=ae q1)
  refine bodyPost_ret (results_cell_row rfl _ _ (w.heap.size+1) _ _ _ _ rfl (ba q1.o) underlying98 rfl au) rfl ?_
  refine HE.o _ (dz.x (dz.set (dz.set H1.o ?_ 0 _) ?_ 1 _))<;>exact (Xp.new (Nat.le_succ _) (dg w _ _))
end
end
def kj (x:pJ):Int×Int:=(x.cls,x.fld)
theorem rJ {c d:Nat} {x:pJ} (h:x∈gL cs c d):x.cls=d/\∃k:Nat,k<(nth bL cs d).fields.length/\x.fld=k:=by
 unfold gL at h
 split at h
 ·rw [List.mem_map] at h
  obtain ⟨k,hk,rfl⟩:=h
  exact ⟨rfl,k,by simpa using hk,rfl⟩
 ·simp at h
theorem vL (cs:List Cl) (c d:Nat):((gL cs c d).map kj).Nodup:=by
 unfold gL
 split
 ·rw [List.map_map]
  unfold List.Nodup
  rw [List.pairwise_map]
  refine List.Pairwise.imp ?_ (List.nodup_range (n:=(nth bL cs d).fields.length))
  intro a b Qr e
  simp [kj] at e
  exact Qr (by omega)
 ·simp
theorem rK (cs:List Cl) (c:Nat):∀l:List Nat,l.Nodup->((l.flatMap (gL cs c)).map kj).Nodup
 | [],_=>by simp
 | d::l,h=>by
  rw [List.nodup_cons] at h
  rw [List.flatMap_cons,List.map_append,List.nodup_append]
  refine ⟨vL cs c d,rK cs c l h.2,?_⟩
  intro a ha b hb e
  rw [List.mem_map] at ha hb
  obtain ⟨x,hx,rfl⟩:=ha
  obtain ⟨y,hy,rfl⟩:=hb
  rw [List.mem_flatMap] at hy
  obtain ⟨d',PH,hy⟩:=hy
  have h1:=(rJ hx).1
  have h2:=(rJ hy).1
  simp only [kj,Prod.mk.injEq] at e
  have:d=d':=by omega
  subst this
  exact h.1 PH
theorem sX (cs:List Cl) (c:Nat):((cZ cs c).map kj).Nodup:=rK cs c _ List.nodup_range
theorem xV {c d k:Nat} (hd:d<cs.length) (hb:fJ cs c d=true) (hk:k<(nth bL cs d).fields.length):((d:Int),(k:Int))∈(cZ cs c).map kj:=by
 rw [List.mem_map]
 refine ⟨⟨d,k,iX (nth bS (nth bL cs d).fields k)⟩,?_,rfl⟩
 unfold cZ
 rw [List.mem_flatMap]
 refine ⟨d,by simpa using hd,?_⟩
 unfold gL
 rw [if_pos hb,List.mem_map]
 exact ⟨k,by simpa using hk,rfl⟩
section
variable {cs:List Cl} {l:List pJ} {cl:Int}
theorem Dy {c k:Nat} (hl:l.map kj=(cZ cs cl.toNat).map kj) (hb:fu cs cl (c:Int)=true) (hk:k<(nth bL cs c).fields.length) :
  ∃j:Nat,j<l.length/\eB l c k=j/\(nth cE l j).cls=c/\(nth cE l j).fld=k:=by
 unfold fu at hb
 rw [Bool.and_eq_true] at hb
 have h1:=of_decide_eq_true hb.1
 have hm:=xV (cs:=cs) (c:=cl.toNat) (d:=c) (k:=k) (by omega) (by simpa using hb.2) hk
 rw [<-hl,List.mem_map] at hm
 obtain ⟨x,hx,JK⟩:=hm
 simp only [kj,Prod.mk.injEq] at JK
 unfold eB
 cases hf:l.findIdx? (fun x=>decide (x.cls=(c:Int)/\x.fld=(k:Int))) with
 | none =>
  rw [List.findIdx?_eq_none_iff] at hf
  have:=hf x hx
  simp [JK.1,JK.2] at this
 | some i =>
  rw [List.findIdx?_eq_some_iff_getElem] at hf
  obtain ⟨hi,hp,-⟩:=hf
  have qT:=of_decide_eq_true hp
  refine ⟨i,hi,rfl,?_,?_⟩
  ·rw [cg hi];exact qT.1
  ·rw [cg hi];exact qT.2
theorem GP (hl:l.map kj=(cZ cs cl.toNat).map kj) {i j:Nat} (hi:i<l.length) (hj:j<l.length) (h:kj (nth cE l i)=kj (nth cE l j)):i=j:=by
 have hn:=sX cs cl.toNat
 rw [<-hl] at hn
 rw [cg hi,cg hj] at h
 have hi':i<(l.map kj).length:=by simpa using hi
 have hj':j<(l.map kj).length:=by simpa using hj
 have e:(l.map kj)[i]=(l.map kj)[j]:=by simpa using h
 exact (List.getElem_inj hn).mp e
end
theorem GQ {l:List pJ} {j:Nat} (hj:j<l.length) (v:Va):(l.set j { nth cE l j with v:=v }).map kj=l.map kj:=by
 apply List.ext_getElem
 ·simp
 ·intro i h1 h2
  simp only [List.getElem_map,List.getElem_set]
  split
  ·rename_i e
   subst e
   rw [cg hj]
   rfl
  ·rfl
theorem BL {α:Type} {d:α} {l:List α} {x:α} (h:x∈l):∃i,i<l.length/\nth d l i=x:=by
 obtain ⟨i,hi,rfl⟩:=List.getElem_of_mem h
 exact ⟨i,hi,cg hi⟩
section
open Go.Maps (Keyed has)
theorem iU {A:Option Addr} (h:bK w A cs) {c f:Nat} (hc:c<cs.length) (hf:f<(nth bL cs c).fields.length) :
  ∃b off F fo uc,A=some ⟨b,off,none⟩/\w.cell? ⟨b,off+c*2+1,none⟩=some (.slice (some ⟨F,fo,none⟩) (nth bL cs c).fields.length uc)/\cs.length<=maxLen/\(nth bL cs c).fields.length<=maxLen
   /\ w.cell? ⟨F,fo+f*2,none⟩=some (ι (nth bS (nth bL cs c).fields f).kind)/\w.cell? ⟨F,fo+f*2+1,none⟩=some (ι (nth bS (nth bL cs c).fields f).cls):=by
 rcases h.2 with h0|⟨b,off,rfl,hcell⟩
 ·omega
 obtain ⟨-,-,A',uc,hfl,hty⟩:=hcell c hc
 rcases hty.2 with h0|⟨F,fo,rfl,htc⟩
 ·omega
 exact ⟨b,off,F,fo,uc,rfl,hfl,h.1,hty.1,(htc f hf).1,(htc f hf).2.1⟩
theorem zT:(Tryz.prog.info? 263).map (·.size)=some 3:=by kernel_rfl
abbrev WG:Obj:=.cells #[ι 0,ι 0,ι 0] 263
theorem Dz {k n m k' n' m':Value} {t:TypeId} (q:w.heap[b]?=some (.cells #[k,n,m] t (0,0))):(((w.setCell ⟨b,0,none⟩ k').setCell ⟨b,1,none⟩ n').setCell ⟨b,2,none⟩ m').heap[b]?=some (.cells #[k',n',m'] t (0,0)):=by
 rw [ay (ay (ay q _) _) _];rfl
theorem lJ (hb:Nat) (v:Va) (c k:Int) (hk:v.kind=3) (hv:0<=v.n) (w:World) :
  χ 230 #[π hb 0,cm (im v),ι c,ι k] w fun e w'=>e=.returned (iY (v.n+1) c k)/\Bl w w':=by
 have HN:Θ (wT (im v)=false):=lC hk hv
 have e:im v=⟨3,v.n+1⟩:=gp hk
 rw [e] at HN ⊢
 obtain ⟨L0,L1⟩:=bc w #[ι 3,ι (v.n+1)] #[ι 0,ι 0,ι 0] 98 263
 have dK:=ae L0
 have ey:=ae L1
 have HB:Θ (Bl w ((w.alloc (eS ⟨3,v.n+1⟩)).alloc WG)):=((Bl.refl w).alloc _).alloc _
 clear hk hv e L0 L1
 go_enter func230,ntmps230
 go_wp2_with (go_at_call 90;refine (cB ⟨3,v.n+1⟩ _).mono ?_;rintro e w2 ⟨he,b2⟩;rw [HN.o] at he;subst he;have q0:=ax b2 dK.o;have c1:=aJ q0;have q1:=ax b2 ey.o;have d0:w2.cell? ⟨w.heap.size+1,0,none⟩=some (ι 0):=(ab q1).trans rfl;have d1:w2.cell? ⟨w.heap.size+1,1,none⟩=some (ι 0):=(ab q1).trans rfl;have d2:w2.cell? ⟨w.heap.size+1,2,none⟩=some (ι 0):=(ab q1).trans rfl;have fz:=aA q1;replace b2:=ae b2;replace q1:=ae q1;clear q0)
 refine bodyPost_ret (results_cell_row rfl _ _ (w.heap.size+1) _ _ _ _ rfl (Dz q1.o) underlying263 rfl zT) rfl ?_
 exact ⟨rfl,Bl.setCell (Bl.setCell (Bl.setCell (HB.o.trans b2.o) (p:=⟨w.heap.size+1,0,none⟩) (Nat.le_succ _) _) (p:=⟨w.heap.size+1,1,none⟩) (Nat.le_succ _) _) (p:=⟨w.heap.size+1,2,none⟩) (Nat.le_succ _) _⟩
theorem pG (s:Nat) (X:Nat->Prop) (wx w0:World) (g:Mg) (h:Hp) (qs:List Qb) (a:Mc) (c:aL) (v:Va) (cc k:Int) (w:World) (H:RX s X wx w0 g w h qs a c) (hl:h.objs.length<=100) (ho:h.over=false) (hk:v.kind=3) (hv:v.n=-1) :
  χ 230 #[π g.hb 0,cm (im v),ι cc,ι k] w fun e w'=>e=cU h/\RX s X wx w0 g w' (h.raise 1) qs a c:=by
 have HN:Θ (wT (im v)=true):=lY hk hv
 have e:im v=⟨3,0⟩:=by rw [gp hk,hv];rfl
 rw [e] at HN ⊢
 have HB:Θ (Bl w ((w.alloc (eS ⟨3,0⟩)).alloc WG)):=((Bl.refl w).alloc _).alloc _
 have HH:=ae H
 have HL:=ae (And.intro hl ho)
 obtain ⟨E,hE⟩:∃E,cU h=E:=⟨_,rfl⟩
 have HE:=ae hE
 rw [hE]
 have HX:Θ (∃ch,E=.panicked ch):=by
  rw [<-hE];unfold cU;split<;>exact ⟨_,rfl⟩
 clear hk hv e H hl ho hE
 obtain ⟨ch,rfl⟩:=HX.o
 go_enter func230,ntmps230
 go_wp2_with (first
  | (go_at_call 90;refine (cB ⟨3,0⟩ _).mono ?_;rintro e w2 ⟨he,b2⟩;rw [HN.o] at he;subst he;replace b2:=ae b2)
  | (go_at_call 200;refine (gy s X wx w0 g h qs a c 1 _ (HH.o.bl (HB.o.trans b2.o)) HL.o.1 HL.o.2).mono ?_;rintro e w3 ⟨he,H3⟩;rw [HE.o] at he;subst he;replace H3:=ae H3))
 exact ⟨rfl,rfl,H3.o⟩
theorem GR:(Tryz.prog.info? 98).map (fun i=>(i.zero,i.size,i.bytes))=some (some (.agg #[ι 0,ι 0]),2,16):=by kernel_rfl
theorem KV (w:World):(zeroValue 98).run Tryz.prog w=.ok (cm ⟨0,0⟩) w:=by
 obtain ⟨i,hi,hz,-,-⟩:=info_parts GR
 simp [zeroValue,hi,hz]
 rfl
theorem xW {mp n:Nat} {D:DataW Nat} (h:w.ownsMap Tryz.prog 263 fg mp n D) {o c:Int} (ho:cJ o) (hc:cJ c) (hk:cJ k) (u:Va) (hu:has D (jT o c k)=true->∀z,D.atKey (jT o c k) z=MD u) :
  (Instr.lookup 168 (.map (some mp)) (iY o c k) true).run Tryz.prog w=.ok (.tuple #[cm (if has D (jT o c k)=true then u else ⟨0,0⟩),.bool (has D (jT o c k))]) w:=by
 obtain ⟨v,ps,h1,h2⟩:=h.look_ok jU underlying168 (KV w) (ta ⟨0,0⟩) (lV ho hc hk)
 rw [h1]
 cases hh:has D (jT o c k) with
 | true =>
  rw [hu hh] at h2
  rw [if_pos rfl,qM h2]
 | false =>
  rw [Maps.atKey_of_not_has hh] at h2
  rw [if_neg (by decide),qM h2]
end
end Go.Proofs.YtgbebphpjnmafaaGreat
