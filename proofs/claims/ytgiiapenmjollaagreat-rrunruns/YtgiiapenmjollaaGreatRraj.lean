import Derived.Test.YtgiiapenmjollaaGreatRrad
import Derived.Test.YtgiiapenmjollaaGreatRrag
namespace Go.Proofs.YtgiiapenmjollaaGreat
set_option linter.all false
set_option maxHeartbeats 40000000
set_option maxRecDepth 100000
open Go.RowKit
open Tryz
variable {c c':aL} {h h':Hp} {i:In} {k nx:Int} {cs:List Cl} {a:Mc} {g:Mg} {b:Nat} {X:Nat->Prop} {v:Va} {w w0 wx:World}
structure BO (cs:List Cl) (ms:List Me) (regs ret:Int) (i:In):Prop where
 b2:(i.op=4/\i.c=2)∨i.op=6∨i.op=8∨i.op=9->i.b+1<regs
 c2:i.op=6∨i.op=9->i.c+1<regs
 a2:(i.op=15/\(nth bS (nth bL cs i.c.toNat).fields i.n.toNat).kind=2)∨(i.op=23/\i.b=2)->i.a+1<regs
 g2:i.op=18->∀k,k<i.args.length->(nth bS (nth bT ms i.a.toNat).params k).kind=2->nth (0:Int) i.args k+1<regs
 r2:i.op=20->ret=2->i.a+1<regs
theorem KY {ms:List Me} {fS:Nat} {regs ret:Int} (h:bU cs ms fS regs ret i=true):BO cs ms regs ret i:=by
 have hop:=Fz h
 unfold bU at h
 rcases (by omega:i.op=1∨i.op=2∨i.op=3∨i.op=4∨i.op=5∨i.op=6∨i.op=7∨i.op=8∨i.op=9∨i.op=10∨i.op=11∨i.op=12∨i.op=13∨i.op=14∨i.op=15∨i.op=16∨i.op=17∨i.op=18∨i.op=19∨i.op=20∨i.op=21∨i.op=22∨i.op=23∨i.op=24) with e|e|e|e|e|e|e|e|e|e|e|e|e|e|e|e|e|e|e|e|e|e|e|e
 all_goals
  simp only [e,aW,bp,aM,qa,true_implies,false_implies,if_true,if_false,Int.reduceEq,Int.reduceLT,Int.reduceNeg,or_true,true_or,or_false,false_or,or_self,Bool.and_eq_true,decide_eq_true_eq,List.all_eq_true,List.mem_range,Bool.true_and,decide_true] at h
 all_goals
  constructor
  all_goals intros
  all_goals first|omega|(exact (h.2.2.2 _ ‹_›).2.2 ‹_›)|(have h':=h.2.2.2;rw [if_neg (by omega),qa] at h';omega)
def cy (h:Hp) (c:aL) (i:In):Hp:=if i.op=19 then h.must (decide (c.giv.kind=i.b)) else if i.op=22 then h.must (isRef c.cau) else givesH h c i
def bR (h:Hp) (c:aL) (i:In):Va:=if i.op=19 then c.giv else if i.op=22 then c.cau else aG h c i
theorem aF (hs:h.stops=false):h.over=false/\¬0<=h.thrown:=by
 unfold Hp.stops at hs
 rw [Bool.or_eq_false_iff] at hs
 exact ⟨hs.1,by simpa using hs.2⟩
theorem BP (hs:h.stops=false) (b:Bool) (c:aL) (a:Int) (v:Va):(if h.mustB b=true then mN h c a v else c)=mN (h.must b) c a v:=by
 obtain ⟨ho,-⟩:=aF hs
 unfold Hp.mustB Hp.must
 cases b with
 | true=>simp [ho]
 | false =>
  have:(h.fin 6).stops=true:=by unfold Hp.stops;rw [Fy ho];rfl
  simp [mN,this]
theorem GO (c:aL) (hs:h.stops=false) (hop:i.op<=9∨i.op=13∨i.op=14∨i.op=17∨i.op=19∨i.op=22∨i.op=24) :
  bV h c i=⟨cy h c i,mN (cy h c i) c.clr i.a (bR h c i),c.pc+1⟩:=by
 unfold bV cy bR
 by_cases oW:i.op=19
 ·simp only [oW,Int.reduceEq,if_true,if_false]
  unfold wN
  rw [BP hs]
 ·by_cases GP:i.op=22
  ·simp only [GP,Int.reduceEq,if_true,if_false]
   unfold wO
   rw [BP hs]
  ·rw [if_neg (by omega),if_neg (by omega),if_neg (by omega),if_neg (by omega),if_neg (by omega),if_neg (by omega),if_neg (by omega),if_neg (by omega),if_neg (by omega),if_neg oW,if_neg GP,if_neg oW,if_neg GP]
   rfl
theorem Ot {s:Nat} {ms:List Me} {n:Nat} {rt:Int} (g:Gh s h) (kd:Kd h) (gc:Gc h c) (hs0:h.stops=false) (mc:xA h.file.classes) (ok:pR h.file.classes ms n c.m.regs rt i) (iok:i.ok) (hop:i.op<=9∨i.op=13∨i.op=14∨i.op=17∨i.op=19∨i.op=22∨i.op=24) (hs:(cy h c i).stops=false):(bR h c i).kind≠9/\((bR h c i).kind=2->i.a+1<c.m.regs):=by
 obtain ⟨ho,ht⟩:=aF hs0
 have iG:h.thrown=-1:=by have:=g.thr;omega
 unfold cy at hs
 unfold bR
 by_cases oW:i.op=19
 ·rw [if_pos oW] at hs ⊢
  have hk:=ok.res oW
  have:=of_decide_eq_true (iP (aF hs).1).1
  exact ⟨by omega,fun x=>ok.two (by omega)⟩
 rw [if_neg oW] at hs ⊢
 by_cases GP:i.op=22
 ·rw [if_pos GP] at hs ⊢
  have:=of_decide_eq_true (iP (aF hs).1).1
  exact ⟨by omega,fun x=>by omega⟩
 rw [if_neg GP] at hs ⊢
 exact (oQ g kd gc ho iG mc ok iok (by omega) hs).2
section
variable (s:Nat) (X:Nat->Prop) (wx w0:World) (g:Mg) (h:Hp)
theorem fj (qs:List Qb) (a:Mc) (c:aL) (n k:Int) (w:World) (H:RX s X wx w0 g w h qs a c) (hn:0<=n/\n<c.locs.length) (hk:1<=k/\k<=3) (h2:k=2->n+1<c.locs.length) (hv:(c.rd n).kind=k) :
  χ 131 #[π a.q 0,ι n,ι k] w fun e w'=>e=.returned (cm (im (c.rd n)))/\Bl w w':=by
 obtain ⟨m,rfl⟩:∃m:Nat,n=m:=⟨n.toNat,by omega⟩
 have er:c.rd (m:Int)=nth aE c.locs m:=by unfold aL.rd;rw [Int.toNat_natCast]
 rw [er] at hv ⊢
 obtain ⟨vc,vo,vx,vs,l,H⟩:=H
 have HB:Θ (Bl w (w.alloc fa)):=(Bl.refl w).alloc _
 have C:=H.ca.kept (df HB.o none) (fun b e=>by cases e)
 have c10:=C.cells.c10
 have HR:=ae (FU C m k (by omega) hk (fun e=>by have:=h2 e;omega) hv)
 have HQ:=ae (aB w #[ι 0,ι 0] 100)
 have hq:a.q<w.heap.size:=af H.ca.blk
 clear H C hn hk h2 hv er
 go_enter func131,ntmps131
 go_wp2_with (go_at_call 149;refine HR.o.mono ?_;rintro e w1 ⟨rfl,b1⟩;have q1:=ax b1 HQ.o;have c4:=aO q1;have c5:=aJ q1;have fz:=aA q1;replace q1:=ae q1;replace b1:=ae b1)
 refine bodyPost_ret (results_cell_row rfl _ _ w.heap.size _ _ _ _ rfl (ba q1.o) underlying100 rfl au) rfl ?_
 exact ⟨rfl,cT (HB.o.trans b1.o) (by omega) _ _⟩
theorem jI (qs:List Qb) (a:Mc) (c:aL) (n k:Int) (w:World) (H:RX s X wx w0 g w h qs a c) (hn:0<=n/\n<c.locs.length) (hk:1<=k/\k<=3) (h2:k=2->n+1<c.locs.length) (hv:(c.rd n).kind≠k) :
  χ 131 #[π a.q 0,ι n,ι k] w fun e w'=>e=bF 6 0 0/\Bl w w':=by
 obtain ⟨m,rfl⟩:∃m:Nat,n=m:=⟨n.toNat,by omega⟩
 have er:c.rd (m:Int)=nth aE c.locs m:=by unfold aL.rd;rw [Int.toNat_natCast]
 rw [er] at hv
 obtain ⟨vc,vo,vx,vs,l,H⟩:=H
 have HB:Θ (Bl w (w.alloc fa)):=(Bl.refl w).alloc _
 have C:=H.ca.kept (df HB.o none) (fun b e=>by cases e)
 have c10:=C.cells.c10
 have HR:=ae (Kr C m k (by omega) hk (fun e=>by have:=h2 e;omega) hv)
 have HQ:=ae (aB w #[ι 0,ι 0] 100)
 have hq:a.q<w.heap.size:=af H.ca.blk
 clear H C hn hk h2 hv er
 go_enter func131,ntmps131
 go_wp2_with (go_at_call 149;refine HR.o.mono ?_;rintro e w1 ⟨rfl,b1⟩;have q1:=ax b1 HQ.o;have c4:=aO q1;have c5:=aJ q1;have fz:=aA q1;replace q1:=ae q1;replace b1:=ae b1)
 exact ⟨rfl,rfl,HB.o.trans b1.o⟩
theorem jJ (qs:List Qb) (a:Mc) (c:aL) (n:Int) (t:Ty) (w:World) (H:RX s X wx w0 g w h qs a c) (F:Fix w0 g h) (hf:h.objs.length<=100) (hn:0<=n/\n<c.locs.length) (hk:1<=t.kind/\t.kind<=3) (h2:t.kind=2->n+1<c.locs.length) (hv:(c.rd n).kind=3->-1<=(c.rd n).n/\(c.rd n).n<h.objs.length) (ho:h.of (c.rd n) t=true) :
  χ 183 #[π a.q 0,ι n,iC t] w fun e w'=>e=.returned (cm (im (c.rd n)))/\Bl w w':=by
 have hkd:(c.rd n).kind=t.kind:=by unfold Hp.of at ho;rw [Bool.and_eq_true] at ho;exact of_decide_eq_true ho.1
 have HH:=ae H
 have hq:=H.qlt
 have HF:Θ (Fix w0 g h/\h.objs.length<=100):=⟨F,hf⟩
 obtain ⟨L0,L1⟩:=bc w #[ι t.kind,ι t.cls] #[ι 0,ι 0] 45 100
 have B0:Bl w ((w.alloc (iv t)).alloc fa):=((Bl.refl w).alloc _).alloc _
 have z0:=ae (H.y.bl B0).hb
 have z1:=ae (aO L0)
 have z2:=ae (aJ L0)
 have HB:Θ (Bl w ((w.alloc (iv t)).alloc fa)):=B0
 have dK:=ae L0
 have ey:=ae L1
 have HR:Θ (∀w',RX s X wx w0 g w' h qs a c->χ 131 #[π a.q 0,ι n,ι t.kind] w' fun e w2=>e=.returned (cm (im (c.rd n)))/\Bl w' w2):=fun w' H=>fj s X wx w0 g h qs a c n t.kind w' H hn hk h2 hkd
 have HO:Θ (((c.rd n).kind=3->-1<=(c.rd n).n/\(c.rd n).n<h.objs.length)/\h.of (c.rd n) t=true):=⟨hv,ho⟩
 have iw:w.heap.size≠a.q:=by omega
 have fT:w.heap.size+1≠a.q:=by omega
 have z0:=z0.o
 have z1:=z1.o
 have z2:=z2.o
 clear H F hf hv ho L0 L1 B0 hn hk h2 hkd
 go_enter func183,ntmps183
 go_wp2
 go_region_held3 (fun w'=>w'.cell? ⟨a.q,0,none⟩=some (π g.hb 0)/\w'.cell? ⟨w.heap.size,0,none⟩=some (ι t.kind)/\w'.cell? ⟨w.heap.size,1,none⟩=some (ι t.cls))
  (go_keep)
  (first
   | (go_at_call 131;refine (HR.o _ (HH.o.bl (by first|exact HB.o.drew|exact HB.o))).mono ?_;rintro e w1 ⟨rfl,b1⟩;have d0:=b1.cell z0;have d1:=b1.cell z1;have d2:=b1.cell z2;have q1:=ae (ax b1 ey.o);have b1:=ae b1)
   | (go_at_call 191;refine (FP g h (c.rd n) t _ ((HH.o.bl ((by first|exact HB.o.drew.trans b1.o|exact HB.o.trans b1.o))).rd HF.o.1 HF.o.2) HO.o.1 HO.o.2).mono ?_;rintro e w2 ⟨rfl,b2⟩;have e0:=b2.cell d0;have e1:=b2.cell d1;have e2:=b2.cell d2;have q2:=ax b2 q1.o;have f4:=aO q2;have f5:=aJ q2;have fz:=aA q2;have b2:=ae b2;have q2:=ae q2))
 go_wp2
 refine bodyPost_ret (results_cell_row rfl _ _ (w.heap.size+1) _ _ _ _ rfl (ba q2.o) underlying100 rfl au) rfl ?_
 exact ⟨rfl,cT (by first|exact (HB.o.drew.trans b1.o).trans b2.o|exact (HB.o.trans b1.o).trans b2.o) (by omega) _ _⟩
theorem GQ (qs:List Qb) (a:Mc) (c:aL) (n:Int) (t:Ty) (w:World) (H:RX s X wx w0 g w h qs a c) (F:Fix w0 g h) (hf:h.objs.length<=100) (hn:0<=n/\n<c.locs.length) (hk:1<=t.kind/\t.kind<=3) (h2:t.kind=2->n+1<c.locs.length) (hkd:(c.rd n).kind≠t.kind) :
  χ 183 #[π a.q 0,ι n,iC t] w fun e w'=>e=bF 6 0 0/\Bl w w':=by
 have HH:=ae H
 have hq:=H.qlt
 have HF:Θ (Fix w0 g h/\h.objs.length<=100):=⟨F,hf⟩
 obtain ⟨L0,L1⟩:=bc w #[ι t.kind,ι t.cls] #[ι 0,ι 0] 45 100
 have B0:Bl w ((w.alloc (iv t)).alloc fa):=((Bl.refl w).alloc _).alloc _
 have z0:=ae (H.y.bl B0).hb
 have z1:=ae (aO L0)
 have z2:=ae (aJ L0)
 have HB:Θ (Bl w ((w.alloc (iv t)).alloc fa)):=B0
 have dK:=ae L0
 have ey:=ae L1
 have HR:Θ (∀w',RX s X wx w0 g w' h qs a c->χ 131 #[π a.q 0,ι n,ι t.kind] w' fun e w2=>e=bF 6 0 0/\Bl w' w2):=fun w' H=>jI s X wx w0 g h qs a c n t.kind w' H hn hk h2 hkd
 clear H F hf L0 L1 B0 hn hk h2 hkd
 go_enter func183,ntmps183
 go_wp2
 refine wp_region_held_drew (S:=fun w'=>κ w' a.q 0 (π g.hb 0)/\κ w' w.heap.size 0 (ι t.kind)/\κ w' w.heap.size 1 (ι t.cls)) (by kernel_rfl) ?_ (fun aa=>?_)
 ·exact ⟨z0.o,z1.o,z2.o⟩
 iterate 9 (refine tn rfl (by kernel_rfl) (fun _ _ _ h=>h) (by intro _ h;go_split_ands;go_simp<;>with_reducible rfl) aa ?_;try simp only [aZ])
 refine aY (i:=8) (by kernel_rfl) rfl fun K hK=>?_
 go_simp
 go_at_call 131
 refine (HR.o _ (HH.o.bl HB.o.drew)).mono ?_
 rintro e w1 ⟨rfl,b1⟩
 exact ⟨rfl,rfl,HB.o.drew.trans b1⟩
theorem Ku (qs:List Qb) (a:Mc) (c:aL) (n:Int) (t:Ty) (w:World) (H:RX s X wx w0 g w h qs a c) (F:Fix w0 g h) (hf:h.objs.length<=100) (hn:0<=n/\n<c.locs.length) (hk:1<=t.kind/\t.kind<=3) (h2:t.kind=2->n+1<c.locs.length) (hkd:(c.rd n).kind=t.kind) (hv:(c.rd n).kind=3->-1<=(c.rd n).n/\(c.rd n).n<h.objs.length) (ho:h.of (c.rd n) t=false) :
  χ 183 #[π a.q 0,ι n,iC t] w fun e w'=>e=bF 6 0 0/\Bl w w':=by
 have HH:=ae H
 have hq:=H.qlt
 have HF:Θ (Fix w0 g h/\h.objs.length<=100):=⟨F,hf⟩
 obtain ⟨L0,L1⟩:=bc w #[ι t.kind,ι t.cls] #[ι 0,ι 0] 45 100
 have B0:Bl w ((w.alloc (iv t)).alloc fa):=((Bl.refl w).alloc _).alloc _
 have z0:=ae (H.y.bl B0).hb
 have z1:=ae (aO L0)
 have z2:=ae (aJ L0)
 have HB:Θ (Bl w ((w.alloc (iv t)).alloc fa)):=B0
 have dK:=ae L0
 have ey:=ae L1
 have HR:Θ (∀w',RX s X wx w0 g w' h qs a c->χ 131 #[π a.q 0,ι n,ι t.kind] w' fun e w2=>e=.returned (cm (im (c.rd n)))/\Bl w' w2):=fun w' H=>fj s X wx w0 g h qs a c n t.kind w' H hn hk h2 hkd
 have HO:Θ (((c.rd n).kind=3->-1<=(c.rd n).n/\(c.rd n).n<h.objs.length)/\h.of (c.rd n) t=false):=⟨hv,ho⟩
 clear H F hf L0 L1 B0 hn hk h2 hkd hv ho
 go_enter func183,ntmps183
 go_wp2
 refine wp_region_held_drew (S:=fun w'=>κ w' a.q 0 (π g.hb 0)/\κ w' w.heap.size 0 (ι t.kind)/\κ w' w.heap.size 1 (ι t.cls)) (by kernel_rfl) ?_ (fun aa=>?_)
 ·exact ⟨z0.o,z1.o,z2.o⟩
 iterate 9 (refine tn rfl (by kernel_rfl) (fun _ _ _ h=>h) (by intro _ h;go_split_ands;go_simp<;>with_reducible rfl) aa ?_;try simp only [aZ])
 refine aY (i:=8) (by kernel_rfl) rfl fun K hK=>?_
 go_simp
 go_at_call 131
 refine (HR.o _ (HH.o.bl HB.o.drew)).mono ?_
 rintro e w1 ⟨rfl,b1⟩
 have d0:=ae (b1.cell z0.o)
 have d1:=ae (b1.cell z1.o)
 have d2:=ae (b1.cell z2.o)
 have b1:=ae b1
 go_wp2_with fail
 refine hK.out _ _ (⟨d0.o,d1.o,d2.o⟩) (fun ah=>?_)
 try simp only [aZ]
 refine aY (i:=10) (by kernel_rfl) rfl fun K hK=>?_
 go_simp
 go_at_call 191
 refine (Kn g h (c.rd n) t _ ((HH.o.bl (HB.o.drew.trans b1.o)).rd HF.o.1 HF.o.2) HO.o.1 HO.o.2).mono ?_
 rintro e w2 ⟨rfl,b2⟩
 exact ⟨rfl,rfl,(HB.o.drew.trans b1.o).trans b2⟩
theorem rL (qs:List Qb) (a:Mc) (c:aL) (n:Int) (t:Ty) (w:World) (H:RX s X wx w0 g w h qs a c) (F:Fix w0 g h) (hf:h.objs.length<=100) (hn:0<=n/\n<c.locs.length) (hk:1<=t.kind/\t.kind<=3) (h2:t.kind=2->n+1<c.locs.length) (hv:(c.rd n).kind=3->-1<=(c.rd n).n/\(c.rd n).n<h.objs.length) (ho:h.of (c.rd n) t=false) :
  χ 183 #[π a.q 0,ι n,iC t] w fun e w'=>e=bF 6 0 0/\Bl w w':=by
 by_cases hkd:(c.rd n).kind=t.kind
 ·exact Ku s X wx w0 g h qs a c n t w H F hf hn hk h2 hkd hv ho
 ·exact GQ s X wx w0 g h qs a c n t w H F hf hn hk h2 hkd
end
def mV (d:nr):Ending:=if d.h.over=true then bF d.h.sh.fin 0 0 else if 0<=d.h.thrown then vp d.h.thrown else .returned (.tuple #[])
structure iT (X:Nat->Prop) (wx w0:World) (g:Mg) (qs:List Qb) (a:Mc) (c:aL) (d:nr) (e:Ending) (w':World):Prop where
 how:e=mV d
 stop:d.h.stops=true->RS 0 X wx w0 g w' d.h qs a c
 go:d.h.stops=false->RX 0 X wx w0 g w' d.h qs a { c with locs:=d.c.locs }
theorem RH.less {qs:List Qb} {vc vo vx:Value} (H:RH 1 w0 g w h qs vc vo vx):RH 0 w0 g w h qs vc vo vx:=by
 obtain ⟨n,D,F⟩:=H.fld
 exact ⟨H.ownr,H.ownh,H.ownm,H.bl,H.run,H.hp,H.o,H.obs,H.calls,n,D,F.own,by have:=F.few;omega,F.hit,F.miss,F.new,F.ks,F.kd⟩
section
variable {X:Nat->Prop} {wx w0 w:World} {g:Mg} {h:Hp}
theorem RX.less {qs:List Qb} (H:RX 1 X wx w0 g w h qs a c):RX 0 X wx w0 g w h qs a c:=by
 obtain ⟨vc,vo,vx,vs,l,H⟩:=H
 exact ⟨vc,vo,vx,vs,l,H.rh.less,H.ca,H.farr,H.farc,H.kept⟩
theorem RS.less {qs:List Qb} (H:RS 1 X wx w0 g w h qs a c):RS 0 X wx w0 g w h qs a c:=by
 obtain ⟨d,e1,e2,H⟩:=H
 exact ⟨d,e1,e2,H.less⟩
end
theorem mv (ho:h.over=false) (k:Int):(h.fin k).over=true/\(h.fin k).sh.fin=k:=by
 unfold Hp.fin;rw [if_neg (by rw [ho];decide)];exact ⟨rfl,rfl⟩
theorem oY (hs:h.stops=false) (k:Int):(h.fin k).stops=true:=by
 unfold Hp.stops;rw [(mv (aF hs).1 k).1];rfl
theorem zS (k:Int) (ho:h.over=false) (hf:h.full=true):h.raise k=h.fin 4:=by
 unfold Hp.raise Hp.new
 rw [if_pos hf,if_pos (mv ho 4).1]
theorem Dr (k:Int) (ho:h.over=false) (hf:h.full=false):h.raise k={ h with objs:=h.objs++[⟨k,cZ h.file.classes k.toNat⟩],thrown:=(h.objs.length:Nat) }:=by
 have hn:h.new k={ h with objs:=h.objs++[⟨k,cZ h.file.classes k.toNat⟩] }:=by unfold Hp.new;rw [if_neg (by rw [hf];decide)]
 have hv:h.newV=⟨3,(h.objs.length:Nat)⟩:=by unfold Hp.newV;rw [if_neg (by rw [hf];decide)]
 unfold Hp.raise
 rw [hn,hv,if_neg (by simp [ho])]
def nV (h':Hp) (v:Va):Ending:=if h'.over=true then bF h'.sh.fin 0 0 else if 0<=h'.thrown then vp h'.thrown else .returned (cm (im v))
structure cM (X:Nat->Prop) (wx w0:World) (g:Mg) (qs:List Qb) (a:Mc) (c:aL) (h':Hp) (v:Va) (e:Ending) (w':World):Prop where
 how:e=nV h' v
 stop:h'.stops=true->RS 1 X wx w0 g w' h' qs a c
 go:h'.stops=false->RX 1 X wx w0 g w' h' qs a c
section
variable {X:Nat->Prop} {wx w0 w':World} {g:Mg} {h:Hp}
theorem ea {qs:List Qb} {e:Ending} (hs:h.stops=false) (he:e=.returned (cm (im v))) (H:RX 1 X wx w0 g w' h qs a c):cM X wx w0 g qs a c h v e w':=by
 obtain ⟨ho,ht⟩:=aF hs
 exact ⟨by unfold nV;rw [if_neg (by rw [ho];decide),if_neg ht];exact he,fun q=>by rw [hs] at q;exact absurd q (by decide),fun _=>H⟩
theorem fC {qs:List Qb} (ho:h.over=false) (e:h'=h.fin k) (H:RS 1 X wx w0 g w' h qs a c):cM X wx w0 g qs a c h' v (bF k 0 0) w':=by
 subst e
 obtain ⟨h1,h2⟩:=mv ho k
 refine ⟨?_,fun _=>H.eqv (vi h k),fun q=>?_⟩
 ·unfold nV;rw [if_pos h1,h2]
 ·simp [Hp.stops,h1] at q
end
theorem oZ (hs:h.stops=false) (k:Int) (v:Va):cU h=nV (h.raise k) v/\(h.raise k).stops=true:=by
 obtain ⟨ho,-⟩:=aF hs
 cases hf:h.full with
 | true =>
  have e1:=zS k ho hf
  have h1:=mv ho 4
  refine ⟨?_,by rw [e1];exact oY hs 4⟩
  unfold nV cU
  rw [e1,if_pos hf,if_pos h1.1,h1.2]
 | false =>
  have e1:=Dr k ho hf
  refine ⟨?_,by rw [e1];simp [Hp.stops]⟩
  unfold nV cU
  rw [e1,if_neg (by rw [hf];decide)]
  dsimp only
  rw [if_neg (by rw [ho];decide),if_pos (by omega)]
theorem tN {w':World} {qs:List Qb} (hs:h.stops=false) (e:h'=h.raise k) (H:RS 1 X wx w0 g w' (h.raise k) qs a c):cM X wx w0 g qs a c h' v (cU h) w':=by
 subst e
 obtain ⟨h1,h2⟩:=oZ hs k v
 exact ⟨h1,fun _=>H,fun q=>by rw [h2] at q;exact absurd q (by decide)⟩
theorem jm (h:Hp):∃ch,cU h=.panicked ch:=by unfold cU;split<;>exact ⟨_,rfl⟩
section
variable {X:Nat->Prop} {wx w0 w':World} {g:Mg} {h:Hp}
theorem jK {qs:List Qb} (ho:h.over=false) (e:h'=h.fin k) (H:RS 0 X wx w0 g w' h qs a c):iT X wx w0 g qs a c ⟨h',c',nx⟩ (bF k 0 0) w':=by
 subst e
 obtain ⟨h1,h2⟩:=mv ho k
 refine ⟨?_,fun _=>H.eqv (vi h k),fun q=>?_⟩
 ·unfold mV;dsimp only;rw [if_pos h1,h2]
 ·simp [Hp.stops,h1] at q
theorem ou {qs:List Qb} (hs:h.stops=false) (e:h'=h.raise k) (H:RS 0 X wx w0 g w' (h.raise k) qs a c):iT X wx w0 g qs a c ⟨h',c',nx⟩ (cU h) w':=by
 subst e
 obtain ⟨h1,h2⟩:=oZ hs k aE
 refine ⟨?_,fun _=>H,fun q=>by dsimp only at q;rw [h2] at q;exact absurd q (by decide)⟩
 unfold Hp.stops at h2
 rw [Bool.or_eq_true] at h2
 rw [h1]
 unfold nV mV
 dsimp only
 rcases h2 with h2|h2
 ·rw [if_pos h2,if_pos h2]
 ·have h2:=of_decide_eq_true h2
  split<;>first|rfl|rw [if_pos h2]
theorem vP {qs:List Qb} (hs:h.stops=false) (H:RX 0 X wx w0 g w' h qs a { c with locs:=c'.locs }):iT X wx w0 g qs a c ⟨h,c',nx⟩ (.returned (.tuple #[])) w':=by
 obtain ⟨ho,ht⟩:=aF hs
 refine ⟨?_,fun q=>?_,fun _=>H⟩
 ·unfold mV;dsimp only;rw [if_neg (by rw [ho];decide),if_neg ht]
 ·dsimp only at q;rw [hs] at q;exact absurd q (by decide)
end
theorem iU {b:Bool} (hb:b=false):h.must b=h.fin 6:=by unfold Hp.must;rw [if_neg (by rw [hb];decide)]
theorem nW {b:Bool} (hb:b=true):h.must b=h:=by unfold Hp.must;rw [if_pos hb]
section
variable {h:Hp} {c:aL} {n k:Int}
theorem fO (hk:(c.rd n).kind≠k):h.rdH c n k=h.fin 6:=iU (decide_eq_false hk)
theorem de (hk:(c.rd n).kind=k):h.rdH c n k=h:=nW (decide_eq_true hk)
end
theorem aD {b' i:Nat} {k n x:Value} (h:w.cell? ⟨b,i,none⟩=some x) (hb:b≠b'):((w.setCell ⟨b',0,none⟩ k).setCell ⟨b',1,none⟩ n).cell? ⟨b,i,none⟩=some x:=by
 rw [World.cell?_setCell_far _ _ _ _ (Ne.symm hb),World.cell?_setCell_far _ _ _ _ (Ne.symm hb)];exact h
theorem dr {y0 y1 y2 y3 y4 y5:Value} {t:TypeId} (h:w.heap[b]?=some (.cells #[y0,y1,y2,y3,y4,y5] t (0,0))):w.cell? ⟨b,0,none⟩=some y0/\w.cell? ⟨b,1,none⟩=some y1/\w.cell? ⟨b,2,none⟩=some y2/\w.cell? ⟨b,3,none⟩=some y3/\w.cell? ⟨b,4,none⟩=some y4/\w.cell? ⟨b,5,none⟩=some y5:=by
 refine ⟨?_,?_,?_,?_,?_,?_⟩<;>(rw [ab h];rfl)
theorem RX.cells {s:Nat} {qs:List Qb} (H:RX s X wx w0 g w h qs a c):∃vs,tr g w a c vs:=by
 obtain ⟨vc,vo,vx,vs,l,H⟩:=H
 exact ⟨vs,H.ca.cells⟩
theorem kn (a b:Int) (w:World):(Instr.field 100 (.agg #[ι a,ι b]) 1).run Tryz.prog w=.ok (ι b) w:=by
 simp [Instr.field,go_sem,underlying100,run_underlying underlying100,run_underlying underlying2,asAgg]
theorem jn {w':World} {qs:List Qb} {ch:List PanicEntry} (hs:h'.stops=true) (he:nV h' v=.panicked ch) (H:RS 1 X wx w0 g w' h' qs a c):cM X wx w0 g qs a c h' v (.panicked ch) w' :=
 ⟨he.symm,fun _=>H,fun q=>by rw [hs] at q;exact absurd q (by decide)⟩
theorem Ds (v:Va) (hs:h'.stops=true):∃ch,nV h' v=.panicked ch:=by
 unfold Hp.stops at hs
 rw [Bool.or_eq_true] at hs
 unfold nV
 split
 ·exact ⟨_,rfl⟩
 ·rename_i hn
  rw [if_pos (of_decide_eq_true (hs.resolve_left hn))]
  exact ⟨_,rfl⟩
theorem K5 (v:Va) (hs:h'.stops=false):nV h' v=.returned (cm (im v)):=by
 obtain ⟨ho,ht⟩:=aF hs
 unfold nV;rw [if_neg (by rw [ho];decide),if_neg ht]
theorem fY {qs:List Qb} {f:FuncId} {args:Array Value} (hc:∀X wx w,RX 1 X wx w0 g w h qs a c->χ f args w fun e w2=>cM X wx w0 g qs a c h' v e w2) :
  (∃ch,(h'.stops=true/\nV h' v=.panicked ch)/\∀X wx w,RX 1 X wx w0 g w h qs a c->χ f args w fun e w2=>e=.panicked ch/\RS 1 X wx w0 g w2 h' qs a c) ∨
  (h'.stops=false/\∀X wx w,RX 1 X wx w0 g w h qs a c->χ f args w fun e w2=>e=.returned (cm (im v))/\RX 1 X wx w0 g w2 h' qs a c):=by
 cases hs:h'.stops with
 | true =>
  obtain ⟨ch,he⟩:=Ds v hs
  exact Or.inl ⟨ch,⟨rfl,he⟩,fun X wx w H=>(hc X wx w H).mono fun e w2 q=>⟨q.how.trans he,q.stop hs⟩⟩
 | false=>exact Or.inr ⟨rfl,fun X wx w H=>(hc X wx w H).mono fun e w2 q=>⟨q.how.trans (K5 v hs),q.go hs⟩⟩
section
open Go.Maps (Keyed has)
theorem pK (op:Int) (X:Nat->Prop) (wx w0:World) (g:Mg) (h:Hp) (qs:List Qb) (a:Mc) (c:aL) (ia ib ic ii:Int) (args:List Int) (Q:Option Addr) (nl q:Nat) (w:World) (H:RX 1 X wx w0 g w h qs a c) (hs:h.stops=false) (k:Int) (hb:0<=ib/\ib<c.locs.length) (hc:0<=ic/\ic<c.locs.length) (hk:k=1∨k=2) (h2:k=2->ib+1<c.locs.length/\ic+1<c.locs.length) (eT:h.objs.length<=100) :
  χ 244 #[π a.q 0,ι k,.agg #[ι op,ι ia,ι ib,ι ic,ι ii,.slice Q nl q]] w fun e w'=>cM X wx w0 g qs a c (h.reckH (c.rd ib) (c.rd ic) k ii) (h.reckV (c.rd ib) (c.rd ic) k ii) e w':=by
 have ho:=(aF hs).1
 have HH:=ae H
 have HS:=ae hs
 have hq:=H.qlt
 obtain ⟨L0,L1⟩:=bc w #[ι op,ι ia,ι ib,ι ic,ι ii,.slice Q nl q] #[ι 0,ι 0] 55 100
 have HB:Θ (Bl w ((w.alloc (.cells #[ι op,ι ia,ι ib,ι ic,ι ii,.slice Q nl q] 55)).alloc fa)):=((Bl.refl w).alloc _).alloc _
 have dK:=ae L0
 have ey:=ae L1
 have iw:w.heap.size≠a.q:=by omega
 have fT:w.heap.size+1≠a.q:=by omega
 have lv:w.heap.size≠w.heap.size+1:=by omega
 clear L0 L1
 have z0:=ae (H.y.bl HB.o).hb
 have z1:=ae (And.intro (dr dK.o).2.2.1 (And.intro (dr dK.o).2.2.2.1 (dr dK.o).2.2.2.2.1))
 have hkk:1<=k/\k<=3:=by omega
 by_cases e1:(c.rd ib).kind=k
 ·by_cases e2:(c.rd ic).kind=k
  ·have hm:h.mustB (eU (c.rd ib) (c.rd ic) k)=true:=by unfold Hp.mustB eU;rw [e1,e2,ho];simp
   have ev:h.reckV (c.rd ib) (c.rd ic) k ii=⟨k,lB k ii (c.rd ib) (c.rd ic)⟩:=by unfold Hp.reckV;rw [if_pos hm]
   have i1:im (c.rd ib)=c.rd ib:=iD (by omega)
   have i2:im (c.rd ic)=c.rd ic:=iD (by omega)
   have jG:Θ (∀w',RX 1 X wx w0 g w' h qs a c->χ 131 #[π a.q 0,ι ib,ι k] w' fun e w2=>e=.returned (cm (im (c.rd ib)))/\Bl w' w2):=fun w' H=>fj 1 X wx w0 g h qs a c ib k w' H hb hkk (fun x=>(h2 x).1) e1
   have pU:Θ (∀w',RX 1 X wx w0 g w' h qs a c->χ 131 #[π a.q 0,ι ic,ι k] w' fun e w2=>e=.returned (cm (im (c.rd ic)))/\Bl w' w2):=fun w' H=>fj 1 X wx w0 g h qs a c ic k w' H hc hkk (fun x=>(h2 x).2) e2
   rw [i1] at jG
   rw [i2] at pU
   have HK:=ae hk
   cases hr:qK k ii (c.rd ib) (c.rd ic) with
   | true =>
    have eh:h.reckH (c.rd ib) (c.rd ic) k ii=h:=by unfold Hp.reckH;rw [if_pos hm,if_pos hr]
    rw [eh,ev]
    have i3:im ⟨k,lB k ii (c.rd ib) (c.rd ic)⟩=⟨k,lB k ii (c.rd ib) (c.rd ic)⟩:=iD (by show k≠3;omega)
    have HE:Θ (∀w',RX 1 X wx w0 g w' h qs a c->cM X wx w0 g qs a c h ⟨k,lB k ii (c.rd ib) (c.rd ic)⟩ (.returned (cm ⟨k,lB k ii (c.rd ib) (c.rd ic)⟩)) w'):=fun w' H=>ea hs (by rw [i3]) H
    have HR:=ae hr
    clear H hs hb hc hk h2 eT e1 e2 hm ev i1 i2 i3 hr eh hkk
    go_enter func244,ntmps244
    go_wp2
    refine wp_region_held_drew (S:=fun w'=>κ w' a.q 0 (π g.hb 0)/\κ w' w.heap.size 2 (ι ib)/\κ w' w.heap.size 3 (ι ic)/\κ w' w.heap.size 4 (ι ii)) (by kernel_rfl) ?_ (fun aa=>?_)
    ·exact ⟨z0.o,z1.o.1,z1.o.2.1,z1.o.2.2⟩
    iterate 15 (refine tn rfl (by kernel_rfl) (fun _ _ _ h=>h) (by intro _ h;go_split_ands;go_simp<;>with_reducible rfl) aa ?_;try simp only [aZ])
    refine aY (i:=11) (by kernel_rfl) rfl fun K hK=>?_
    go_simp
    go_at_call 131
    refine (jG.o _ (HH.o.bl (HB.o.drew))).mono ?_
    rintro e w1 ⟨rfl,b1⟩
    have jT:=ae (b1.cell aa.1)
    have ko:=ae (b1.cell aa.2.1)
    have nX:=ae (b1.cell aa.2.2.1)
    have GR:=ae (b1.cell aa.2.2.2)
    replace b1:=ae b1
    go_wp2_with fail
    refine hK.out _ _ (⟨jT.o,ko.o,nX.o,GR.o⟩) (fun ah=>?_)
    try simp only [aZ]
    refine aY (i:=16) (by kernel_rfl) rfl fun K hK=>?_
    go_simp
    go_at_call 131
    refine (pU.o _ (HH.o.bl (HB.o.drew.trans b1.o))).mono ?_
    rintro e w2 ⟨rfl,b2⟩
    have o0:=ae (b2.cell ah.1)
    have rM:=ae (b2.cell ah.2.1)
    have xZ:=ae (b2.cell ah.2.2.1)
    have Ov:=ae (b2.cell ah.2.2.2)
    replace b2:=ae b2
    go_wp2_with fail
    refine hK.out _ _ (⟨o0.o,rM.o,xZ.o,Ov.o⟩) (fun aH=>?_)
    try simp only [aZ]
    refine aY (i:=17) (by kernel_rfl) rfl fun K hK=>?_
    go_simp
    go_at_call 231
    refine (za g.hb k ii _ _ HK.o HR.o _).mono ?_
    rintro e w3 ⟨rfl,b3⟩
    have GU:=ae (b3.cell aH.1)
    have GV:=ae (b3.cell aH.2.1)
    have M6:=ae (b3.cell aH.2.2.1)
    have QR:=ae (b3.cell aH.2.2.2)
    replace b3:=ae b3
    have bb:=ae (((HB.o.drew.trans b1.o).trans b2.o).trans b3.o)
    have q1:=ax ((b1.o.trans b2.o).trans b3.o) ey.o
    have c4:=aO q1
    have c5:=aJ q1
    have fz:=aA q1
    replace q1:=ae q1
    go_wp2_with fail
    refine hK.out _ _ (⟨GU.o,GV.o,M6.o,QR.o⟩) (fun bG=>?_)
    try simp only [aZ]
    refine aY (i:=18) (by kernel_rfl) rfl fun K hK=>?_
    go_wp2_with fail
    refine hK.out _ _ (⟨aD GU.o (Ne.symm fT),aD GV.o lv,aD M6.o lv,aD QR.o lv⟩) (fun bd=>?_)
    try simp only [aZ]
    refine wpAnyH_done (by kernel_rfl) ?_ _
    go_wp2
    refine bodyPost_ret (results_cell_row rfl _ _ (w.heap.size+1) _ _ _ _ rfl (ba q1.o) underlying100 rfl au) rfl ?_
    exact HE.o _ (HH.o.bl (cT bb.o (by omega) _ _))
   | false =>
    have eh:h.reckH (c.rd ib) (c.rd ic) k ii=h.raise 2:=by unfold Hp.reckH;rw [if_pos hm,if_neg (by rw [hr];decide)]
    rw [eh]
    obtain ⟨ch,hch⟩:=jm h
    have HE:Θ (∀w',RX 1 X wx w0 g w' (h.raise 2) qs a c->cM X wx w0 g qs a c (h.raise 2) (h.reckV (c.rd ib) (c.rd ic) k ii) (.panicked ch) w'):=fun w' H=>hch▸tN hs rfl H.rs
    have HN:Θ (∀w',RX 1 X wx w0 g w' h qs a c->χ 231 #[π g.hb 0,ι k,ι ii,cm (c.rd ib),cm (c.rd ic)] w' fun e w2=>e=.panicked ch/\RX 1 X wx w0 g w2 (h.raise 2) qs a c):=fun w' H=>hch▸C6 1 X wx w0 g h qs a c k ii _ _ hk hr w' H eT ho
    generalize h.reckV (c.rd ib) (c.rd ic) k ii=V at *
    clear H hs hb hc hk h2 eT e1 e2 hm i1 i2 hr eh hkk hch
    go_enter func244,ntmps244
    go_wp2
    refine wp_region_held_drew (S:=fun w'=>κ w' a.q 0 (π g.hb 0)/\κ w' w.heap.size 2 (ι ib)/\κ w' w.heap.size 3 (ι ic)/\κ w' w.heap.size 4 (ι ii)) (by kernel_rfl) ?_ (fun aa=>?_)
    ·exact ⟨z0.o,z1.o.1,z1.o.2.1,z1.o.2.2⟩
    iterate 15 (refine tn rfl (by kernel_rfl) (fun _ _ _ h=>h) (by intro _ h;go_split_ands;go_simp<;>with_reducible rfl) aa ?_;try simp only [aZ])
    refine aY (i:=11) (by kernel_rfl) rfl fun K hK=>?_
    go_simp
    go_at_call 131
    refine (jG.o _ (HH.o.bl (HB.o.drew))).mono ?_
    rintro e w1 ⟨rfl,b1⟩
    have jT:=ae (b1.cell aa.1)
    have ko:=ae (b1.cell aa.2.1)
    have nX:=ae (b1.cell aa.2.2.1)
    have GR:=ae (b1.cell aa.2.2.2)
    replace b1:=ae b1
    go_wp2_with fail
    refine hK.out _ _ (⟨jT.o,ko.o,nX.o,GR.o⟩) (fun ah=>?_)
    try simp only [aZ]
    refine aY (i:=16) (by kernel_rfl) rfl fun K hK=>?_
    go_simp
    go_at_call 131
    refine (pU.o _ (HH.o.bl (HB.o.drew.trans b1.o))).mono ?_
    rintro e w2 ⟨rfl,b2⟩
    have o0:=ae (b2.cell ah.1)
    have rM:=ae (b2.cell ah.2.1)
    have xZ:=ae (b2.cell ah.2.2.1)
    have Ov:=ae (b2.cell ah.2.2.2)
    replace b2:=ae b2
    go_wp2_with fail
    refine hK.out _ _ (⟨o0.o,rM.o,xZ.o,Ov.o⟩) (fun aH=>?_)
    try simp only [aZ]
    refine aY (i:=17) (by kernel_rfl) rfl fun K hK=>?_
    go_simp
    go_at_call 231
    refine (HN.o _ (HH.o.bl ((HB.o.drew.trans b1.o).trans b2.o))).mono ?_
    rintro e w3 ⟨rfl,H3⟩
    exact ⟨rfl,HE.o _ H3⟩
  ·have hm:eU (c.rd ib) (c.rd ic) k=false:=by unfold eU;simp [e2]
   have eh:h.reckH (c.rd ib) (c.rd ic) k ii=h.fin 6:=by unfold Hp.reckH Hp.mustB;rw [hm,Bool.false_and,if_neg (by decide),iU rfl]
   rw [eh]
   generalize h.reckV (c.rd ib) (c.rd ic) k ii=V
   have jG:Θ (∀w',RX 1 X wx w0 g w' h qs a c->χ 131 #[π a.q 0,ι ib,ι k] w' fun e w2=>e=.returned (cm (im (c.rd ib)))/\Bl w' w2):=fun w' H=>fj 1 X wx w0 g h qs a c ib k w' H hb hkk (fun x=>(h2 x).1) e1
   have pU:Θ (∀w',RX 1 X wx w0 g w' h qs a c->χ 131 #[π a.q 0,ι ic,ι k] w' fun e w2=>e=bF 6 0 0/\Bl w' w2):=fun w' H=>jI 1 X wx w0 g h qs a c ic k w' H hc hkk (fun x=>(h2 x).2) e2
   clear H hs hb hc hk h2 eT e1 e2 hm eh hkk
   go_enter func244,ntmps244
   go_wp2
   refine wp_region_held_drew (S:=fun w'=>κ w' a.q 0 (π g.hb 0)/\κ w' w.heap.size 2 (ι ib)/\κ w' w.heap.size 3 (ι ic)/\κ w' w.heap.size 4 (ι ii)) (by kernel_rfl) ?_ (fun aa=>?_)
   ·exact ⟨z0.o,z1.o.1,z1.o.2.1,z1.o.2.2⟩
   iterate 15 (refine tn rfl (by kernel_rfl) (fun _ _ _ h=>h) (by intro _ h;go_split_ands;go_simp<;>with_reducible rfl) aa ?_;try simp only [aZ])
   refine aY (i:=11) (by kernel_rfl) rfl fun K hK=>?_
   go_simp
   go_at_call 131
   refine (jG.o _ (HH.o.bl (HB.o.drew))).mono ?_
   rintro e w1 ⟨rfl,b1⟩
   have jT:=ae (b1.cell aa.1)
   have ko:=ae (b1.cell aa.2.1)
   have nX:=ae (b1.cell aa.2.2.1)
   have GR:=ae (b1.cell aa.2.2.2)
   replace b1:=ae b1
   go_wp2_with fail
   refine hK.out _ _ (⟨jT.o,ko.o,nX.o,GR.o⟩) (fun ah=>?_)
   try simp only [aZ]
   refine aY (i:=16) (by kernel_rfl) rfl fun K hK=>?_
   go_simp
   go_at_call 131
   refine (pU.o _ (HH.o.bl (HB.o.drew.trans b1.o))).mono ?_
   rintro e w2 ⟨rfl,b2⟩
   exact ⟨rfl,fC (aF HS.o).1 rfl (HH.o.bl ((HB.o.drew.trans b1.o).trans b2)).rs⟩
 ·have hm:eU (c.rd ib) (c.rd ic) k=false:=by unfold eU;simp [e1]
  have eh:h.reckH (c.rd ib) (c.rd ic) k ii=h.fin 6:=by unfold Hp.reckH Hp.mustB;rw [hm,Bool.false_and,if_neg (by decide),iU rfl]
  rw [eh]
  generalize h.reckV (c.rd ib) (c.rd ic) k ii=V
  have jG:Θ (∀w',RX 1 X wx w0 g w' h qs a c->χ 131 #[π a.q 0,ι ib,ι k] w' fun e w2=>e=bF 6 0 0/\Bl w' w2):=fun w' H=>jI 1 X wx w0 g h qs a c ib k w' H hb hkk (fun x=>(h2 x).1) e1
  clear H hs hb hc hk h2 eT e1 hm eh hkk
  go_enter func244,ntmps244
  go_wp2
  refine wp_region_held_drew (S:=fun w'=>κ w' a.q 0 (π g.hb 0)/\κ w' w.heap.size 2 (ι ib)/\κ w' w.heap.size 3 (ι ic)/\κ w' w.heap.size 4 (ι ii)) (by kernel_rfl) ?_ (fun aa=>?_)
  ·exact ⟨z0.o,z1.o.1,z1.o.2.1,z1.o.2.2⟩
  iterate 15 (refine tn rfl (by kernel_rfl) (fun _ _ _ h=>h) (by intro _ h;go_split_ands;go_simp<;>with_reducible rfl) aa ?_;try simp only [aZ])
  refine aY (i:=11) (by kernel_rfl) rfl fun K hK=>?_
  go_simp
  go_at_call 131
  refine (jG.o _ (HH.o.bl (HB.o.drew))).mono ?_
  rintro e w1 ⟨rfl,b1⟩
  exact ⟨rfl,fC (aF HS.o).1 rfl (HH.o.bl (HB.o.drew.trans b1)).rs⟩
end
section
open Go.Maps (Keyed has)
section
variable (X:Nat->Prop) (wx w0:World) (g:Mg) (h:Hp)
theorem zT (qs:List Qb) (a:Mc) (c:aL) (ia ib ic ii:Int) (args:List Int) (Q:Option Addr) (nl q:Nat) (w:World) (H:RX 1 X wx w0 g w h qs a c) (hs:h.stops=false) (hb:0<=ib/\ib<c.locs.length) (hc:0<=ic/\ic<c.locs.length) (eT:h.objs.length<=100) :
  χ 230 #[π a.q 0,.agg #[ι 5,ι ia,ι ib,ι ic,ι ii,.slice Q nl q]] w fun e w'=>cM X wx w0 g qs a c (h.reckH (c.rd ib) (c.rd ic) 1 ii) (h.reckV (c.rd ib) (c.rd ic) 1 ii) e w':=by
 have ho:=(aF hs).1
 have HH:=ae H
 have HS:=ae hs
 have hq:=H.qlt
 obtain ⟨L0,L1⟩:=bc w #[ι 5,ι ia,ι ib,ι ic,ι ii,.slice Q nl q] #[ι 0,ι 0] 55 100
 have HB:Θ (Bl w ((w.alloc (.cells #[ι 5,ι ia,ι ib,ι ic,ι ii,.slice Q nl q] 55)).alloc fa)):=((Bl.refl w).alloc _).alloc _
 have dK:=ae L0
 have ey:=ae L1
 have iw:w.heap.size≠a.q:=by omega
 have fT:w.heap.size+1≠a.q:=by omega
 have lv:w.heap.size≠w.heap.size+1:=by omega
 clear L0 L1
 rcases fY (fun X wx w H=>pK 5 X wx w0 g h qs a c ia ib ic ii args Q nl q w H hs 1 hb hc (Or.inl rfl) (fun x=>by omega) eT) with ⟨ch,st,HC⟩|⟨st,HC⟩
 ·replace HC:=ae HC
  have HE:Θ (∀w',RS 1 X wx w0 g w' (h.reckH (c.rd ib) (c.rd ic) 1 ii) qs a c->cM X wx w0 g qs a c (h.reckH (c.rd ib) (c.rd ic) 1 ii) (h.reckV (c.rd ib) (c.rd ic) 1 ii) (.panicked ch) w'):=fun w' H=>jn st.1 st.2 H
  clear H hs st hb hc eT
  go_enter func230,ntmps230
  go_wp2_with (go_at_call 244;refine (HH.o.y.useN HB.o HC.o).mono ?_;rintro e w1 ⟨rfl,H1⟩;replace H1:=ae H1)
  exact ⟨rfl,HE.o _ H1.o⟩
 ·replace HC:=ae HC
  have HE:Θ (∀w',RX 1 X wx w0 g w' (h.reckH (c.rd ib) (c.rd ic) 1 ii) qs a c->cM X wx w0 g qs a c (h.reckH (c.rd ib) (c.rd ic) 1 ii) (h.reckV (c.rd ib) (c.rd ic) 1 ii) (.returned (cm (im (h.reckV (c.rd ib) (c.rd ic) 1 ii)))) w'):=fun w' H=>ea st rfl H
  clear H hs st hb hc eT
  go_enter func230,ntmps230
  go_wp2_with (go_at_call 244;refine (HH.o.y.useY HB.o HC.o).mono ?_;rintro e w1 ⟨rfl,H1,K1⟩;have q1:=K1.at (Xp.new (Nat.le_succ _) (dg w _ _)) ey.o;have c4:=aO q1;have c5:=aJ q1;have fz:=aA q1;clear K1;replace H1:=ae H1;replace q1:=ae q1)
  refine bodyPost_ret (results_cell_row rfl _ _ (w.heap.size+1) _ _ _ _ rfl (ba q1.o) underlying100 rfl au) rfl ?_
  refine HE.o _ (dz.x (dz.set (dz.set H1.o ?_ 0 _) ?_ 1 _))<;>exact (Xp.new (Nat.le_succ _) (dg w _ _))
theorem zU (qs:List Qb) (a:Mc) (c:aL) (ia ib ic ii:Int) (args:List Int) (Q:Option Addr) (nl q:Nat) (w:World) (H:RX 1 X wx w0 g w h qs a c) (hs:h.stops=false) (hb:0<=ib/\ib<c.locs.length) (hc:0<=ic/\ic<c.locs.length) (eT:h.objs.length<=100) (h2:ib+1<c.locs.length/\ic+1<c.locs.length) :
  χ 230 #[π a.q 0,.agg #[ι 6,ι ia,ι ib,ι ic,ι ii,.slice Q nl q]] w fun e w'=>cM X wx w0 g qs a c (h.reckH (c.rd ib) (c.rd ic) 2 ii) (h.reckV (c.rd ib) (c.rd ic) 2 ii) e w':=by
 have ho:=(aF hs).1
 have HH:=ae H
 have HS:=ae hs
 have hq:=H.qlt
 obtain ⟨L0,L1⟩:=bc w #[ι 6,ι ia,ι ib,ι ic,ι ii,.slice Q nl q] #[ι 0,ι 0] 55 100
 have HB:Θ (Bl w ((w.alloc (.cells #[ι 6,ι ia,ι ib,ι ic,ι ii,.slice Q nl q] 55)).alloc fa)):=((Bl.refl w).alloc _).alloc _
 have dK:=ae L0
 have ey:=ae L1
 have iw:w.heap.size≠a.q:=by omega
 have fT:w.heap.size+1≠a.q:=by omega
 have lv:w.heap.size≠w.heap.size+1:=by omega
 clear L0 L1
 rcases fY (fun X wx w H=>pK 6 X wx w0 g h qs a c ia ib ic ii args Q nl q w H hs 2 hb hc (Or.inr rfl) (fun x=>h2) eT) with ⟨ch,st,HC⟩|⟨st,HC⟩
 ·replace HC:=ae HC
  have HE:Θ (∀w',RS 1 X wx w0 g w' (h.reckH (c.rd ib) (c.rd ic) 2 ii) qs a c->cM X wx w0 g qs a c (h.reckH (c.rd ib) (c.rd ic) 2 ii) (h.reckV (c.rd ib) (c.rd ic) 2 ii) (.panicked ch) w'):=fun w' H=>jn st.1 st.2 H
  clear H hs st hb hc eT h2
  go_enter func230,ntmps230
  go_wp2_with (go_at_call 244;refine (HH.o.y.useN HB.o HC.o).mono ?_;rintro e w1 ⟨rfl,H1⟩;replace H1:=ae H1)
  exact ⟨rfl,HE.o _ H1.o⟩
 ·replace HC:=ae HC
  have HE:Θ (∀w',RX 1 X wx w0 g w' (h.reckH (c.rd ib) (c.rd ic) 2 ii) qs a c->cM X wx w0 g qs a c (h.reckH (c.rd ib) (c.rd ic) 2 ii) (h.reckV (c.rd ib) (c.rd ic) 2 ii) (.returned (cm (im (h.reckV (c.rd ib) (c.rd ic) 2 ii)))) w'):=fun w' H=>ea st rfl H
  clear H hs st hb hc eT h2
  go_enter func230,ntmps230
  go_wp2_with (go_at_call 244;refine (HH.o.y.useY HB.o HC.o).mono ?_;rintro e w1 ⟨rfl,H1,K1⟩;have q1:=K1.at (Xp.new (Nat.le_succ _) (dg w _ _)) ey.o;have c4:=aO q1;have c5:=aJ q1;have fz:=aA q1;clear K1;replace H1:=ae H1;replace q1:=ae q1)
  refine bodyPost_ret (results_cell_row rfl _ _ (w.heap.size+1) _ _ _ _ rfl (ba q1.o) underlying100 rfl au) rfl ?_
  refine HE.o _ (dz.x (dz.set (dz.set H1.o ?_ 0 _) ?_ 1 _))<;>exact (Xp.new (Nat.le_succ _) (dg w _ _))
theorem zV (qs:List Qb) (a:Mc) (c:aL) (ia ib ic ii:Int) (args:List Int) (Q:Option Addr) (nl q:Nat) (w:World) (H:RX 1 X wx w0 g w h qs a c) (hs:h.stops=false) (hb:0<=ib/\ib<c.locs.length) :
  χ 230 #[π a.q 0,.agg #[ι 7,ι ia,ι ib,ι ic,ι ii,.slice Q nl q]] w fun e w'=>cM X wx w0 g qs a c (h.rdH c ib 1) ⟨2,(c.rd ib).n⟩ e w':=by
 have ho:=(aF hs).1
 have HH:=ae H
 have HS:=ae hs
 have hq:=H.qlt
 obtain ⟨L0,L1⟩:=bc w #[ι 7,ι ia,ι ib,ι ic,ι ii,.slice Q nl q] #[ι 0,ι 0] 55 100
 have HB:Θ (Bl w ((w.alloc (.cells #[ι 7,ι ia,ι ib,ι ic,ι ii,.slice Q nl q] 55)).alloc fa)):=((Bl.refl w).alloc _).alloc _
 have dK:=ae L0
 have ey:=ae L1
 have iw:w.heap.size≠a.q:=by omega
 have fT:w.heap.size+1≠a.q:=by omega
 have lv:w.heap.size≠w.heap.size+1:=by omega
 clear L0 L1
 by_cases e1:(c.rd ib).kind=1
 ·rw [de e1]
  have i1:im (c.rd ib)=c.rd ib:=iD (by omega)
  have HR:Θ (∀w',RX 1 X wx w0 g w' h qs a c->χ 131 #[π a.q 0,ι ib,ι 1] w' fun e w2=>e=.returned (cm (im (c.rd ib)))/\Bl w' w2):=fun w' H=>fj 1 X wx w0 g h qs a c ib 1 w' H hb (by omega) (fun x=>by omega) e1
  rw [i1] at HR
  have SD:=fun w=>kn (c.rd ib).kind (c.rd ib).n w
  have HE:Θ (∀w',RX 1 X wx w0 g w' h qs a c->cM X wx w0 g qs a c h ⟨2,(c.rd ib).n⟩ (.returned (cm ⟨2,(c.rd ib).n⟩)) w'):=fun w' H=>ea hs rfl H
  clear H hs hb e1 i1
  go_enter func230,ntmps230
  go_wp2_with (first
   | (go_at_call 131;refine (HR.o _ (HH.o.bl HB.o)).mono ?_;rintro e w1 ⟨rfl,b1⟩;have q1:=ax b1 ey.o;have c4:=aO q1;have c5:=aJ q1;have fz:=aA q1;replace q1:=ae q1;replace b1:=ae b1)
   | (go_at_call 100;refine (j8 (c.rd ib).n _).mono ?_;rintro e w2 ⟨rfl,b2⟩;replace q1:=ae (ax b2 q1.o);clear c4 c5 fz;have c4:=aO q1.o;have c5:=aJ q1.o;have fz:=aA q1.o;replace b2:=ae b2))
  refine bodyPost_ret (results_cell_row rfl _ _ (w.heap.size+1) _ _ _ _ rfl (ba q1.o) underlying100 rfl au) rfl ?_
  exact HE.o _ (HH.o.bl (cT ((HB.o.trans b1.o).trans b2.o) (by omega) _ _))
 ·rw [fO e1]
  have HR:Θ (∀w',RX 1 X wx w0 g w' h qs a c->χ 131 #[π a.q 0,ι ib,ι 1] w' fun e w2=>e=bF 6 0 0/\Bl w' w2):=fun w' H=>jI 1 X wx w0 g h qs a c ib 1 w' H hb (by omega) (fun x=>by omega) e1
  clear H hs hb e1
  go_enter func230,ntmps230
  go_wp2_with (go_at_call 131;refine (HR.o _ (HH.o.bl HB.o)).mono ?_;rintro e w1 ⟨rfl,b1⟩;replace b1:=ae b1)
  exact ⟨rfl,fC (aF HS.o).1 rfl (HH.o.bl (HB.o.trans b1.o)).rs⟩
theorem zW (qs:List Qb) (a:Mc) (c:aL) (ia ib ic ii:Int) (args:List Int) (Q:Option Addr) (nl q:Nat) (w:World) (H:RX 1 X wx w0 g w h qs a c) (hs:h.stops=false) (hb:0<=ib/\ib<c.locs.length) (h2:ib+1<c.locs.length) :
  χ 230 #[π a.q 0,.agg #[ι 8,ι ia,ι ib,ι ic,ι ii,.slice Q nl q]] w fun e w'=>cM X wx w0 g qs a c (h.rdH c ib 2) ⟨1,wrap32 (c.rd ib).n⟩ e w':=by
 have ho:=(aF hs).1
 have HH:=ae H
 have HS:=ae hs
 have hq:=H.qlt
 obtain ⟨L0,L1⟩:=bc w #[ι 8,ι ia,ι ib,ι ic,ι ii,.slice Q nl q] #[ι 0,ι 0] 55 100
 have HB:Θ (Bl w ((w.alloc (.cells #[ι 8,ι ia,ι ib,ι ic,ι ii,.slice Q nl q] 55)).alloc fa)):=((Bl.refl w).alloc _).alloc _
 have dK:=ae L0
 have ey:=ae L1
 have iw:w.heap.size≠a.q:=by omega
 have fT:w.heap.size+1≠a.q:=by omega
 have lv:w.heap.size≠w.heap.size+1:=by omega
 clear L0 L1
 by_cases e1:(c.rd ib).kind=2
 ·rw [de e1]
  have i1:im (c.rd ib)=c.rd ib:=iD (by omega)
  have HR:Θ (∀w',RX 1 X wx w0 g w' h qs a c->χ 131 #[π a.q 0,ι ib,ι 2] w' fun e w2=>e=.returned (cm (im (c.rd ib)))/\Bl w' w2):=fun w' H=>fj 1 X wx w0 g h qs a c ib 2 w' H hb (by omega) (fun x=>h2) e1
  rw [i1] at HR
  have SD:=fun w=>kn (c.rd ib).kind (c.rd ib).n w
  have HE:Θ (∀w',RX 1 X wx w0 g w' h qs a c->cM X wx w0 g qs a c h ⟨1,wrap32 (c.rd ib).n⟩ (.returned (cm ⟨1,wrap32 (c.rd ib).n⟩)) w'):=fun w' H=>ea hs rfl H
  clear H hs hb h2 e1 i1
  go_enter func230,ntmps230
  go_wp2_with (first
   | (go_at_call 131;refine (HR.o _ (HH.o.bl HB.o)).mono ?_;rintro e w1 ⟨rfl,b1⟩;have q1:=ax b1 ey.o;have c4:=aO q1;have c5:=aJ q1;have fz:=aA q1;replace q1:=ae q1;replace b1:=ae b1)
   | (go_at_call 102;refine (kG (c.rd ib).n _).mono ?_;rintro e w2 ⟨rfl,hw⟩;rw [hw];clear hw w2)
   | (go_at_call 101;refine (j7 (wrap32 (c.rd ib).n) _).mono ?_;rintro e w2 ⟨rfl,b2⟩;replace q1:=ae (ax b2 q1.o);clear c4 c5 fz;have c4:=aO q1.o;have c5:=aJ q1.o;have fz:=aA q1.o;replace b2:=ae b2))
  refine bodyPost_ret (results_cell_row rfl _ _ (w.heap.size+1) _ _ _ _ rfl (ba q1.o) underlying100 rfl au) rfl ?_
  exact HE.o _ (HH.o.bl (cT ((HB.o.trans b1.o).trans b2.o) (by omega) _ _))
 ·rw [fO e1]
  have HR:Θ (∀w',RX 1 X wx w0 g w' h qs a c->χ 131 #[π a.q 0,ι ib,ι 2] w' fun e w2=>e=bF 6 0 0/\Bl w' w2):=fun w' H=>jI 1 X wx w0 g h qs a c ib 2 w' H hb (by omega) (fun x=>h2) e1
  clear H hs hb h2 e1
  go_enter func230,ntmps230
  go_wp2_with (go_at_call 131;refine (HR.o _ (HH.o.bl HB.o)).mono ?_;rintro e w1 ⟨rfl,b1⟩;replace b1:=ae b1)
  exact ⟨rfl,fC (aF HS.o).1 rfl (HH.o.bl (HB.o.trans b1.o)).rs⟩
theorem zX (qs:List Qb) (a:Mc) (c:aL) (ia ib ic ii:Int) (args:List Int) (Q:Option Addr) (nl q:Nat) (w:World) (H:RX 1 X wx w0 g w h qs a c) (hs:h.stops=false) (hb:0<=ib/\ib<c.locs.length) (hc:0<=ic/\ic<c.locs.length) (h2:ib+1<c.locs.length/\ic+1<c.locs.length) :
  χ 230 #[π a.q 0,.agg #[ι 9,ι ia,ι ib,ι ic,ι ii,.slice Q nl q]] w fun e w'=>cM X wx w0 g qs a c ((h.rdH c ib 2).rdH c ic 2) ⟨1,lh (c.rd ib).n (c.rd ic).n⟩ e w':=by
 have ho:=(aF hs).1
 have HH:=ae H
 have HS:=ae hs
 have hq:=H.qlt
 obtain ⟨L0,L1⟩:=bc w #[ι 9,ι ia,ι ib,ι ic,ι ii,.slice Q nl q] #[ι 0,ι 0] 55 100
 have HB:Θ (Bl w ((w.alloc (.cells #[ι 9,ι ia,ι ib,ι ic,ι ii,.slice Q nl q] 55)).alloc fa)):=((Bl.refl w).alloc _).alloc _
 have dK:=ae L0
 have ey:=ae L1
 have iw:w.heap.size≠a.q:=by omega
 have fT:w.heap.size+1≠a.q:=by omega
 have lv:w.heap.size≠w.heap.size+1:=by omega
 clear L0 L1
 have z0:=ae (H.y.bl HB.o).hb
 have z1:=ae (And.intro (dr dK.o).2.2.1 (And.intro (dr dK.o).2.2.2.1 (dr dK.o).2.2.2.2.1))
 by_cases e1:(c.rd ib).kind=2
 ·rw [de e1]
  by_cases e2:(c.rd ic).kind=2
  ·rw [de e2]
   have i1:im (c.rd ib)=c.rd ib:=iD (by omega)
   have i2:im (c.rd ic)=c.rd ic:=iD (by omega)
   have jG:Θ (∀w',RX 1 X wx w0 g w' h qs a c->χ 131 #[π a.q 0,ι ib,ι 2] w' fun e w2=>e=.returned (cm (im (c.rd ib)))/\Bl w' w2):=fun w' H=>fj 1 X wx w0 g h qs a c ib 2 w' H hb (by omega) (fun x=>h2.1) e1
   have pU:Θ (∀w',RX 1 X wx w0 g w' h qs a c->χ 131 #[π a.q 0,ι ic,ι 2] w' fun e w2=>e=.returned (cm (im (c.rd ic)))/\Bl w' w2):=fun w' H=>fj 1 X wx w0 g h qs a c ic 2 w' H hc (by omega) (fun x=>h2.2) e2
   rw [i1] at jG
   rw [i2] at pU
   have SD:=fun w=>kn (c.rd ib).kind (c.rd ib).n w
   have Y8:=fun w=>kn (c.rd ic).kind (c.rd ic).n w
   have HE:Θ (∀w',RX 1 X wx w0 g w' h qs a c->cM X wx w0 g qs a c h ⟨1,lh (c.rd ib).n (c.rd ic).n⟩ (.returned (cm ⟨1,lh (c.rd ib).n (c.rd ic).n⟩)) w'):=fun w' H=>ea hs rfl H
   clear H hs hb hc h2 e1 e2 i1 i2
   go_enter func230,ntmps230
   go_wp2
   refine wp_region_held_drew (S:=fun w'=>κ w' w.heap.size 2 (ι ib)/\κ w' w.heap.size 3 (ι ic)) (by kernel_rfl) ?_ (fun aa=>?_)
   ·exact ⟨z1.o.1,z1.o.2.1⟩
   iterate 6 (refine tn rfl (by kernel_rfl) (fun _ _ _ h=>h) (by intro _ h;go_split_ands;go_simp<;>with_reducible rfl) aa ?_;try simp only [aZ])
   refine aY (i:=3) (by kernel_rfl) rfl fun K hK=>?_
   go_simp
   go_at_call 131
   refine (jG.o _ (HH.o.bl (HB.o.drew))).mono ?_
   rintro e w1 ⟨rfl,b1⟩
   have jT:=ae (b1.cell aa.1)
   have ko:=ae (b1.cell aa.2)
   replace b1:=ae b1
   go_wp2_with fail
   refine hK.out _ _ (⟨jT.o,ko.o⟩) (fun ah=>?_)
   try simp only [aZ]
   refine tn rfl (by kernel_rfl) (fun _ _ _ h=>h) (by intro _ h;go_split_ands;go_simp<;>with_reducible rfl) ah ?_
   try simp only [aZ]
   refine aY (i:=8) (by kernel_rfl) rfl fun K hK=>?_
   go_simp
   go_at_call 131
   refine (pU.o _ (HH.o.bl (HB.o.drew.trans b1.o))).mono ?_
   rintro e w2 ⟨rfl,b2⟩
   have o0:=ae (b2.cell ah.1)
   have rM:=ae (b2.cell ah.2)
   replace b2:=ae b2
   go_wp2_with fail
   refine hK.out _ _ (⟨o0.o,rM.o⟩) (fun aH=>?_)
   try simp only [aZ]
   refine tn rfl (by kernel_rfl) (fun _ _ _ h=>h) (by intro _ h;go_split_ands;go_simp<;>with_reducible rfl) aH ?_
   try simp only [aZ]
   refine aY (i:=10) (by kernel_rfl) rfl fun K hK=>?_
   go_simp
   go_at_call 194
   refine (Kc (c.rd ib).n (c.rd ic).n _).mono ?_
   rintro e w3 ⟨rfl,hw⟩
   rw [hw]
   clear hw w3
   go_wp2_with fail
   refine hK.out _ _ (aH) (fun bG=>?_)
   try simp only [aZ]
   refine aY (i:=11) (by kernel_rfl) rfl fun K hK=>?_
   go_simp
   go_at_call 101
   refine (j7 (lh (c.rd ib).n (c.rd ic).n) _).mono ?_
   rintro e w4 ⟨rfl,b4⟩
   have GU:=ae (b4.cell bG.1)
   have GV:=ae (b4.cell bG.2)
   replace b4:=ae b4
   have bb:=ae (((HB.o.drew.trans b1.o).trans b2.o).trans b4.o)
   have q1:=ax ((b1.o.trans b2.o).trans b4.o) ey.o
   have c4:=aO q1
   have c5:=aJ q1
   have fz:=aA q1
   replace q1:=ae q1
   go_wp2_with fail
   refine hK.out _ _ (⟨GU.o,GV.o⟩) (fun bd=>?_)
   try simp only [aZ]
   refine aY (i:=12) (by kernel_rfl) rfl fun K hK=>?_
   go_wp2_with fail
   refine hK.out _ _ (⟨aD GU.o lv,aD GV.o lv⟩) (fun cQ=>?_)
   try simp only [aZ]
   refine wpAnyH_done (by kernel_rfl) ?_ _
   go_wp2
   refine bodyPost_ret (results_cell_row rfl _ _ (w.heap.size+1) _ _ _ _ rfl (ba q1.o) underlying100 rfl au) rfl ?_
   exact HE.o _ (HH.o.bl (cT bb.o (by omega) _ _))
  ·rw [fO e2]
   have jG:Θ (∀w',RX 1 X wx w0 g w' h qs a c->χ 131 #[π a.q 0,ι ib,ι 2] w' fun e w2=>e=.returned (cm (im (c.rd ib)))/\Bl w' w2):=fun w' H=>fj 1 X wx w0 g h qs a c ib 2 w' H hb (by omega) (fun x=>h2.1) e1
   have pU:Θ (∀w',RX 1 X wx w0 g w' h qs a c->χ 131 #[π a.q 0,ι ic,ι 2] w' fun e w2=>e=bF 6 0 0/\Bl w' w2):=fun w' H=>jI 1 X wx w0 g h qs a c ic 2 w' H hc (by omega) (fun x=>h2.2) e2
   have i1:im (c.rd ib)=c.rd ib:=iD (by omega)
   rw [i1] at jG
   have SD:=fun w=>kn (c.rd ib).kind (c.rd ib).n w
   clear H hs hb hc h2 e1 e2 i1
   go_enter func230,ntmps230
   go_wp2
   refine wp_region_held_drew (S:=fun w'=>κ w' w.heap.size 2 (ι ib)/\κ w' w.heap.size 3 (ι ic)) (by kernel_rfl) ?_ (fun aa=>?_)
   ·exact ⟨z1.o.1,z1.o.2.1⟩
   iterate 6 (refine tn rfl (by kernel_rfl) (fun _ _ _ h=>h) (by intro _ h;go_split_ands;go_simp<;>with_reducible rfl) aa ?_;try simp only [aZ])
   refine aY (i:=3) (by kernel_rfl) rfl fun K hK=>?_
   go_simp
   go_at_call 131
   refine (jG.o _ (HH.o.bl (HB.o.drew))).mono ?_
   rintro e w1 ⟨rfl,b1⟩
   have jT:=ae (b1.cell aa.1)
   have ko:=ae (b1.cell aa.2)
   replace b1:=ae b1
   go_wp2_with fail
   refine hK.out _ _ (⟨jT.o,ko.o⟩) (fun ah=>?_)
   try simp only [aZ]
   refine tn rfl (by kernel_rfl) (fun _ _ _ h=>h) (by intro _ h;go_split_ands;go_simp<;>with_reducible rfl) ah ?_
   try simp only [aZ]
   refine aY (i:=8) (by kernel_rfl) rfl fun K hK=>?_
   go_simp
   go_at_call 131
   refine (pU.o _ (HH.o.bl (HB.o.drew.trans b1.o))).mono ?_
   rintro e w2 ⟨rfl,b2⟩
   exact ⟨rfl,fC (aF HS.o).1 rfl (HH.o.bl ((HB.o.drew.trans b1.o).trans b2)).rs⟩
 ·rw [fO e1]
  have e3:(h.fin 6).rdH c ic 2=h.fin 6:=by
   unfold Hp.rdH Hp.must
   split
   ·rfl
   ·have cY:=(mv ho 6).1
    show (h.fin 6).fin 6=h.fin 6
    rw [show (h.fin 6).fin 6=(if (h.fin 6).over=true then h.fin 6 else _) from rfl,if_pos cY]
  rw [e3]
  have jG:Θ (∀w',RX 1 X wx w0 g w' h qs a c->χ 131 #[π a.q 0,ι ib,ι 2] w' fun e w2=>e=bF 6 0 0/\Bl w' w2):=fun w' H=>jI 1 X wx w0 g h qs a c ib 2 w' H hb (by omega) (fun x=>h2.1) e1
  clear H hs hb hc h2 e1 e3
  go_enter func230,ntmps230
  go_wp2
  refine wp_region_held_drew (S:=fun w'=>κ w' w.heap.size 2 (ι ib)/\κ w' w.heap.size 3 (ι ic)) (by kernel_rfl) ?_ (fun aa=>?_)
  ·exact ⟨z1.o.1,z1.o.2.1⟩
  iterate 6 (refine tn rfl (by kernel_rfl) (fun _ _ _ h=>h) (by intro _ h;go_split_ands;go_simp<;>with_reducible rfl) aa ?_;try simp only [aZ])
  refine aY (i:=3) (by kernel_rfl) rfl fun K hK=>?_
  go_simp
  go_at_call 131
  refine (jG.o _ (HH.o.bl (HB.o.drew))).mono ?_
  rintro e w1 ⟨rfl,b1⟩
  exact ⟨rfl,fC (aF HS.o).1 rfl (HH.o.bl (HB.o.drew.trans b1)).rs⟩
end
end
section
open Go.Maps (Keyed has)
section
variable (X:Nat->Prop) (wx w0:World) (g:Mg) (h:Hp)
theorem Dt (qs:List Qb) (a:Mc) (c:aL) (ia ib ic ii:Int) (args:List Int) (Q:Option Addr) (nl q:Nat) (w:World) (H:RX 1 X wx w0 g w h qs a c) (hs:h.stops=false) :
  χ 187 #[π a.q 0,.agg #[ι 1,ι ia,ι ib,ι ic,ι ii,.slice Q nl q]] w fun e w'=>cM X wx w0 g qs a c (cy h c ⟨1,ia,ib,ic,ii,args⟩) (bR h c ⟨1,ia,ib,ic,ii,args⟩) e w':=by
 have ho:=(aF hs).1
 have HH:=ae H
 have HS:=ae hs
 have hq:=H.qlt
 obtain ⟨L0,L1⟩:=bc w #[ι 1,ι ia,ι ib,ι ic,ι ii,.slice Q nl q] #[ι 0,ι 0] 55 100
 have HB:Θ (Bl w ((w.alloc (.cells #[ι 1,ι ia,ι ib,ι ic,ι ii,.slice Q nl q] 55)).alloc fa)):=((Bl.refl w).alloc _).alloc _
 have dK:=ae L0
 have ey:=ae L1
 have iw:w.heap.size≠a.q:=by omega
 have fT:w.heap.size+1≠a.q:=by omega
 have lv:w.heap.size≠w.heap.size+1:=by omega
 clear L0 L1
 have eH:cy h c ⟨1,ia,ib,ic,ii,args⟩=h:=by simp [cy,givesH]
 have eV:bR h c ⟨1,ia,ib,ic,ii,args⟩=⟨1,ii⟩:=by simp [bR,aG]
 rw [eH,eV]
 clear eH eV
 have HE:Θ (∀w',RX 1 X wx w0 g w' h qs a c->cM X wx w0 g qs a c h ⟨1,ii⟩ (.returned (cm ⟨1,ii⟩)) w'):=fun w' H=>ea hs rfl H
 clear H hs
 go_enter func187,ntmps187
 go_wp2_with (go_at_call 101;refine (j7 ii _).mono ?_;rintro e w1 ⟨rfl,b1⟩;have q1:=ax b1 ey.o;have c4:=aO q1;have c5:=aJ q1;have fz:=aA q1;replace q1:=ae q1;replace b1:=ae b1)
 refine bodyPost_ret (results_cell_row rfl _ _ (w.heap.size+1) _ _ _ _ rfl (ba q1.o) underlying100 rfl au) rfl ?_
 exact HE.o _ (HH.o.bl (cT (HB.o.trans b1.o) (by omega) _ _))
theorem Dv (qs:List Qb) (a:Mc) (c:aL) (ia ib ic ii:Int) (args:List Int) (Q:Option Addr) (nl q:Nat) (w:World) (H:RX 1 X wx w0 g w h qs a c) (hs:h.stops=false) :
  χ 187 #[π a.q 0,.agg #[ι 2,ι ia,ι ib,ι ic,ι ii,.slice Q nl q]] w fun e w'=>cM X wx w0 g qs a c (cy h c ⟨2,ia,ib,ic,ii,args⟩) (bR h c ⟨2,ia,ib,ic,ii,args⟩) e w':=by
 have ho:=(aF hs).1
 have HH:=ae H
 have HS:=ae hs
 have hq:=H.qlt
 obtain ⟨L0,L1⟩:=bc w #[ι 2,ι ia,ι ib,ι ic,ι ii,.slice Q nl q] #[ι 0,ι 0] 55 100
 have HB:Θ (Bl w ((w.alloc (.cells #[ι 2,ι ia,ι ib,ι ic,ι ii,.slice Q nl q] 55)).alloc fa)):=((Bl.refl w).alloc _).alloc _
 have dK:=ae L0
 have ey:=ae L1
 have iw:w.heap.size≠a.q:=by omega
 have fT:w.heap.size+1≠a.q:=by omega
 have lv:w.heap.size≠w.heap.size+1:=by omega
 clear L0 L1
 have eH:cy h c ⟨2,ia,ib,ic,ii,args⟩=h:=by simp [cy,givesH]
 have eV:bR h c ⟨2,ia,ib,ic,ii,args⟩=⟨2,ii⟩:=by simp [bR,aG]
 rw [eH,eV]
 clear eH eV
 have HE:Θ (∀w',RX 1 X wx w0 g w' h qs a c->cM X wx w0 g qs a c h ⟨2,ii⟩ (.returned (cm ⟨2,ii⟩)) w'):=fun w' H=>ea hs rfl H
 clear H hs
 go_enter func187,ntmps187
 go_wp2_with (go_at_call 100;refine (j8 ii _).mono ?_;rintro e w1 ⟨rfl,b1⟩;have q1:=ax b1 ey.o;have c4:=aO q1;have c5:=aJ q1;have fz:=aA q1;replace q1:=ae q1;replace b1:=ae b1)
 refine bodyPost_ret (results_cell_row rfl _ _ (w.heap.size+1) _ _ _ _ rfl (ba q1.o) underlying100 rfl au) rfl ?_
 exact HE.o _ (HH.o.bl (cT (HB.o.trans b1.o) (by omega) _ _))
theorem Dw (qs:List Qb) (a:Mc) (c:aL) (ia ib ic ii:Int) (args:List Int) (Q:Option Addr) (nl q:Nat) (w:World) (H:RX 1 X wx w0 g w h qs a c) (hs:h.stops=false) :
  χ 187 #[π a.q 0,.agg #[ι 3,ι ia,ι ib,ι ic,ι ii,.slice Q nl q]] w fun e w'=>cM X wx w0 g qs a c (cy h c ⟨3,ia,ib,ic,ii,args⟩) (bR h c ⟨3,ia,ib,ic,ii,args⟩) e w':=by
 have ho:=(aF hs).1
 have HH:=ae H
 have HS:=ae hs
 have hq:=H.qlt
 obtain ⟨L0,L1⟩:=bc w #[ι 3,ι ia,ι ib,ι ic,ι ii,.slice Q nl q] #[ι 0,ι 0] 55 100
 have HB:Θ (Bl w ((w.alloc (.cells #[ι 3,ι ia,ι ib,ι ic,ι ii,.slice Q nl q] 55)).alloc fa)):=((Bl.refl w).alloc _).alloc _
 have dK:=ae L0
 have ey:=ae L1
 have iw:w.heap.size≠a.q:=by omega
 have fT:w.heap.size+1≠a.q:=by omega
 have lv:w.heap.size≠w.heap.size+1:=by omega
 clear L0 L1
 have eH:cy h c ⟨3,ia,ib,ic,ii,args⟩=h:=by simp [cy,givesH]
 have eV:bR h c ⟨3,ia,ib,ic,ii,args⟩=⟨3,-1⟩:=by simp [bR,aG]
 rw [eH,eV]
 clear eH eV
 have HE:Θ (∀w',RX 1 X wx w0 g w' h qs a c->cM X wx w0 g qs a c h ⟨3,-1⟩ (.returned (cm ⟨3,0⟩)) w'):=fun w' H=>ea hs rfl H
 clear H hs
 go_enter func187,ntmps187
 go_wp2_with (go_at_call 145;refine (pC _).mono ?_;rintro e w1 ⟨rfl,b1⟩;have q1:=ax b1 ey.o;have c4:=aO q1;have c5:=aJ q1;have fz:=aA q1;replace q1:=ae q1;replace b1:=ae b1)
 refine bodyPost_ret (results_cell_row rfl _ _ (w.heap.size+1) _ _ _ _ rfl (ba q1.o) underlying100 rfl au) rfl ?_
 exact HE.o _ (HH.o.bl (cT (HB.o.trans b1.o) (by omega) _ _))
theorem Dx (qs:List Qb) (a:Mc) (c:aL) (ia ib ic ii:Int) (args:List Int) (Q:Option Addr) (nl q:Nat) (w:World) (H:RX 1 X wx w0 g w h qs a c) (hs:h.stops=false) (hb:0<=ib/\ib<c.locs.length) (hk:1<=ic/\ic<=3) (h2:ic=2->ib+1<c.locs.length) :
  χ 187 #[π a.q 0,.agg #[ι 4,ι ia,ι ib,ι ic,ι ii,.slice Q nl q]] w fun e w'=>cM X wx w0 g qs a c (cy h c ⟨4,ia,ib,ic,ii,args⟩) (bR h c ⟨4,ia,ib,ic,ii,args⟩) e w':=by
 have ho:=(aF hs).1
 have HH:=ae H
 have HS:=ae hs
 have hq:=H.qlt
 obtain ⟨L0,L1⟩:=bc w #[ι 4,ι ia,ι ib,ι ic,ι ii,.slice Q nl q] #[ι 0,ι 0] 55 100
 have HB:Θ (Bl w ((w.alloc (.cells #[ι 4,ι ia,ι ib,ι ic,ι ii,.slice Q nl q] 55)).alloc fa)):=((Bl.refl w).alloc _).alloc _
 have dK:=ae L0
 have ey:=ae L1
 have iw:w.heap.size≠a.q:=by omega
 have fT:w.heap.size+1≠a.q:=by omega
 have lv:w.heap.size≠w.heap.size+1:=by omega
 clear L0 L1
 have eH:cy h c ⟨4,ia,ib,ic,ii,args⟩=h.rdH c ib ic:=by simp [cy,givesH]
 have eV:bR h c ⟨4,ia,ib,ic,ii,args⟩=c.rd ib:=by simp [bR,aG]
 rw [eH,eV]
 clear eH eV
 by_cases e1:(c.rd ib).kind=ic
 ·rw [de e1]
  have HR:Θ (∀w',RX 1 X wx w0 g w' h qs a c->χ 131 #[π a.q 0,ι ib,ι ic] w' fun e w2=>e=.returned (cm (im (c.rd ib)))/\Bl w' w2):=fun w' H=>fj 1 X wx w0 g h qs a c ib ic w' H hb hk h2 e1
  have HE:Θ (∀w',RX 1 X wx w0 g w' h qs a c->cM X wx w0 g qs a c h (c.rd ib) (.returned (cm (im (c.rd ib)))) w'):=fun w' H=>ea hs rfl H
  generalize im (c.rd ib)=U at *
  generalize c.rd ib=V at *
  clear H hs hb e1 hk h2
  go_enter func187,ntmps187
  go_wp2_with (go_at_call 131;refine (HR.o _ (HH.o.bl HB.o)).mono ?_;rintro e w1 ⟨rfl,b1⟩;have q1:=ax b1 ey.o;have c4:=aO q1;have c5:=aJ q1;have fz:=aA q1;replace q1:=ae q1;replace b1:=ae b1)
  refine bodyPost_ret (results_cell_row rfl _ _ (w.heap.size+1) _ _ _ _ rfl (ba q1.o) underlying100 rfl au) rfl ?_
  exact HE.o _ (HH.o.bl (cT (HB.o.trans b1.o) (by omega) _ _))
 ·rw [fO e1]
  have HR:Θ (∀w',RX 1 X wx w0 g w' h qs a c->χ 131 #[π a.q 0,ι ib,ι ic] w' fun e w2=>e=bF 6 0 0/\Bl w' w2):=fun w' H=>jI 1 X wx w0 g h qs a c ib ic w' H hb hk h2 e1
  generalize c.rd ib=V at *
  clear H hs hb e1 hk h2
  go_enter func187,ntmps187
  go_wp2_with (go_at_call 131;refine (HR.o _ (HH.o.bl HB.o)).mono ?_;rintro e w1 ⟨rfl,b1⟩;replace b1:=ae b1)
  exact ⟨rfl,fC (aF HS.o).1 rfl (HH.o.bl (HB.o.trans b1.o)).rs⟩
theorem Dy (qs:List Qb) (a:Mc) (c:aL) (ia ib ic ii:Int) (args:List Int) (Q:Option Addr) (nl q:Nat) (w:World) (H:RX 1 X wx w0 g w h qs a c) (hs:h.stops=false) (hb:0<=ib/\ib<c.locs.length) (hc:0<=ic/\ic<c.locs.length) (eT:h.objs.length<=100) :
  χ 187 #[π a.q 0,.agg #[ι 5,ι ia,ι ib,ι ic,ι ii,.slice Q nl q]] w fun e w'=>cM X wx w0 g qs a c (cy h c ⟨5,ia,ib,ic,ii,args⟩) (bR h c ⟨5,ia,ib,ic,ii,args⟩) e w':=by
 have ho:=(aF hs).1
 have HH:=ae H
 have HS:=ae hs
 have hq:=H.qlt
 obtain ⟨L0,L1⟩:=bc w #[ι 5,ι ia,ι ib,ι ic,ι ii,.slice Q nl q] #[ι 0,ι 0] 55 100
 have HB:Θ (Bl w ((w.alloc (.cells #[ι 5,ι ia,ι ib,ι ic,ι ii,.slice Q nl q] 55)).alloc fa)):=((Bl.refl w).alloc _).alloc _
 have dK:=ae L0
 have ey:=ae L1
 have iw:w.heap.size≠a.q:=by omega
 have fT:w.heap.size+1≠a.q:=by omega
 have lv:w.heap.size≠w.heap.size+1:=by omega
 clear L0 L1
 have eH:cy h c ⟨5,ia,ib,ic,ii,args⟩=(h.reckH (c.rd ib) (c.rd ic) 1 ii):=by simp [cy,givesH]
 have eV:bR h c ⟨5,ia,ib,ic,ii,args⟩=(h.reckV (c.rd ib) (c.rd ic) 1 ii):=by simp [bR,aG]
 rw [eH,eV]
 clear eH eV
 have rN:∀X wx w,RX 1 X wx w0 g w h qs a c->χ 230 #[π a.q 0,.agg #[ι 5,ι ia,ι ib,ι ic,ι ii,.slice Q nl q]] w fun e w2=>cM X wx w0 g qs a c (h.reckH (c.rd ib) (c.rd ic) 1 ii) (h.reckV (c.rd ib) (c.rd ic) 1 ii) e w2:=fun X wx w H=>zT X wx w0 g h qs a c ia ib ic ii args Q nl q w H hs hb hc eT
 generalize (h.reckH (c.rd ib) (c.rd ic) 1 ii)=HV at *
 generalize ((h.reckV (c.rd ib) (c.rd ic) 1 ii):Va)=VV at *
 rcases fY (fun X wx w H=>rN X wx w H) with ⟨ch,st,HC⟩|⟨st,HC⟩
 ·replace HC:=ae HC
  have HE:Θ (∀w',RS 1 X wx w0 g w' HV qs a c->cM X wx w0 g qs a c HV VV (.panicked ch) w'):=fun w' H=>jn st.1 st.2 H
  clear H hs st hb hc eT rN
  go_enter func187,ntmps187
  go_wp2_with (go_at_call 230;refine (HH.o.y.useN HB.o HC.o).mono ?_;rintro e w1 ⟨rfl,H1⟩;replace H1:=ae H1)
  exact ⟨rfl,HE.o _ H1.o⟩
 ·replace HC:=ae HC
  have HE:Θ (∀w',RX 1 X wx w0 g w' HV qs a c->cM X wx w0 g qs a c HV VV (.returned (cm (im VV))) w'):=fun w' H=>ea st rfl H
  clear H hs st hb hc eT rN
  go_enter func187,ntmps187
  go_wp2_with (go_at_call 230;refine (HH.o.y.useY HB.o HC.o).mono ?_;rintro e w1 ⟨rfl,H1,K1⟩;have q1:=K1.at (Xp.new (Nat.le_succ _) (dg w _ _)) ey.o;have c4:=aO q1;have c5:=aJ q1;have fz:=aA q1;clear K1;replace H1:=ae H1;replace q1:=ae q1)
  refine bodyPost_ret (results_cell_row rfl _ _ (w.heap.size+1) _ _ _ _ rfl (ba q1.o) underlying100 rfl au) rfl ?_
  refine HE.o _ (dz.x (dz.set (dz.set H1.o ?_ 0 _) ?_ 1 _))<;>exact (Xp.new (Nat.le_succ _) (dg w _ _))
theorem Dz (qs:List Qb) (a:Mc) (c:aL) (ia ib ic ii:Int) (args:List Int) (Q:Option Addr) (nl q:Nat) (w:World) (H:RX 1 X wx w0 g w h qs a c) (hs:h.stops=false) (hb:0<=ib/\ib<c.locs.length) (hc:0<=ic/\ic<c.locs.length) (eT:h.objs.length<=100) (h2:ib+1<c.locs.length/\ic+1<c.locs.length) :
  χ 187 #[π a.q 0,.agg #[ι 6,ι ia,ι ib,ι ic,ι ii,.slice Q nl q]] w fun e w'=>cM X wx w0 g qs a c (cy h c ⟨6,ia,ib,ic,ii,args⟩) (bR h c ⟨6,ia,ib,ic,ii,args⟩) e w':=by
 have ho:=(aF hs).1
 have HH:=ae H
 have HS:=ae hs
 have hq:=H.qlt
 obtain ⟨L0,L1⟩:=bc w #[ι 6,ι ia,ι ib,ι ic,ι ii,.slice Q nl q] #[ι 0,ι 0] 55 100
 have HB:Θ (Bl w ((w.alloc (.cells #[ι 6,ι ia,ι ib,ι ic,ι ii,.slice Q nl q] 55)).alloc fa)):=((Bl.refl w).alloc _).alloc _
 have dK:=ae L0
 have ey:=ae L1
 have iw:w.heap.size≠a.q:=by omega
 have fT:w.heap.size+1≠a.q:=by omega
 have lv:w.heap.size≠w.heap.size+1:=by omega
 clear L0 L1
 have eH:cy h c ⟨6,ia,ib,ic,ii,args⟩=(h.reckH (c.rd ib) (c.rd ic) 2 ii):=by simp [cy,givesH]
 have eV:bR h c ⟨6,ia,ib,ic,ii,args⟩=(h.reckV (c.rd ib) (c.rd ic) 2 ii):=by simp [bR,aG]
 rw [eH,eV]
 clear eH eV
 have rN:∀X wx w,RX 1 X wx w0 g w h qs a c->χ 230 #[π a.q 0,.agg #[ι 6,ι ia,ι ib,ι ic,ι ii,.slice Q nl q]] w fun e w2=>cM X wx w0 g qs a c (h.reckH (c.rd ib) (c.rd ic) 2 ii) (h.reckV (c.rd ib) (c.rd ic) 2 ii) e w2:=fun X wx w H=>zU X wx w0 g h qs a c ia ib ic ii args Q nl q w H hs hb hc eT h2
 generalize (h.reckH (c.rd ib) (c.rd ic) 2 ii)=HV at *
 generalize ((h.reckV (c.rd ib) (c.rd ic) 2 ii):Va)=VV at *
 rcases fY (fun X wx w H=>rN X wx w H) with ⟨ch,st,HC⟩|⟨st,HC⟩
 ·replace HC:=ae HC
  have HE:Θ (∀w',RS 1 X wx w0 g w' HV qs a c->cM X wx w0 g qs a c HV VV (.panicked ch) w'):=fun w' H=>jn st.1 st.2 H
  clear H hs st hb hc eT h2 rN
  go_enter func187,ntmps187
  go_wp2_with (go_at_call 230;refine (HH.o.y.useN HB.o HC.o).mono ?_;rintro e w1 ⟨rfl,H1⟩;replace H1:=ae H1)
  exact ⟨rfl,HE.o _ H1.o⟩
 ·replace HC:=ae HC
  have HE:Θ (∀w',RX 1 X wx w0 g w' HV qs a c->cM X wx w0 g qs a c HV VV (.returned (cm (im VV))) w'):=fun w' H=>ea st rfl H
  clear H hs st hb hc eT h2 rN
  go_enter func187,ntmps187
  go_wp2_with (go_at_call 230;refine (HH.o.y.useY HB.o HC.o).mono ?_;rintro e w1 ⟨rfl,H1,K1⟩;have q1:=K1.at (Xp.new (Nat.le_succ _) (dg w _ _)) ey.o;have c4:=aO q1;have c5:=aJ q1;have fz:=aA q1;clear K1;replace H1:=ae H1;replace q1:=ae q1)
  refine bodyPost_ret (results_cell_row rfl _ _ (w.heap.size+1) _ _ _ _ rfl (ba q1.o) underlying100 rfl au) rfl ?_
  refine HE.o _ (dz.x (dz.set (dz.set H1.o ?_ 0 _) ?_ 1 _))<;>exact (Xp.new (Nat.le_succ _) (dg w _ _))
theorem DB (qs:List Qb) (a:Mc) (c:aL) (ia ib ic ii:Int) (args:List Int) (Q:Option Addr) (nl q:Nat) (w:World) (H:RX 1 X wx w0 g w h qs a c) (hs:h.stops=false) (hb:0<=ib/\ib<c.locs.length) :
  χ 187 #[π a.q 0,.agg #[ι 7,ι ia,ι ib,ι ic,ι ii,.slice Q nl q]] w fun e w'=>cM X wx w0 g qs a c (cy h c ⟨7,ia,ib,ic,ii,args⟩) (bR h c ⟨7,ia,ib,ic,ii,args⟩) e w':=by
 have ho:=(aF hs).1
 have HH:=ae H
 have HS:=ae hs
 have hq:=H.qlt
 obtain ⟨L0,L1⟩:=bc w #[ι 7,ι ia,ι ib,ι ic,ι ii,.slice Q nl q] #[ι 0,ι 0] 55 100
 have HB:Θ (Bl w ((w.alloc (.cells #[ι 7,ι ia,ι ib,ι ic,ι ii,.slice Q nl q] 55)).alloc fa)):=((Bl.refl w).alloc _).alloc _
 have dK:=ae L0
 have ey:=ae L1
 have iw:w.heap.size≠a.q:=by omega
 have fT:w.heap.size+1≠a.q:=by omega
 have lv:w.heap.size≠w.heap.size+1:=by omega
 clear L0 L1
 have eH:cy h c ⟨7,ia,ib,ic,ii,args⟩=(h.rdH c ib 1):=by simp [cy,givesH]
 have eV:bR h c ⟨7,ia,ib,ic,ii,args⟩=⟨2,(c.rd ib).n⟩:=by simp [bR,aG]
 rw [eH,eV]
 clear eH eV
 have rN:∀X wx w,RX 1 X wx w0 g w h qs a c->χ 230 #[π a.q 0,.agg #[ι 7,ι ia,ι ib,ι ic,ι ii,.slice Q nl q]] w fun e w2=>cM X wx w0 g qs a c (h.rdH c ib 1) ⟨2,(c.rd ib).n⟩ e w2:=fun X wx w H=>zV X wx w0 g h qs a c ia ib ic ii args Q nl q w H hs hb
 generalize (h.rdH c ib 1)=HV at *
 generalize (⟨2,(c.rd ib).n⟩:Va)=VV at *
 rcases fY (fun X wx w H=>rN X wx w H) with ⟨ch,st,HC⟩|⟨st,HC⟩
 ·replace HC:=ae HC
  have HE:Θ (∀w',RS 1 X wx w0 g w' HV qs a c->cM X wx w0 g qs a c HV VV (.panicked ch) w'):=fun w' H=>jn st.1 st.2 H
  clear H hs st hb rN
  go_enter func187,ntmps187
  go_wp2_with (go_at_call 230;refine (HH.o.y.useN HB.o HC.o).mono ?_;rintro e w1 ⟨rfl,H1⟩;replace H1:=ae H1)
  exact ⟨rfl,HE.o _ H1.o⟩
 ·replace HC:=ae HC
  have HE:Θ (∀w',RX 1 X wx w0 g w' HV qs a c->cM X wx w0 g qs a c HV VV (.returned (cm (im VV))) w'):=fun w' H=>ea st rfl H
  clear H hs st hb rN
  go_enter func187,ntmps187
  go_wp2_with (go_at_call 230;refine (HH.o.y.useY HB.o HC.o).mono ?_;rintro e w1 ⟨rfl,H1,K1⟩;have q1:=K1.at (Xp.new (Nat.le_succ _) (dg w _ _)) ey.o;have c4:=aO q1;have c5:=aJ q1;have fz:=aA q1;clear K1;replace H1:=ae H1;replace q1:=ae q1)
  refine bodyPost_ret (results_cell_row rfl _ _ (w.heap.size+1) _ _ _ _ rfl (ba q1.o) underlying100 rfl au) rfl ?_
  refine HE.o _ (dz.x (dz.set (dz.set H1.o ?_ 0 _) ?_ 1 _))<;>exact (Xp.new (Nat.le_succ _) (dg w _ _))
theorem DC (qs:List Qb) (a:Mc) (c:aL) (ia ib ic ii:Int) (args:List Int) (Q:Option Addr) (nl q:Nat) (w:World) (H:RX 1 X wx w0 g w h qs a c) (hs:h.stops=false) (hb:0<=ib/\ib<c.locs.length) (h2:ib+1<c.locs.length) :
  χ 187 #[π a.q 0,.agg #[ι 8,ι ia,ι ib,ι ic,ι ii,.slice Q nl q]] w fun e w'=>cM X wx w0 g qs a c (cy h c ⟨8,ia,ib,ic,ii,args⟩) (bR h c ⟨8,ia,ib,ic,ii,args⟩) e w':=by
 have ho:=(aF hs).1
 have HH:=ae H
 have HS:=ae hs
 have hq:=H.qlt
 obtain ⟨L0,L1⟩:=bc w #[ι 8,ι ia,ι ib,ι ic,ι ii,.slice Q nl q] #[ι 0,ι 0] 55 100
 have HB:Θ (Bl w ((w.alloc (.cells #[ι 8,ι ia,ι ib,ι ic,ι ii,.slice Q nl q] 55)).alloc fa)):=((Bl.refl w).alloc _).alloc _
 have dK:=ae L0
 have ey:=ae L1
 have iw:w.heap.size≠a.q:=by omega
 have fT:w.heap.size+1≠a.q:=by omega
 have lv:w.heap.size≠w.heap.size+1:=by omega
 clear L0 L1
 have eH:cy h c ⟨8,ia,ib,ic,ii,args⟩=(h.rdH c ib 2):=by simp [cy,givesH]
 have eV:bR h c ⟨8,ia,ib,ic,ii,args⟩=⟨1,wrap32 (c.rd ib).n⟩:=by simp [bR,aG]
 rw [eH,eV]
 clear eH eV
 have rN:∀X wx w,RX 1 X wx w0 g w h qs a c->χ 230 #[π a.q 0,.agg #[ι 8,ι ia,ι ib,ι ic,ι ii,.slice Q nl q]] w fun e w2=>cM X wx w0 g qs a c (h.rdH c ib 2) ⟨1,wrap32 (c.rd ib).n⟩ e w2:=fun X wx w H=>zW X wx w0 g h qs a c ia ib ic ii args Q nl q w H hs hb h2
 generalize (h.rdH c ib 2)=HV at *
 generalize (⟨1,wrap32 (c.rd ib).n⟩:Va)=VV at *
 rcases fY (fun X wx w H=>rN X wx w H) with ⟨ch,st,HC⟩|⟨st,HC⟩
 ·replace HC:=ae HC
  have HE:Θ (∀w',RS 1 X wx w0 g w' HV qs a c->cM X wx w0 g qs a c HV VV (.panicked ch) w'):=fun w' H=>jn st.1 st.2 H
  clear H hs st hb h2 rN
  go_enter func187,ntmps187
  go_wp2_with (go_at_call 230;refine (HH.o.y.useN HB.o HC.o).mono ?_;rintro e w1 ⟨rfl,H1⟩;replace H1:=ae H1)
  exact ⟨rfl,HE.o _ H1.o⟩
 ·replace HC:=ae HC
  have HE:Θ (∀w',RX 1 X wx w0 g w' HV qs a c->cM X wx w0 g qs a c HV VV (.returned (cm (im VV))) w'):=fun w' H=>ea st rfl H
  clear H hs st hb h2 rN
  go_enter func187,ntmps187
  go_wp2_with (go_at_call 230;refine (HH.o.y.useY HB.o HC.o).mono ?_;rintro e w1 ⟨rfl,H1,K1⟩;have q1:=K1.at (Xp.new (Nat.le_succ _) (dg w _ _)) ey.o;have c4:=aO q1;have c5:=aJ q1;have fz:=aA q1;clear K1;replace H1:=ae H1;replace q1:=ae q1)
  refine bodyPost_ret (results_cell_row rfl _ _ (w.heap.size+1) _ _ _ _ rfl (ba q1.o) underlying100 rfl au) rfl ?_
  refine HE.o _ (dz.x (dz.set (dz.set H1.o ?_ 0 _) ?_ 1 _))<;>exact (Xp.new (Nat.le_succ _) (dg w _ _))
theorem DD (qs:List Qb) (a:Mc) (c:aL) (ia ib ic ii:Int) (args:List Int) (Q:Option Addr) (nl q:Nat) (w:World) (H:RX 1 X wx w0 g w h qs a c) (hs:h.stops=false) (hb:0<=ib/\ib<c.locs.length) (hc:0<=ic/\ic<c.locs.length) (h2:ib+1<c.locs.length/\ic+1<c.locs.length) :
  χ 187 #[π a.q 0,.agg #[ι 9,ι ia,ι ib,ι ic,ι ii,.slice Q nl q]] w fun e w'=>cM X wx w0 g qs a c (cy h c ⟨9,ia,ib,ic,ii,args⟩) (bR h c ⟨9,ia,ib,ic,ii,args⟩) e w':=by
 have ho:=(aF hs).1
 have HH:=ae H
 have HS:=ae hs
 have hq:=H.qlt
 obtain ⟨L0,L1⟩:=bc w #[ι 9,ι ia,ι ib,ι ic,ι ii,.slice Q nl q] #[ι 0,ι 0] 55 100
 have HB:Θ (Bl w ((w.alloc (.cells #[ι 9,ι ia,ι ib,ι ic,ι ii,.slice Q nl q] 55)).alloc fa)):=((Bl.refl w).alloc _).alloc _
 have dK:=ae L0
 have ey:=ae L1
 have iw:w.heap.size≠a.q:=by omega
 have fT:w.heap.size+1≠a.q:=by omega
 have lv:w.heap.size≠w.heap.size+1:=by omega
 clear L0 L1
 have eH:cy h c ⟨9,ia,ib,ic,ii,args⟩=((h.rdH c ib 2).rdH c ic 2):=by simp [cy,givesH]
 have eV:bR h c ⟨9,ia,ib,ic,ii,args⟩=⟨1,lh (c.rd ib).n (c.rd ic).n⟩:=by simp [bR,aG]
 rw [eH,eV]
 clear eH eV
 have rN:∀X wx w,RX 1 X wx w0 g w h qs a c->χ 230 #[π a.q 0,.agg #[ι 9,ι ia,ι ib,ι ic,ι ii,.slice Q nl q]] w fun e w2=>cM X wx w0 g qs a c ((h.rdH c ib 2).rdH c ic 2) ⟨1,lh (c.rd ib).n (c.rd ic).n⟩ e w2:=fun X wx w H=>zX X wx w0 g h qs a c ia ib ic ii args Q nl q w H hs hb hc h2
 generalize ((h.rdH c ib 2).rdH c ic 2)=HV at *
 generalize (⟨1,lh (c.rd ib).n (c.rd ic).n⟩:Va)=VV at *
 rcases fY (fun X wx w H=>rN X wx w H) with ⟨ch,st,HC⟩|⟨st,HC⟩
 ·replace HC:=ae HC
  have HE:Θ (∀w',RS 1 X wx w0 g w' HV qs a c->cM X wx w0 g qs a c HV VV (.panicked ch) w'):=fun w' H=>jn st.1 st.2 H
  clear H hs st hb hc h2 rN
  go_enter func187,ntmps187
  go_wp2_with (go_at_call 230;refine (HH.o.y.useN HB.o HC.o).mono ?_;rintro e w1 ⟨rfl,H1⟩;replace H1:=ae H1)
  exact ⟨rfl,HE.o _ H1.o⟩
 ·replace HC:=ae HC
  have HE:Θ (∀w',RX 1 X wx w0 g w' HV qs a c->cM X wx w0 g qs a c HV VV (.returned (cm (im VV))) w'):=fun w' H=>ea st rfl H
  clear H hs st hb hc h2 rN
  go_enter func187,ntmps187
  go_wp2_with (go_at_call 230;refine (HH.o.y.useY HB.o HC.o).mono ?_;rintro e w1 ⟨rfl,H1,K1⟩;have q1:=K1.at (Xp.new (Nat.le_succ _) (dg w _ _)) ey.o;have c4:=aO q1;have c5:=aJ q1;have fz:=aA q1;clear K1;replace H1:=ae H1;replace q1:=ae q1)
  refine bodyPost_ret (results_cell_row rfl _ _ (w.heap.size+1) _ _ _ _ rfl (ba q1.o) underlying100 rfl au) rfl ?_
  refine HE.o _ (dz.x (dz.set (dz.set H1.o ?_ 0 _) ?_ 1 _))<;>exact (Xp.new (Nat.le_succ _) (dg w _ _))
end
end
def kq (x:pO):Int×Int:=(x.cls,x.fld)
theorem rO {c d:Nat} {x:pO} (h:x∈gL cs c d):x.cls=d/\∃k:Nat,k<(nth bL cs d).fields.length/\x.fld=k:=by
 unfold gL at h
 split at h
 ·rw [List.mem_map] at h
  obtain ⟨k,hk,rfl⟩:=h
  exact ⟨rfl,k,by simpa using hk,rfl⟩
 ·simp at h
theorem vQ (cs:List Cl) (c d:Nat):((gL cs c d).map kq).Nodup:=by
 unfold gL
 split
 ·rw [List.map_map]
  unfold List.Nodup
  rw [List.pairwise_map]
  refine List.Pairwise.imp ?_ (List.nodup_range (n:=(nth bL cs d).fields.length))
  intro a b Qw e
  simp [kq] at e
  exact Qw (by omega)
 ·simp
theorem rP (cs:List Cl) (c:Nat):∀l:List Nat,l.Nodup->((l.flatMap (gL cs c)).map kq).Nodup
 | [],_=>by simp
 | d::l,h=>by
  rw [List.nodup_cons] at h
  rw [List.flatMap_cons,List.map_append,List.nodup_append]
  refine ⟨vQ cs c d,rP cs c l h.2,?_⟩
  intro a ha b hb e
  rw [List.mem_map] at ha hb
  obtain ⟨x,hx,rfl⟩:=ha
  obtain ⟨y,hy,rfl⟩:=hb
  rw [List.mem_flatMap] at hy
  obtain ⟨d',PO,hy⟩:=hy
  have h1:=(rO hx).1
  have h2:=(rO hy).1
  simp only [kq,Prod.mk.injEq] at e
  have:d=d':=by omega
  subst this
  exact h.1 PO
theorem s7 (cs:List Cl) (c:Nat):((cZ cs c).map kq).Nodup:=rP cs c _ List.nodup_range
theorem xu {c d k:Nat} (hd:d<cs.length) (hb:fJ cs c d=true) (hk:k<(nth bL cs d).fields.length):((d:Int),(k:Int))∈(cZ cs c).map kq:=by
 rw [List.mem_map]
 refine ⟨⟨d,k,jb (nth bS (nth bL cs d).fields k)⟩,?_,rfl⟩
 unfold cZ
 rw [List.mem_flatMap]
 refine ⟨d,by simpa using hd,?_⟩
 unfold gL
 rw [if_pos hb,List.mem_map]
 exact ⟨k,by simpa using hk,rfl⟩
section
variable {cs:List Cl} {l:List pO} {cl:Int}
theorem DE {c k:Nat} (hl:l.map kq=(cZ cs cl.toNat).map kq) (hb:fu cs cl (c:Int)=true) (hk:k<(nth bL cs c).fields.length) :
  ∃j:Nat,j<l.length/\eB l c k=j/\(nth cE l j).cls=c/\(nth cE l j).fld=k:=by
 unfold fu at hb
 rw [Bool.and_eq_true] at hb
 have h1:=of_decide_eq_true hb.1
 have hm:=xu (cs:=cs) (c:=cl.toNat) (d:=c) (k:=k) (by omega) (by simpa using hb.2) hk
 rw [<-hl,List.mem_map] at hm
 obtain ⟨x,hx,JQ⟩:=hm
 simp only [kq,Prod.mk.injEq] at JQ
 unfold eB
 cases hf:l.findIdx? (fun x=>decide (x.cls=(c:Int)/\x.fld=(k:Int))) with
 | none =>
  rw [List.findIdx?_eq_none_iff] at hf
  have:=hf x hx
  simp [JQ.1,JQ.2] at this
 | some i =>
  rw [List.findIdx?_eq_some_iff_getElem] at hf
  obtain ⟨hi,hp,-⟩:=hf
  have qY:=of_decide_eq_true hp
  refine ⟨i,hi,rfl,?_,?_⟩
  ·rw [cg hi];exact qY.1
  ·rw [cg hi];exact qY.2
theorem GW (hl:l.map kq=(cZ cs cl.toNat).map kq) {i j:Nat} (hi:i<l.length) (hj:j<l.length) (h:kq (nth cE l i)=kq (nth cE l j)):i=j:=by
 have hn:=s7 cs cl.toNat
 rw [<-hl] at hn
 rw [cg hi,cg hj] at h
 have hi':i<(l.map kq).length:=by simpa using hi
 have hj':j<(l.map kq).length:=by simpa using hj
 have e:(l.map kq)[i]=(l.map kq)[j]:=by simpa using h
 exact (List.getElem_inj hn).mp e
end
theorem GX {l:List pO} {j:Nat} (hj:j<l.length) (v:Va):(l.set j { nth cE l j with v:=v }).map kq=l.map kq:=by
 apply List.ext_getElem
 ·simp
 ·intro i h1 h2
  simp only [List.getElem_map,List.getElem_set]
  split
  ·rename_i e
   subst e
   rw [cg hj]
   rfl
  ·rfl
theorem BQ {α:Type} {d:α} {l:List α} {x:α} (h:x∈l):∃i,i<l.length/\nth d l i=x:=by
 obtain ⟨i,hi,rfl⟩:=List.getElem_of_mem h
 exact ⟨i,hi,cg hi⟩
section
open Go.Maps (Keyed has)
theorem iZ {A:Option Addr} (h:bK w A cs) {c f:Nat} (hc:c<cs.length) (hf:f<(nth bL cs c).fields.length) :
  ∃b off F fo uc,A=some ⟨b,off,none⟩/\w.cell? ⟨b,off+c*2+1,none⟩=some (.slice (some ⟨F,fo,none⟩) (nth bL cs c).fields.length uc)/\cs.length<=maxLen/\(nth bL cs c).fields.length<=maxLen
   /\ w.cell? ⟨F,fo+f*2,none⟩=some (ι (nth bS (nth bL cs c).fields f).kind)/\w.cell? ⟨F,fo+f*2+1,none⟩=some (ι (nth bS (nth bL cs c).fields f).cls):=by
 rcases h.2 with h0|⟨b,off,rfl,hcell⟩
 ·omega
 obtain ⟨-,-,A',uc,hfl,hty⟩:=hcell c hc
 rcases hty.2 with h0|⟨F,fo,rfl,htc⟩
 ·omega
 exact ⟨b,off,F,fo,uc,rfl,hfl,h.1,hty.1,(htc f hf).1,(htc f hf).2.1⟩
theorem zY:(Tryz.prog.info? 265).map (·.size)=some 3:=by kernel_rfl
abbrev WG:Obj:=.cells #[ι 0,ι 0,ι 0] 265
theorem DF {k n m k' n' m':Value} {t:TypeId} (q:w.heap[b]?=some (.cells #[k,n,m] t (0,0))):(((w.setCell ⟨b,0,none⟩ k').setCell ⟨b,1,none⟩ n').setCell ⟨b,2,none⟩ m').heap[b]?=some (.cells #[k',n',m'] t (0,0)):=by
 rw [ay (ay (ay q _) _) _];rfl
theorem lO (hb:Nat) (v:Va) (c k:Int) (hk:v.kind=3) (hv:0<=v.n) (w:World) :
  χ 229 #[π hb 0,cm (im v),ι c,ι k] w fun e w'=>e=.returned (jc (v.n+1) c k)/\Bl w w':=by
 have HN:Θ (wY (im v)=false):=lH hk hv
 have e:im v=⟨3,v.n+1⟩:=gp hk
 rw [e] at HN ⊢
 obtain ⟨L0,L1⟩:=bc w #[ι 3,ι (v.n+1)] #[ι 0,ι 0,ι 0] 100 265
 have dK:=ae L0
 have ey:=ae L1
 have HB:Θ (Bl w ((w.alloc (eS ⟨3,v.n+1⟩)).alloc WG)):=((Bl.refl w).alloc _).alloc _
 clear hk hv e L0 L1
 go_enter func229,ntmps229
 go_wp2_with (go_at_call 90;refine (cB ⟨3,v.n+1⟩ _).mono ?_;rintro e w2 ⟨he,b2⟩;rw [HN.o] at he;subst he;have q0:=ax b2 dK.o;have c1:=aJ q0;have q1:=ax b2 ey.o;have d0:w2.cell? ⟨w.heap.size+1,0,none⟩=some (ι 0):=(ab q1).trans rfl;have d1:w2.cell? ⟨w.heap.size+1,1,none⟩=some (ι 0):=(ab q1).trans rfl;have d2:w2.cell? ⟨w.heap.size+1,2,none⟩=some (ι 0):=(ab q1).trans rfl;have fz:=aA q1;replace b2:=ae b2;replace q1:=ae q1;clear q0)
 refine bodyPost_ret (results_cell_row rfl _ _ (w.heap.size+1) _ _ _ _ rfl (DF q1.o) underlying265 rfl zY) rfl ?_
 exact ⟨rfl,Bl.setCell (Bl.setCell (Bl.setCell (HB.o.trans b2.o) (p:=⟨w.heap.size+1,0,none⟩) (Nat.le_succ _) _) (p:=⟨w.heap.size+1,1,none⟩) (Nat.le_succ _) _) (p:=⟨w.heap.size+1,2,none⟩) (Nat.le_succ _) _⟩
theorem pL (s:Nat) (X:Nat->Prop) (wx w0:World) (g:Mg) (h:Hp) (qs:List Qb) (a:Mc) (c:aL) (v:Va) (cc k:Int) (w:World) (H:RX s X wx w0 g w h qs a c) (hl:h.objs.length<=100) (ho:h.over=false) (hk:v.kind=3) (hv:v.n=-1) :
  χ 229 #[π g.hb 0,cm (im v),ι cc,ι k] w fun e w'=>e=cU h/\RX s X wx w0 g w' (h.raise 1) qs a c:=by
 have HN:Θ (wY (im v)=true):=l5 hk hv
 have e:im v=⟨3,0⟩:=by rw [gp hk,hv];rfl
 rw [e] at HN ⊢
 have HB:Θ (Bl w ((w.alloc (eS ⟨3,0⟩)).alloc WG)):=((Bl.refl w).alloc _).alloc _
 have HH:=ae H
 have HL:=ae (And.intro hl ho)
 obtain ⟨E,hE⟩:∃E,cU h=E:=⟨_,rfl⟩
 have HE:=ae hE
 rw [hE]
 have HX:Θ (∃ch,E=.panicked ch):=by
  rw [<-hE];unfold cU;split<;>exact ⟨_,rfl⟩
 clear hk hv e H hl ho hE
 obtain ⟨ch,rfl⟩:=HX.o
 go_enter func229,ntmps229
 go_wp2_with (first
  | (go_at_call 90;refine (cB ⟨3,0⟩ _).mono ?_;rintro e w2 ⟨he,b2⟩;rw [HN.o] at he;subst he;replace b2:=ae b2)
  | (go_at_call 199;refine (gy s X wx w0 g h qs a c 1 _ (HH.o.bl (HB.o.trans b2.o)) HL.o.1 HL.o.2).mono ?_;rintro e w3 ⟨he,H3⟩;rw [HE.o] at he;subst he;replace H3:=ae H3))
 exact ⟨rfl,rfl,H3.o⟩
theorem GY:(Tryz.prog.info? 100).map (fun i=>(i.zero,i.size,i.bytes))=some (some (.agg #[ι 0,ι 0]),2,16):=by kernel_rfl
theorem K6 (w:World):(zeroValue 100).run Tryz.prog w=.ok (cm ⟨0,0⟩) w:=by
 obtain ⟨i,hi,hz,-,-⟩:=info_parts GY
 simp [zeroValue,hi,hz]
 rfl
theorem x8 {mp n:Nat} {D:DataW Nat} (h:w.ownsMap Tryz.prog 265 fg mp n D) {o c:Int} (ho:cJ o) (hc:cJ c) (hk:cJ k) (u:Va) (hu:has D (jY o c k)=true->∀z,D.atKey (jY o c k) z=MK u) :
  (Instr.lookup 169 (.map (some mp)) (jc o c k) true).run Tryz.prog w=.ok (.tuple #[cm (if has D (jY o c k)=true then u else ⟨0,0⟩),.bool (has D (jY o c k))]) w:=by
 obtain ⟨v,ps,h1,h2⟩:=h.look_ok jZ underlying169 (K6 w) (tq ⟨0,0⟩) (lu ho hc hk)
 rw [h1]
 cases hh:has D (jY o c k) with
 | true =>
  rw [hu hh] at h2
  rw [if_pos rfl,qR h2]
 | false =>
  rw [Maps.atKey_of_not_has hh] at h2
  rw [if_neg (by decide),qR h2]
end
end Go.Proofs.YtgiiapenmjollaaGreat
