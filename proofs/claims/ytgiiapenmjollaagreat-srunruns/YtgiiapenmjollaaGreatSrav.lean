import Derived.Test.YtgiiapenmjollaaGreatSrau
namespace Go.Proofs.YtgiiapenmjollaaGreat
set_option linter.all false
set_option maxHeartbeats 40000000
set_option maxRecDepth 100000
open Go.RowKit
open Go.Value (int)
open Go.IntKind (i64)
section
open Go.Maps (Keyed has)
section
variable (X:Nat->Prop) (wx w0:World) (g:Mg) (h:Hp) (qs:List Nat) (a:Mc) (c:aH) (ia ib ic ii:Int) (args:List Int) (Q:Option Addr) (nl q:Nat) (w:World)
theorem Gj (H:RX 1 X wx w0 g w h qs a c) (hs:h.stops=false) (hl:c.stk.length<=1000) (hok:0<=ia/\ia<c.locs.length/\(ib=2->ia+1<c.locs.length)) (hk:1<=ib/\ib<=3) :
  Calls Tryz.prog 94 #[.pointer (some ⟨a.q,0,none⟩),.agg #[int i64 5,int i64 ia,int i64 ib,int i64 ic,int i64 ii,.slice Q nl q]] w fun e w'=>bT X wx w0 g qs a c (aM h c ⟨5,ia,ib,ic,ii,args⟩) e w':=by
 obtain ⟨n,rfl⟩:∃n:Nat,ia=n:=⟨ia.toNat,by omega⟩
 have hn:n<c.locs.length:=by omega
 have h2:ib=2->n+1<c.locs.length:=fun e=>by have:=hok.2.2 e;omega
 have hd:aM h c ⟨5,(n:Int),ib,ic,ii,args⟩=kD h c ⟨5,(n:Int),ib,ic,ii,args⟩:=rfl
 rw [hd]
 unfold kD
 dsimp only
 rw [Int.toNat_natCast]
 have HH:=ab H
 have HS:=ab hs
 have Mu:=H.qlt
 have HB:Hid (Bl w (w.alloc (.cells #[int i64 5,int i64 (n:Int),int i64 ib,int i64 ic,int i64 ii,.slice Q nl q] 55))):=(Bl.refl w).alloc _
 have HL:=ab (aD w #[int i64 5,int i64 (n:Int),int i64 ib,int i64 ic,int i64 ii,.slice Q nl q] 55)
 have z0:=ab ((H.y.bl HB.out).c11)
 have z1:=ab (aF HL.out).1
 have z2:=ab (aF HL.out).2
 have bad:(c.stk=[]∨∃l v,c.stk=l++[v]/\v.kind≠ib)->Calls Tryz.prog 94 #[.pointer (some ⟨a.q,0,none⟩),.agg #[int i64 5,int i64 (n:Int),int i64 ib,int i64 ic,int i64 ii,.slice Q nl q]] w fun e w'=>bT X wx w0 g qs a c ⟨h.fin 6,c,0⟩ e w':=fun ht=>by
  have HT:=ab ht
  clear H hs hd hok hk h2 hn ht
  go_enter Tryz.func94,Tryz.ntmps94
  go_wp2
  refine wp_region_held_drew (S:=fun w'=>w'.cell? ⟨a.q,11,none⟩=some (.slice (some ⟨a.lb,0,none⟩) c.locs.length a.lc)/\w'.cell? ⟨w.heap.size,1,none⟩=some (int i64 (n:Int))/\w'.cell? ⟨w.heap.size,2,none⟩=some (int i64 ib)) (by kernel_rfl) ?_ (fun ae=>?_)
  ·exact ⟨z0.out,z1.out,z2.out⟩
  iterate 9 (refine tn rfl (by kernel_rfl) (fun _ _ _ h=>h) (by intro _ h;go_split_ands;go_simp<;>with_reducible rfl) ae ?_;try simp only [aS,aN,aT,a0,a1])
  refine bI (i:=9) (by kernel_rfl) rfl fun K hK=>?_
  go_simp
  go_at_call 89
  refine (HH.out.y.useN HB.out.drew (fun X wx w H=>dk 1 X wx w0 g h qs a c ib w H HT.out)).mono ?_
  rintro e w1 ⟨rfl,H1⟩
  exact ⟨rfl,cY (s:=0) (ba HS.out) rfl H1.less⟩
 have M5:∀{d d':jE} {e w'},d.h=d'.h->d.h.stops=true->bT X wx w0 g qs a c d e w'->bT X wx w0 g qs a c d' e w':=fun {d d' e w'} e1 e2 q=>⟨by rw [q.how];unfold js;rw [e1],fun _=>e1▸q.stop e2,fun z=>by rw [<-e1,e2] at z;exact absurd z (by decide)⟩
 have ze:(h.fin 6).stops=true:=by simp [Hp.stops,(kq (ba hs) 6).1]
 rcases gB (c:=c) with h0|⟨l,v,h0⟩
 ·have em:h.must (c.has 1)=h.fin 6:=cZ (fE h0)
  have Xk:∀b,(h.fin 6).must b=h.fin 6:=fun b=>by cases b<;>simp [Hp.must,Hp.fin,ba hs]
  rw [em,Xk]
  exact (bad (Or.inl h0)).mono fun e w' q=>M5 (d:=⟨h.fin 6,c,0⟩) rfl ze q
 ·obtain ⟨h1,h3,h4⟩:=fF h0
  rw [dJ h1,h3,h4]
  have kr:h.mustB (decide (v.kind=ib))=decide (v.kind=ib):=by unfold Hp.mustB;rw [ba hs];simp
  rw [kr]
  by_cases hv:v.kind=ib
  ·rw [dJ (by simpa using hv),if_pos (by simpa using hv)]
   have H0:=ab h0
   have HV:=ab hv
   have HN:=ab (And.intro hn (And.intro hk h2))
   clear H hs hd hok hk h2 hn bad M5 ze h0 h1 h3 h4 kr hv
   go_enter Tryz.func94,Tryz.ntmps94
   go_wp2
   refine wp_region_held_drew (S:=fun w'=>w'.cell? ⟨a.q,11,none⟩=some (.slice (some ⟨a.lb,0,none⟩) c.locs.length a.lc)/\w'.cell? ⟨w.heap.size,1,none⟩=some (int i64 (n:Int))/\w'.cell? ⟨w.heap.size,2,none⟩=some (int i64 ib)) (by kernel_rfl) ?_ (fun ae=>?_)
   ·exact ⟨z0.out,z1.out,z2.out⟩
   iterate 9 (refine tn rfl (by kernel_rfl) (fun _ _ _ h=>h) (by intro _ h;go_split_ands;go_simp<;>with_reducible rfl) ae ?_;try simp only [aS,aN,aT,a0,a1])
   refine bI (i:=9) (by kernel_rfl) rfl fun K hK=>?_
   go_simp
   go_at_call 89
   refine (HH.out.y.useY HB.out.drew (fun X wx w H=>cz 1 X wx w0 g h qs a c l v ib w H H0.out HV.out)).mono ?_
   rintro e w1 ⟨rfl,H1,K1⟩
   have kN:=K1.at (Xp.new (Nat.le_refl _) (cX w _)) HL.out
   have d0:=ab H1.c11
   have d1:=ab (aF kN).1
   have d2:=ab (aF kN).2
   replace H1:=ab H1
   replace kN:=ab kN
   clear K1
   go_wp2_with fail
   refine hK.out _ _ (⟨d0.out,d1.out,d2.out⟩) (fun ah=>?_)
   try simp only [aS,aN,aT,a0,a1]
   refine bI (i:=10) (by kernel_rfl) rfl fun K hK=>?_
   go_simp
   go_at_call 84
   refine (H1.out.useY (Bl.refl _) (fun X wx w H=>BD 1 X wx w0 g h qs a { c with stk:=l } n v w H HN.out.1 (by rw [HV.out];exact HN.out.2.1) (fun e=>HN.out.2.2 (HV.out.symm.trans e)))).mono ?_
   rintro e w2 ⟨rfl,H2,K2⟩
   have m8:=K2.at (Xp.old (Xp.new (Nat.le_refl _) (cX w _))) kN.out
   have f0:=ab H2.c11
   replace H2:=ab H2
   go_wp2_with fail
   refine hK.out _ _ (⟨by have:=f0.out;(try dsimp only at this);rw [kC] at this;exact this,(aF m8).1,(aF m8).2⟩) (fun aX=>?_)
   try simp only [aS,aN,aT,a0,a1]
   refine wpAnyH_done (by kernel_rfl) ?_ _
   go_wp2
   go_end0
   exact qX HS.out H2.out.x.less
  ·rw [cZ (by simpa using hv)]
   exact (bad (Or.inr ⟨l,v,h0,hv⟩)).mono fun e w' q=>M5 (d:=⟨h.fin 6,c,0⟩) rfl ze q
theorem CO (H:RX 1 X wx w0 g w h qs a c) (hs:h.stops=false) (hl:c.stk.length<=1000) (hk:ia≠3) (vX:h.sh.out.length<=100000) :
  Calls Tryz.prog 94 #[.pointer (some ⟨a.q,0,none⟩),.agg #[int i64 24,int i64 ia,int i64 ib,int i64 ic,int i64 ii,.slice Q nl q]] w fun e w'=>bT X wx w0 g qs a c (aM h c ⟨24,ia,ib,ic,ii,args⟩) e w':=by
 have hd:aM h c ⟨24,ia,ib,ic,ii,args⟩=oQ h c ⟨24,ia,ib,ic,ii,args⟩:=rfl
 rw [hd]
 unfold oQ
 dsimp only
 have HH:=ab H
 have HS:=ab hs
 have Mu:=H.qlt
 have HB:Hid (Bl w (w.alloc (.cells #[int i64 24,int i64 ia,int i64 ib,int i64 ic,int i64 ii,.slice Q nl q] 55))):=(Bl.refl w).alloc _
 have HL:=ab (aD w #[int i64 24,int i64 ia,int i64 ib,int i64 ic,int i64 ii,.slice Q nl q] 55)
 have z0:=ab ((H.y.bl HB.out).c1)
 have z1:=ab (aF HL.out).1
 have bad:(c.stk=[]∨∃l v,c.stk=l++[v]/\v.kind≠ia)->Calls Tryz.prog 94 #[.pointer (some ⟨a.q,0,none⟩),.agg #[int i64 24,int i64 ia,int i64 ib,int i64 ic,int i64 ii,.slice Q nl q]] w fun e w'=>bT X wx w0 g qs a c ⟨h.fin 6,c,0⟩ e w':=fun ht=>by
  have HT:=ab ht
  clear H hs hd hk vX ht
  go_enter Tryz.func94,Tryz.ntmps94
  go_wp2
  refine wp_region_held_drew (S:=fun w'=>w'.cell? ⟨a.q,1,none⟩=some (.pointer (some ⟨g.r,0,none⟩))/\w'.cell? ⟨w.heap.size,1,none⟩=some (int i64 ia)) (by kernel_rfl) ?_ (fun ae=>?_)
  ·exact ⟨z0.out,z1.out⟩
  iterate 7 (refine tn rfl (by kernel_rfl) (fun _ _ _ h=>h) (by intro _ h;go_split_ands;go_simp<;>with_reducible rfl) ae ?_;try simp only [aS,aN,aT,a0,a1])
  refine bI (i:=7) (by kernel_rfl) rfl fun K hK=>?_
  go_simp
  go_at_call 89
  refine (HH.out.y.useN HB.out.drew (fun X wx w H=>dk 1 X wx w0 g h qs a c ia w H HT.out)).mono ?_
  rintro e w1 ⟨rfl,H1⟩
  exact ⟨rfl,cY (s:=0) (ba HS.out) rfl H1.less⟩
 have M5:∀{d d':jE} {e w'},d.h=d'.h->d.h.stops=true->bT X wx w0 g qs a c d e w'->bT X wx w0 g qs a c d' e w':=fun {d d' e w'} e1 e2 q=>⟨by rw [q.how];unfold js;rw [e1],fun _=>e1▸q.stop e2,fun z=>by rw [<-e1,e2] at z;exact absurd z (by decide)⟩
 have ze:(h.fin 6).stops=true:=by simp [Hp.stops,(kq (ba hs) 6).1]
 rcases gB (c:=c) with h0|⟨l,v,h0⟩
 ·have em:h.must (c.has 1)=h.fin 6:=cZ (fE h0)
  rw [em,if_pos (kq (ba hs) 6).1]
  exact (bad (Or.inl h0)).mono fun e w' q=>M5 (d:=⟨h.fin 6,c,0⟩) rfl ze q
 ·obtain ⟨h1,h3,h4⟩:=fF h0
  rw [dJ h1,h3,h4,if_neg (by rw [ba hs];decide)]
  unfold Hp.emit
  have kr:h.mustB (decide (v.kind=ia))=decide (v.kind=ia):=by unfold Hp.mustB;rw [ba hs];simp
  rw [kr]
  by_cases hv:v.kind=ia
  ·rw [if_pos (by simpa using hv)]
   have H0:=ab h0
   have HV:=ab hv
   have HO:=ab vX
   have Ls:im v=v:=eJ (by rw [hv];exact hk)
   have HM:=ab Ls
   clear H hs hd hk vX bad M5 ze h0 h1 h3 h4 kr hv Ls
   go_enter Tryz.func94,Tryz.ntmps94
   go_wp2
   refine wp_region_held_drew (S:=fun w'=>w'.cell? ⟨a.q,1,none⟩=some (.pointer (some ⟨g.r,0,none⟩))/\w'.cell? ⟨w.heap.size,1,none⟩=some (int i64 ia)) (by kernel_rfl) ?_ (fun ae=>?_)
   ·exact ⟨z0.out,z1.out⟩
   iterate 7 (refine tn rfl (by kernel_rfl) (fun _ _ _ h=>h) (by intro _ h;go_split_ands;go_simp<;>with_reducible rfl) ae ?_;try simp only [aS,aN,aT,a0,a1])
   refine bI (i:=7) (by kernel_rfl) rfl fun K hK=>?_
   go_simp
   go_at_call 89
   refine (HH.out.y.useY HB.out.drew (fun X wx w H=>cz 1 X wx w0 g h qs a c l v ia w H H0.out HV.out)).mono ?_
   rintro e w1 ⟨he,H1,K1⟩
   rw [HM.out] at he
   subst he
   have kN:=K1.at (Xp.new (Nat.le_refl _) (cX w _)) HL.out
   have d0:=ab H1.c1
   have d1:=ab (aF kN).1
   replace H1:=ab H1
   replace kN:=ab kN
   clear K1
   go_wp2_with fail
   refine hK.out _ _ (⟨d0.out,d1.out⟩) (fun ah=>?_)
   try simp only [aS,aN,aT,a0,a1]
   refine bI (i:=8) (by kernel_rfl) rfl fun K hK=>?_
   go_simp
   go_at_call 150
   refine (H1.out.useY (Bl.refl _) (fun X wx w H=>BK 1 X wx w0 g h qs a { c with stk:=l } v w H HO.out)).mono ?_
   rintro e w2 ⟨rfl,H2,K2⟩
   have m8:=K2.at (Xp.old (Xp.new (Nat.le_refl _) (cX w _))) kN.out
   have f0:=ab H2.c1
   replace H2:=ab H2
   go_wp2_with fail
   refine hK.out _ _ (⟨f0.out,(aF m8).1⟩) (fun aX=>?_)
   try simp only [aS,aN,aT,a0,a1]
   refine wpAnyH_done (by kernel_rfl) ?_ _
   go_wp2
   go_end0
   exact qX (h:=h.outs v.n) HS.out H2.out.x.less
  ·rw [if_neg (by simpa using hv),cZ (by simpa using hv)]
   exact (bad (Or.inr ⟨l,v,h0,hv⟩)).mono fun e w' q=>M5 (d:=⟨h.fin 6,c,0⟩) rfl ze q
end
end
section
open Go.Maps (Keyed has)
theorem fQ (d:jE):js d=.returned (.tuple #[])∨∃ch,js d=.panicked ch:=by
 unfold js
 split
 ·exact Or.inr ⟨_,rfl⟩
 ·split
  ·exact Or.inr ⟨_,rfl⟩
  ·exact Or.inl rfl
section
variable (X:Nat->Prop) (wx w0:World) (g:Mg) (qs:List Nat) (a:Mc) (c:aH) (ia ib ic ii:Int) (Q:Option Addr) (nl q:Nat)
theorem xm (d:jE) (w:World) (P:World->Prop) (hP:P w) (hB:∀w',Bl w w'->P w') (hc:∀w,P w->Calls Tryz.prog 153 #[.pointer (some ⟨a.q,0,none⟩),.agg #[int i64 14,int i64 ia,int i64 ib,int i64 ic,int i64 ii,.slice Q nl q]] w fun e w'=>bT X wx w0 g qs a c d e w') :
  Calls Tryz.prog 94 #[.pointer (some ⟨a.q,0,none⟩),.agg #[int i64 14,int i64 ia,int i64 ib,int i64 ic,int i64 ii,.slice Q nl q]] w fun e w'=>bT X wx w0 g qs a c d e w':=by
 have HC:=ab (hc _ (hB _ ((Bl.refl w).alloc (.cells #[int i64 14,int i64 ia,int i64 ib,int i64 ic,int i64 ii,.slice Q nl q] 55))))
 clear hc hP hB
 rcases fQ d with hE|⟨ch,hE⟩
 ·have HE:=ab hE
  go_enter Tryz.func94,Tryz.ntmps94
  go_wp2_with (go_at_call 153;refine HC.out.mono ?_;rintro e w1 q;have he:=q.how;rw [HE.out] at he;subst he;replace q:=ab q)
  go_end0
  exact q.out
 ·have HE:=ab hE
  go_enter Tryz.func94,Tryz.ntmps94
  go_wp2_with (go_at_call 153;refine HC.out.mono ?_;rintro e w1 q;have he:=q.how;rw [HE.out] at he;subst he;replace q:=ab q)
  exact ⟨rfl,q.out⟩
theorem xp (d:jE) (w:World) (P:World->Prop) (hP:P w) (hB:∀w',Bl w w'->P w') (hc:∀w,P w->Calls Tryz.prog 153 #[.pointer (some ⟨a.q,0,none⟩),.agg #[int i64 15,int i64 ia,int i64 ib,int i64 ic,int i64 ii,.slice Q nl q]] w fun e w'=>bT X wx w0 g qs a c d e w') :
  Calls Tryz.prog 94 #[.pointer (some ⟨a.q,0,none⟩),.agg #[int i64 15,int i64 ia,int i64 ib,int i64 ic,int i64 ii,.slice Q nl q]] w fun e w'=>bT X wx w0 g qs a c d e w':=by
 have HC:=ab (hc _ (hB _ ((Bl.refl w).alloc (.cells #[int i64 15,int i64 ia,int i64 ib,int i64 ic,int i64 ii,.slice Q nl q] 55))))
 clear hc hP hB
 rcases fQ d with hE|⟨ch,hE⟩
 ·have HE:=ab hE
  go_enter Tryz.func94,Tryz.ntmps94
  go_wp2_with (go_at_call 153;refine HC.out.mono ?_;rintro e w1 q;have he:=q.how;rw [HE.out] at he;subst he;replace q:=ab q)
  go_end0
  exact q.out
 ·have HE:=ab hE
  go_enter Tryz.func94,Tryz.ntmps94
  go_wp2_with (go_at_call 153;refine HC.out.mono ?_;rintro e w1 q;have he:=q.how;rw [HE.out] at he;subst he;replace q:=ab q)
  exact ⟨rfl,q.out⟩
theorem xq (d:jE) (w:World) (P:World->Prop) (hP:P w) (hB:∀w',Bl w w'->P w') (hc:∀w,P w->Calls Tryz.prog 153 #[.pointer (some ⟨a.q,0,none⟩),.agg #[int i64 16,int i64 ia,int i64 ib,int i64 ic,int i64 ii,.slice Q nl q]] w fun e w'=>bT X wx w0 g qs a c d e w') :
  Calls Tryz.prog 94 #[.pointer (some ⟨a.q,0,none⟩),.agg #[int i64 16,int i64 ia,int i64 ib,int i64 ic,int i64 ii,.slice Q nl q]] w fun e w'=>bT X wx w0 g qs a c d e w':=by
 have HC:=ab (hc _ (hB _ ((Bl.refl w).alloc (.cells #[int i64 16,int i64 ia,int i64 ib,int i64 ic,int i64 ii,.slice Q nl q] 55))))
 clear hc hP hB
 rcases fQ d with hE|⟨ch,hE⟩
 ·have HE:=ab hE
  go_enter Tryz.func94,Tryz.ntmps94
  go_wp2_with (go_at_call 153;refine HC.out.mono ?_;rintro e w1 q;have he:=q.how;rw [HE.out] at he;subst he;replace q:=ab q)
  go_end0
  exact q.out
 ·have HE:=ab hE
  go_enter Tryz.func94,Tryz.ntmps94
  go_wp2_with (go_at_call 153;refine HC.out.mono ?_;rintro e w1 q;have he:=q.how;rw [HE.out] at he;subst he;replace q:=ab q)
  exact ⟨rfl,q.out⟩
theorem xr (d:jE) (w:World) (P:World->Prop) (hP:P w) (hB:∀w',Bl w w'->P w') (hc:∀w,P w->Calls Tryz.prog 153 #[.pointer (some ⟨a.q,0,none⟩),.agg #[int i64 17,int i64 ia,int i64 ib,int i64 ic,int i64 ii,.slice Q nl q]] w fun e w'=>bT X wx w0 g qs a c d e w') :
  Calls Tryz.prog 94 #[.pointer (some ⟨a.q,0,none⟩),.agg #[int i64 17,int i64 ia,int i64 ib,int i64 ic,int i64 ii,.slice Q nl q]] w fun e w'=>bT X wx w0 g qs a c d e w':=by
 have HC:=ab (hc _ (hB _ ((Bl.refl w).alloc (.cells #[int i64 17,int i64 ia,int i64 ib,int i64 ic,int i64 ii,.slice Q nl q] 55))))
 clear hc hP hB
 rcases fQ d with hE|⟨ch,hE⟩
 ·have HE:=ab hE
  go_enter Tryz.func94,Tryz.ntmps94
  go_wp2_with (go_at_call 153;refine HC.out.mono ?_;rintro e w1 q;have he:=q.how;rw [HE.out] at he;subst he;replace q:=ab q)
  go_end0
  exact q.out
 ·have HE:=ab hE
  go_enter Tryz.func94,Tryz.ntmps94
  go_wp2_with (go_at_call 153;refine HC.out.mono ?_;rintro e w1 q;have he:=q.how;rw [HE.out] at he;subst he;replace q:=ab q)
  exact ⟨rfl,q.out⟩
theorem xt (d:jE) (w:World) (P:World->Prop) (hP:P w) (hB:∀w',Bl w w'->P w') (hc:∀w,P w->Calls Tryz.prog 153 #[.pointer (some ⟨a.q,0,none⟩),.agg #[int i64 18,int i64 ia,int i64 ib,int i64 ic,int i64 ii,.slice Q nl q]] w fun e w'=>bT X wx w0 g qs a c d e w') :
  Calls Tryz.prog 94 #[.pointer (some ⟨a.q,0,none⟩),.agg #[int i64 18,int i64 ia,int i64 ib,int i64 ic,int i64 ii,.slice Q nl q]] w fun e w'=>bT X wx w0 g qs a c d e w':=by
 have HC:=ab (hc _ (hB _ ((Bl.refl w).alloc (.cells #[int i64 18,int i64 ia,int i64 ib,int i64 ic,int i64 ii,.slice Q nl q] 55))))
 clear hc hP hB
 rcases fQ d with hE|⟨ch,hE⟩
 ·have HE:=ab hE
  go_enter Tryz.func94,Tryz.ntmps94
  go_wp2_with (go_at_call 153;refine HC.out.mono ?_;rintro e w1 q;have he:=q.how;rw [HE.out] at he;subst he;replace q:=ab q)
  go_end0
  exact q.out
 ·have HE:=ab hE
  go_enter Tryz.func94,Tryz.ntmps94
  go_wp2_with (go_at_call 153;refine HC.out.mono ?_;rintro e w1 q;have he:=q.how;rw [HE.out] at he;subst he;replace q:=ab q)
  exact ⟨rfl,q.out⟩
theorem xv (d:jE) (w:World) (P:World->Prop) (hP:P w) (hB:∀w',Bl w w'->P w') (hc:∀w,P w->Calls Tryz.prog 153 #[.pointer (some ⟨a.q,0,none⟩),.agg #[int i64 21,int i64 ia,int i64 ib,int i64 ic,int i64 ii,.slice Q nl q]] w fun e w'=>bT X wx w0 g qs a c d e w') :
  Calls Tryz.prog 94 #[.pointer (some ⟨a.q,0,none⟩),.agg #[int i64 21,int i64 ia,int i64 ib,int i64 ic,int i64 ii,.slice Q nl q]] w fun e w'=>bT X wx w0 g qs a c d e w':=by
 have HC:=ab (hc _ (hB _ ((Bl.refl w).alloc (.cells #[int i64 21,int i64 ia,int i64 ib,int i64 ic,int i64 ii,.slice Q nl q] 55))))
 clear hc hP hB
 rcases fQ d with hE|⟨ch,hE⟩
 ·have HE:=ab hE
  go_enter Tryz.func94,Tryz.ntmps94
  go_wp2_with (go_at_call 153;refine HC.out.mono ?_;rintro e w1 q;have he:=q.how;rw [HE.out] at he;subst he;replace q:=ab q)
  go_end0
  exact q.out
 ·have HE:=ab hE
  go_enter Tryz.func94,Tryz.ntmps94
  go_wp2_with (go_at_call 153;refine HC.out.mono ?_;rintro e w1 q;have he:=q.how;rw [HE.out] at he;subst he;replace q:=ab q)
  exact ⟨rfl,q.out⟩
end
end
section
open Go.Maps (Keyed has)
structure rU (w:World) (a:Mc) (c:aH) (i:In) (cb co:Nat) (Q:Option Addr) (q n:Nat):Prop where
 C:a.C=some ⟨cb,co,none⟩
 pc:c.pc=n
 lt:n<c.m.code.length
 len:c.m.code.length<=maxLen
 c0:w.cell? ⟨cb,co+n*6,none⟩=some (int i64 i.op)
 c1:w.cell? ⟨cb,co+n*6+1,none⟩=some (int i64 i.a)
 c2:w.cell? ⟨cb,co+n*6+2,none⟩=some (int i64 i.b)
 c3:w.cell? ⟨cb,co+n*6+3,none⟩=some (int i64 i.c)
 c4:w.cell? ⟨cb,co+n*6+4,none⟩=some (int i64 i.n)
 c5:w.cell? ⟨cb,co+n*6+5,none⟩=some (.slice Q i.args.length q)
theorem rU.bl {w w':World} {a:Mc} {c:aH} {i:In} {cb co:Nat} {Q:Option Addr} {q n:Nat} (H:rU w a c i cb co Q q n) (hb:Bl w w'):rU w' a c i cb co Q q n:=⟨H.C,H.pc,H.lt,H.len,hb.cell H.c0,hb.cell H.c1,hb.cell H.c2,hb.cell H.c3,hb.cell H.c4,hb.cell H.c5⟩
theorem RX.ati {s:Nat} {X:Nat->Prop} {wx w0 w:World} {g:Mg} {h:Hp} {qs:List Nat} {a:Mc} {c:aH} (H:RX s X wx w0 g w h qs a c) (hp:0<=c.pc/\c.pc<c.m.code.length):∃cb co Q q,rU w a c (nth fW c.m.code c.pc.toNat) cb co Q q c.pc.toNat:=by
 obtain ⟨vc,vo,vx,vs,l,H⟩:=H
 have hm:=H.ca.me.2.1.bl H.rh.bl
 rcases hm.2 with h0|⟨cb,co,hC,hi⟩
 ·omega
 obtain ⟨k0,k1,k2,k3,k4,-,Q,q,k5,-⟩:=hi c.pc.toNat (by omega)
 exact ⟨cb,co,Q,q,hC,by omega,by omega,hm.1,k0,k1,k2,k3,k4,k5⟩
theorem J5 (h:Hp) (c:aH) (i:In):(aM h c i).c.pc=c.pc:=by
 have hc:=fun k=>(mA c k).2.1
 unfold aM
 split
 ·rfl
 split
 ·exact hc 1
 split
 ·exact hc 1
 split
 ·exact hc 1
 split
 ·unfold kR;dsimp only;split<;>rfl
 split
 ·unfold kD;dsimp only;split
  ·exact hc 1
  ·exact hc 1
 split
 ·exact hc 1
 split
 ·unfold pj;dsimp only;split
  ·exact hc 1
  ·exact hc 1
 split
 ·exact hc 1
 split
 ·exact hc 2
 ·unfold b8;dsimp only;split
  ·exact hc _
  ·exact hc _
theorem J6 (h:Hp) (c:aH) (i:In) (h1:i.op≠11) (h2:i.op≠12) (h3:i.op≠13):(aM h c i).nx=c.pc+1:=by
 unfold aM
 rw [if_neg h1,if_neg h2,if_neg h3]
 split
 ·rfl
 split
 ·unfold kR;dsimp only;split<;>rfl
 split
 ·rfl
 split
 ·rfl
 split
 ·unfold pj;dsimp only;split<;>rfl
 split
 ·rfl
 split
 ·rfl
 ·unfold b8;dsimp only;split<;>rfl
structure rV (X:Nat->Prop) (wx w0:World) (g:Mg) (qs:List Nat) (a:Mc) (c:aH) (d:jE) (e:Ending) (w':World):Prop where
 how:e=js d
 stop:d.h.stops=true->RS 0 X wx w0 g w' d.h qs a c
 go:d.h.stops=false->RX 0 X wx w0 g w' d.h qs a { d.c with pc:=d.nx }
section
variable {s:Nat} {X:Nat->Prop} {wx w0 w:World} {g:Mg} {h:Hp} {qs:List Nat} {a:Mc} {c:aH}
theorem RX.setpc (H:RX s X wx w0 g w h qs a c) (n:Int):RX s X wx w0 g (w.setCell ⟨a.q,10,none⟩ (int i64 n)) h qs a { c with pc:=n }:=by
 obtain ⟨vc,vo,vx,vs,l,H⟩:=H
 exact ⟨vc,vo,vx,vs,l,H.setq rfl rfl rfl H.ca.stk (fun b e=>⟨fun q=>H.ca.apart (by rw [<-q];exact e),fun hx=>(H.farc b hx).s e⟩) H.ca.kinds⟩
theorem RX.c10 (H:RX s X wx w0 g w h qs a c):w.cell? ⟨a.q,10,none⟩=some (int i64 c.pc)/\(∀i,w.frozen? ⟨a.q,i,none⟩=false)/\w.cell? ⟨a.q,8,none⟩=some (.slice a.C c.m.code.length a.c):=by
 obtain ⟨vc,vo,vx,vs,l,H⟩:=H
 exact ⟨H.ca.cells.c10,H.ca.free,H.ca.cells.c8⟩
end
theorem M6 (X:Nat->Prop) (wx w0:World) (g:Mg) (h:Hp) (qs:List Nat) (a:Mc) (c:aH) (w:World) (H:RX 1 X wx w0 g w h qs a c) (hs:h.stops=false) (hp:(c.m.code.length:Int)<=c.pc) (K8:c.m.code.length<=maxLen) :
  Calls Tryz.prog 40 #[.pointer (some ⟨a.q,0,none⟩)] w fun e w'=>e=aV 6 0 0/\RX 1 X wx w0 g w' h qs a c:=by
 have HH:=ab H
 obtain ⟨c10,fz,c8⟩:=H.c10
 have hq:=H.qlt
 clear H
 go_enter Tryz.func40,Tryz.ntmps40
 go_wp2
 go_quiet (fail)
 go_wp2_with (go_at_call 86;refine (jd _).mono ?_;rintro e w1 ⟨rfl,hw⟩;rw [hw];clear hw w1)
 exact ⟨rfl,rfl,HH.out.bl (aR (Bl.refl w) _)⟩
theorem J7 (w:World) (b:Nat) (hb:b=w.heap.size) (T:TypeId):(w.alloc (.cells #[int i64 0,int i64 0,int i64 0,int i64 0,int i64 0,.slice none 0 0] T)).cell? ⟨b,0,none⟩=some (int i64 0)/\(w.alloc (.cells #[int i64 0,int i64 0,int i64 0,int i64 0,int i64 0,.slice none 0 0] T)).cell? ⟨b,1,none⟩=some (int i64 0)/\(w.alloc (.cells #[int i64 0,int i64 0,int i64 0,int i64 0,int i64 0,.slice none 0 0] T)).cell? ⟨b,2,none⟩=some (int i64 0)/\(w.alloc (.cells #[int i64 0,int i64 0,int i64 0,int i64 0,int i64 0,.slice none 0 0] T)).cell? ⟨b,3,none⟩=some (int i64 0)/\(w.alloc (.cells #[int i64 0,int i64 0,int i64 0,int i64 0,int i64 0,.slice none 0 0] T)).cell? ⟨b,4,none⟩=some (int i64 0)/\(w.alloc (.cells #[int i64 0,int i64 0,int i64 0,int i64 0,int i64 0,.slice none 0 0] T)).cell? ⟨b,5,none⟩=some (.slice none 0 0)/\∀i,(w.alloc (.cells #[int i64 0,int i64 0,int i64 0,int i64 0,int i64 0,.slice none 0 0] T)).frozen? ⟨b,i,none⟩=false:=by
 subst hb
 exact ⟨ak rfl,ak rfl,ak rfl,ak rfl,ak rfl,ak rfl,fun i=>by unfold World.frozen?;rw [aD];simp⟩
theorem cU (w:World) (b:Nat) {o o':Nat} (v:Value) (h:o≠o'):(w.setCell ⟨b,o,none⟩ v).cell? ⟨b,o',none⟩=w.cell? ⟨b,o',none⟩:=World.cell?_setCell_other w _ _ _ (by intro e;injection e with _ e _;exact h e)
theorem J8 {w:World} {b:Nat} {u0 u1 u2 u3 u4 u5:Value} (h0:w.cell? ⟨b,0,none⟩=some u0) (h1:w.cell? ⟨b,1,none⟩=some u1) (h2:w.cell? ⟨b,2,none⟩=some u2) (h3:w.cell? ⟨b,3,none⟩=some u3) (h4:w.cell? ⟨b,4,none⟩=some u4) (h5:w.cell? ⟨b,5,none⟩=some u5) (hf:∀i,w.frozen? ⟨b,i,none⟩=false) (y0 y1 y2 y3 y4 y5:Value):((((((w.setCell ⟨b,0,none⟩ y0).setCell ⟨b,1,none⟩ y1).setCell ⟨b,2,none⟩ y2).setCell ⟨b,3,none⟩ y3).setCell ⟨b,4,none⟩ y4).setCell ⟨b,5,none⟩ y5).cell? ⟨b,0,none⟩=some y0/\((((((w.setCell ⟨b,0,none⟩ y0).setCell ⟨b,1,none⟩ y1).setCell ⟨b,2,none⟩ y2).setCell ⟨b,3,none⟩ y3).setCell ⟨b,4,none⟩ y4).setCell ⟨b,5,none⟩ y5).cell? ⟨b,1,none⟩=some y1/\((((((w.setCell ⟨b,0,none⟩ y0).setCell ⟨b,1,none⟩ y1).setCell ⟨b,2,none⟩ y2).setCell ⟨b,3,none⟩ y3).setCell ⟨b,4,none⟩ y4).setCell ⟨b,5,none⟩ y5).cell? ⟨b,2,none⟩=some y2/\((((((w.setCell ⟨b,0,none⟩ y0).setCell ⟨b,1,none⟩ y1).setCell ⟨b,2,none⟩ y2).setCell ⟨b,3,none⟩ y3).setCell ⟨b,4,none⟩ y4).setCell ⟨b,5,none⟩ y5).cell? ⟨b,3,none⟩=some y3/\((((((w.setCell ⟨b,0,none⟩ y0).setCell ⟨b,1,none⟩ y1).setCell ⟨b,2,none⟩ y2).setCell ⟨b,3,none⟩ y3).setCell ⟨b,4,none⟩ y4).setCell ⟨b,5,none⟩ y5).cell? ⟨b,4,none⟩=some y4/\((((((w.setCell ⟨b,0,none⟩ y0).setCell ⟨b,1,none⟩ y1).setCell ⟨b,2,none⟩ y2).setCell ⟨b,3,none⟩ y3).setCell ⟨b,4,none⟩ y4).setCell ⟨b,5,none⟩ y5).cell? ⟨b,5,none⟩=some y5/\∀i,((((((w.setCell ⟨b,0,none⟩ y0).setCell ⟨b,1,none⟩ y1).setCell ⟨b,2,none⟩ y2).setCell ⟨b,3,none⟩ y3).setCell ⟨b,4,none⟩ y4).setCell ⟨b,5,none⟩ y5).frozen? ⟨b,i,none⟩=false:=by
 refine ⟨?_,?_,?_,?_,?_,?_,fun i=>by simp only [World.frozen?_setCell];exact hf i⟩
 ·rw [cU _ _ _ (by decide)];rw [cU _ _ _ (by decide)];rw [cU _ _ _ (by decide)];rw [cU _ _ _ (by decide)];rw [cU _ _ _ (by decide)];refine World.cell?_setCell_same _ _ _ (u:=u0) ?_;exact h0
 ·rw [cU _ _ _ (by decide)];rw [cU _ _ _ (by decide)];rw [cU _ _ _ (by decide)];rw [cU _ _ _ (by decide)];refine World.cell?_setCell_same _ _ _ (u:=u1) ?_;rw [cU _ _ _ (by decide)];exact h1
 ·rw [cU _ _ _ (by decide)];rw [cU _ _ _ (by decide)];rw [cU _ _ _ (by decide)];refine World.cell?_setCell_same _ _ _ (u:=u2) ?_;rw [cU _ _ _ (by decide)];rw [cU _ _ _ (by decide)];exact h2
 ·rw [cU _ _ _ (by decide)];rw [cU _ _ _ (by decide)];refine World.cell?_setCell_same _ _ _ (u:=u3) ?_;rw [cU _ _ _ (by decide)];rw [cU _ _ _ (by decide)];rw [cU _ _ _ (by decide)];exact h3
 ·rw [cU _ _ _ (by decide)];refine World.cell?_setCell_same _ _ _ (u:=u4) ?_;rw [cU _ _ _ (by decide)];rw [cU _ _ _ (by decide)];rw [cU _ _ _ (by decide)];rw [cU _ _ _ (by decide)];exact h4
 ·refine World.cell?_setCell_same _ _ _ (u:=u5) ?_;rw [cU _ _ _ (by decide)];rw [cU _ _ _ (by decide)];rw [cU _ _ _ (by decide)];rw [cU _ _ _ (by decide)];rw [cU _ _ _ (by decide)];exact h5
theorem M8 {w v:World} (h:Bl w v) {b:Nat} (hb:w.heap.size<=b) (y0 y1 y2 y3 y4 y5:Value):Bl w ((((((v.setCell ⟨b,0,none⟩ y0).setCell ⟨b,1,none⟩ y1).setCell ⟨b,2,none⟩ y2).setCell ⟨b,3,none⟩ y3).setCell ⟨b,4,none⟩ y4).setCell ⟨b,5,none⟩ y5):=((((((h.setCell (p:=⟨b,0,none⟩) hb y0).setCell (p:=⟨b,1,none⟩) hb y1).setCell (p:=⟨b,2,none⟩) hb y2).setCell (p:=⟨b,3,none⟩) hb y3).setCell (p:=⟨b,4,none⟩) hb y4).setCell (p:=⟨b,5,none⟩) hb y5)
theorem Av {s:Nat} {X:Nat->Prop} {wx w0 w:World} {g:Mg} {h:Hp} {qs:List Nat} {a:Mc} {c:aH} {op ia ib ic ii:Int} {args:List Int} {cb co:Nat} {Q:Option Addr} {q n:Nat} (H:RX s X wx w0 g w h qs a c) (A:rU w a c ⟨op,ia,ib,ic,ii,args⟩ cb co Q q n) :
  w.cell? ⟨a.q,10,none⟩=some (int i64 (n:Int))/\(∀i,w.frozen? ⟨a.q,i,none⟩=false)/\w.cell? ⟨a.q,8,none⟩=some (.slice (some ⟨cb,co,none⟩) c.m.code.length a.c)/\a.q<w.heap.size/\c.m.code.length<=2 ^ 63-1/\n<c.m.code.length/\Hid (c.pc=n)/\(0:Int)<=(n:Int)/\(n:Int)<(c.m.code.length:Int)/\decide ((c.m.code.length:Int)<=(n:Int))=false
   /\ Hid (∀w',Bl w w'->w'.cell? ⟨a.q,8,none⟩=some (.slice (some ⟨cb,co,none⟩) c.m.code.length a.c)/\w'.cell? ⟨a.q,10,none⟩=some (int i64 (n:Int))/\w'.cell? ⟨cb,co+n*6,none⟩=some (int i64 op)/\w'.cell? ⟨cb,co+n*6+1,none⟩=some (int i64 ia)/\w'.cell? ⟨cb,co+n*6+2,none⟩=some (int i64 ib)/\w'.cell? ⟨cb,co+n*6+3,none⟩=some (int i64 ic)/\w'.cell? ⟨cb,co+n*6+4,none⟩=some (int i64 ii)/\w'.cell? ⟨cb,co+n*6+5,none⟩=some (.slice Q args.length q))/\(∀i,w.frozen? ⟨w.heap.size,i,none⟩=false)/\∀i n,(w.drewN n).frozen? ⟨w.heap.size,i,none⟩=false:=by
 obtain ⟨c10,fz,c8⟩:=H.c10
 have hcl:=A.len
 have hlt:=A.lt
 rw [A.pc] at c10
 rw [A.C] at c8
 unfold maxLen at hcl
 have xZ:∀i,w.frozen? ⟨w.heap.size,i,none⟩=false:=fun i=>by simp [World.frozen?]
 exact ⟨c10,fz,c8,H.qlt,hcl,hlt,A.pc,by omega,by omega,by simpa using hlt,fun w' hb=>⟨hb.cell c8,hb.cell c10,hb.cell A.c0,hb.cell A.c1,hb.cell A.c2,hb.cell A.c3,hb.cell A.c4,hb.cell A.c5⟩,xZ,fun i n=>by rw [World.frozen?_drewN];exact xZ i⟩
theorem mS (w:World) (m B:Nat) (hB:B=w.heap.size):Hid (Bl w ((w.drewN m).alloc (.cells #[int i64 0,int i64 0,int i64 0,int i64 0,int i64 0,.slice none 0 0] 55)))/\((w.drewN m).alloc (.cells #[int i64 0,int i64 0,int i64 0,int i64 0,int i64 0,.slice none 0 0] 55)).cell? ⟨B,0,none⟩=some (int i64 0)/\((w.drewN m).alloc (.cells #[int i64 0,int i64 0,int i64 0,int i64 0,int i64 0,.slice none 0 0] 55)).cell? ⟨B,1,none⟩=some (int i64 0)/\((w.drewN m).alloc (.cells #[int i64 0,int i64 0,int i64 0,int i64 0,int i64 0,.slice none 0 0] 55)).cell? ⟨B,2,none⟩=some (int i64 0)/\((w.drewN m).alloc (.cells #[int i64 0,int i64 0,int i64 0,int i64 0,int i64 0,.slice none 0 0] 55)).cell? ⟨B,3,none⟩=some (int i64 0)/\((w.drewN m).alloc (.cells #[int i64 0,int i64 0,int i64 0,int i64 0,int i64 0,.slice none 0 0] 55)).cell? ⟨B,4,none⟩=some (int i64 0)/\((w.drewN m).alloc (.cells #[int i64 0,int i64 0,int i64 0,int i64 0,int i64 0,.slice none 0 0] 55)).cell? ⟨B,5,none⟩=some (.slice none 0 0)
  /\ (∀i,((w.drewN m).alloc (.cells #[int i64 0,int i64 0,int i64 0,int i64 0,int i64 0,.slice none 0 0] 55)).frozen? ⟨B,i,none⟩=false)/\Hid (((w.drewN m).alloc (.cells #[int i64 0,int i64 0,int i64 0,int i64 0,int i64 0,.slice none 0 0] 55)).heap[B]?=some (.cells #[int i64 0,int i64 0,int i64 0,int i64 0,int i64 0,.slice none 0 0] 55 (0,0)))/\Hid (w.heap.size<=B):=by
 subst hB
 obtain ⟨v0,v1,v2,v3,v4,v5,jA⟩:=J7 (w.drewN m) w.heap.size rfl 55
 exact ⟨(aR (Bl.refl w) _).alloc _,v0,v1,v2,v3,v4,v5,jA,aD _ _ _,Nat.le_refl _⟩
theorem J9 {w:World} {b:Nat} {t:TypeId} (q:w.heap[b]?=some (.cells #[int i64 0,int i64 0,int i64 0,int i64 0,int i64 0,.slice none 0 0] t (0,0))) (y0 y1 y2 y3 y4 y5:Value):((((((w.setCell ⟨b,0,none⟩ y0).setCell ⟨b,1,none⟩ y1).setCell ⟨b,2,none⟩ y2).setCell ⟨b,3,none⟩ y3).setCell ⟨b,4,none⟩ y4).setCell ⟨b,5,none⟩ y5).heap[b]?=some (.cells #[y0,y1,y2,y3,y4,y5] t (0,0)):=by
 rw [ax (ax (ax (ax (ax (ax q _) _) _) _) _) _];rfl
theorem mT {w v:World} {b:Nat} {u0 u1 u2 u3 u4 u5:Value} (h:Hid (Bl w v)) (hb:Hid (w.heap.size<=b)) (h0:v.cell? ⟨b,0,none⟩=some u0) (h1:v.cell? ⟨b,1,none⟩=some u1) (h2:v.cell? ⟨b,2,none⟩=some u2) (h3:v.cell? ⟨b,3,none⟩=some u3) (h4:v.cell? ⟨b,4,none⟩=some u4) (h5:v.cell? ⟨b,5,none⟩=some u5) (hf:∀i,v.frozen? ⟨b,i,none⟩=false) (qB:Hid (v.heap[b]?=some (.cells #[int i64 0,int i64 0,int i64 0,int i64 0,int i64 0,.slice none 0 0] 55 (0,0)))) (y0 y1 y2 y3 y4 y5:Value) :
  Hid (Bl w ((((((v.setCell ⟨b,0,none⟩ y0).setCell ⟨b,1,none⟩ y1).setCell ⟨b,2,none⟩ y2).setCell ⟨b,3,none⟩ y3).setCell ⟨b,4,none⟩ y4).setCell ⟨b,5,none⟩ y5))/\Hid (((((((v.setCell ⟨b,0,none⟩ y0).setCell ⟨b,1,none⟩ y1).setCell ⟨b,2,none⟩ y2).setCell ⟨b,3,none⟩ y3).setCell ⟨b,4,none⟩ y4).setCell ⟨b,5,none⟩ y5).cell? ⟨b,0,none⟩=some y0/\((((((v.setCell ⟨b,0,none⟩ y0).setCell ⟨b,1,none⟩ y1).setCell ⟨b,2,none⟩ y2).setCell ⟨b,3,none⟩ y3).setCell ⟨b,4,none⟩ y4).setCell ⟨b,5,none⟩ y5).cell? ⟨b,1,none⟩=some y1/\((((((v.setCell ⟨b,0,none⟩ y0).setCell ⟨b,1,none⟩ y1).setCell ⟨b,2,none⟩ y2).setCell ⟨b,3,none⟩ y3).setCell ⟨b,4,none⟩ y4).setCell ⟨b,5,none⟩ y5).cell? ⟨b,2,none⟩=some y2/\((((((v.setCell ⟨b,0,none⟩ y0).setCell ⟨b,1,none⟩ y1).setCell ⟨b,2,none⟩ y2).setCell ⟨b,3,none⟩ y3).setCell ⟨b,4,none⟩ y4).setCell ⟨b,5,none⟩ y5).cell? ⟨b,3,none⟩=some y3/\((((((v.setCell ⟨b,0,none⟩ y0).setCell ⟨b,1,none⟩ y1).setCell ⟨b,2,none⟩ y2).setCell ⟨b,3,none⟩ y3).setCell ⟨b,4,none⟩ y4).setCell ⟨b,5,none⟩ y5).cell? ⟨b,4,none⟩=some y4/\((((((v.setCell ⟨b,0,none⟩ y0).setCell ⟨b,1,none⟩ y1).setCell ⟨b,2,none⟩ y2).setCell ⟨b,3,none⟩ y3).setCell ⟨b,4,none⟩ y4).setCell ⟨b,5,none⟩ y5).cell? ⟨b,5,none⟩=some y5/\∀i,((((((v.setCell ⟨b,0,none⟩ y0).setCell ⟨b,1,none⟩ y1).setCell ⟨b,2,none⟩ y2).setCell ⟨b,3,none⟩ y3).setCell ⟨b,4,none⟩ y4).setCell ⟨b,5,none⟩ y5).frozen? ⟨b,i,none⟩=false)/\Hid (((((((v.setCell ⟨b,0,none⟩ y0).setCell ⟨b,1,none⟩ y1).setCell ⟨b,2,none⟩ y2).setCell ⟨b,3,none⟩ y3).setCell ⟨b,4,none⟩ y4).setCell ⟨b,5,none⟩ y5).heap[b]?=some (.cells #[y0,y1,y2,y3,y4,y5] 55 (0,0))) :=
 ⟨M8 h.out hb.out _ _ _ _ _ _,J8 h0 h1 h2 h3 h4 h5 hf _ _ _ _ _ _,J9 qB.out _ _ _ _ _ _⟩
end
theorem Ka (X:Nat->Prop) (wx w0:World) (g:Mg) (h:Hp) (qs:List Nat) (a:Mc) (c:aH) (w:World) (H:RX 1 X wx w0 g w h qs a c) (hs:h.stops=false) (op ia ib ic ii:Int) (args:List Int) (cb co:Nat) (Q:Option Addr) (q n:Nat) (A:rU w a c ⟨op,ia,ib,ic,ii,args⟩ cb co Q q n) (h1:op≠11) (h2:op≠12) (h3:op≠13) (h4:op≠19) (h5:op≠20)
  (hw:∀w',Bl w w'->Calls Tryz.prog 94 #[.pointer (some ⟨a.q,0,none⟩),.agg #[int i64 op,int i64 ia,int i64 ib,int i64 ic,int i64 ii,.slice Q args.length q]] w' fun e w''=>bT X wx w0 g qs a c (aM h c ⟨op,ia,ib,ic,ii,args⟩) e w'') :
  Calls Tryz.prog 40 #[.pointer (some ⟨a.q,0,none⟩)] w fun e w'=>rV X wx w0 g qs a c (aM h c ⟨op,ia,ib,ic,ii,args⟩) e w':=by
 have HH:=ab H
 obtain ⟨c10,fz,c8,hq,hcl,hlt,CP,kv,kg,eD,gF,xZ,CQ⟩:=Av H A
 have pE:=J6 h c ⟨op,ia,ib,ic,ii,args⟩ h1 h2 h3
 have oV:=J5 h c ⟨op,ia,ib,ic,ii,args⟩
 rw [A.pc] at pE oV
 have e1:(op==11)=false:=by simpa using h1
 have e2:(op==12)=false:=by simpa using h2
 have e3:(op==13)=false:=by simpa using h3
 have e4:(op==19)=false:=by simpa using h4
 have e5:(op==20)=false:=by simpa using h5
 have HW:=ab hw
 have Lc:=ab pE
 have mM:=ab oV
 have Xl:Hid (∀e w',bT X wx w0 g qs a c (aM h c ⟨op,ia,ib,ic,ii,args⟩) e w'->(aM h c ⟨op,ia,ib,ic,ii,args⟩).h.stops=true->rV X wx w0 g qs a c (aM h c ⟨op,ia,ib,ic,ii,args⟩) e w'):=fun e w' q hst=>⟨q.how,q.stop,fun z=>by rw [hst] at z;exact absurd z (by decide)⟩
 have Qx:Hid (∀w',RX 0 X wx w0 g w' (aM h c ⟨op,ia,ib,ic,ii,args⟩).h qs a { (aM h c ⟨op,ia,ib,ic,ii,args⟩).c with pc:=(n:Int)+1 }->(aM h c ⟨op,ia,ib,ic,ii,args⟩).h.stops=false->rV X wx w0 g qs a c (aM h c ⟨op,ia,ib,ic,ii,args⟩) (js (aM h c ⟨op,ia,ib,ic,ii,args⟩)) w'):=fun w' H hst=>⟨rfl,fun z=>by rw [hst] at z;exact absurd z (by decide),fun _=>pE▸H⟩
 generalize aM h c ⟨op,ia,ib,ic,ii,args⟩=d at *
 cases hst:d.h.stops with
 | true =>
  have vp:=ab hst
  rcases fQ d with hE|⟨ch,hE⟩
  ·exfalso
   unfold js at hE
   unfold Hp.stops at hst
   rw [Bool.or_eq_true] at hst
   by_cases br:d.h.over=true
   ·rw [if_pos br] at hE;cases hE
   ·rw [if_neg br,if_pos (by rcases hst with z|z;exact absurd z br;exact of_decide_eq_true z)] at hE;cases hE
  have HE:=ab hE
  clear H hs A hw pE oV hst hE h1 h2 h3 h4 h5
  go_enter Tryz.func40,Tryz.ntmps40
  go_wp2
  go_quiet (fail)
  go_wp2
  refine wp_region_held_drew (S:=fun w'=>w'.cell? ⟨a.q,8,none⟩=some (.slice (some ⟨cb,co,none⟩) c.m.code.length a.c)/\w'.cell? ⟨a.q,10,none⟩=some (int i64 (n:Int))/\w'.cell? ⟨cb,co+n*6,none⟩=some (int i64 op)/\w'.cell? ⟨cb,co+n*6+1,none⟩=some (int i64 ia)/\w'.cell? ⟨cb,co+n*6+2,none⟩=some (int i64 ib)/\w'.cell? ⟨cb,co+n*6+3,none⟩=some (int i64 ic)/\w'.cell? ⟨cb,co+n*6+4,none⟩=some (int i64 ii)/\w'.cell? ⟨cb,co+n*6+5,none⟩=some (.slice Q args.length q)) (by kernel_rfl) ?_ (fun ae=>?_)
  ·exact gF.out _ (aR (Bl.refl w) _).drew
  iterate 11 (refine tn rfl (by kernel_rfl) (fun _ _ _ h=>h) (by intro _ h;go_split_ands;go_simp<;>with_reducible rfl) ae ?_;try simp only [aS,aN,aT,a0,a1])
  refine bI (i:=11) (by kernel_rfl) rfl fun K hK=>?_
  go_wp2_with fail
  refine hK.out _ _ (gF.out _ ((aR (Bl.refl w) _).alloc _)) (fun ah=>?_)
  try simp only [aS,aN,aT,a0,a1]
  refine bI (i:=12) (by kernel_rfl) rfl fun K hK=>?_
  obtain ⟨B,dQ⟩:∃B,B=w.heap.size:=⟨_,rfl⟩
  obtain ⟨iQ,v0,v1,v2,v3,v4,v5,jA,qB,hB⟩:=mS w (nq+1) B dQ
  simp only [<-dQ]
  clear ah dQ
  generalize (w.drewN (nq+1)).alloc (.cells #[int i64 0,int i64 0,int i64 0,int i64 0,int i64 0,.slice none 0 0] 55)=V at *
  go_wp2_with fail
  obtain ⟨gG,ZZ,q6⟩:=mT iQ hB v0 v1 v2 v3 v4 v5 jA qB (int i64 op) (int i64 ia) (int i64 ib) (int i64 ic) (int i64 ii) (.slice Q args.length q)
  generalize (((((V.setCell ⟨B,0,none⟩ (int i64 op)).setCell ⟨B,1,none⟩ (int i64 ia)).setCell ⟨B,2,none⟩ (int i64 ib)).setCell ⟨B,3,none⟩ (int i64 ic)).setCell ⟨B,4,none⟩ (int i64 ii)).setCell ⟨B,5,none⟩ (.slice Q args.length q)=V6 at *
  refine hK.out _ _ (gF.out _ gG.out) (fun aX=>?_)
  clear v0 v1 v2 v3 v4 v5 jA iQ qB V
  obtain ⟨z0,z1,z2,z3,z4,z5,xu⟩:=ZZ.out
  try simp only [aS,aN,aT,a0,a1]
  refine wpAnyH_done (by kernel_rfl) ?_ _
  go_wp2_with (go_at_call 94;refine (HW.out _ (by first|exact gG.out|exact aR gG.out _|exact gG.out.drew)).mono ?_;rintro e w1 q;have he:=q.how;rw [HE.out] at he;subst he;replace q:=ab q)
  exact ⟨rfl,Xl.out _ _ q.out vp.out⟩
 | false =>
  have vp:=ab hst
  have hE:js d=.returned (.tuple #[]):=by
   unfold js
   rw [if_neg (by rw [ba hst];decide),if_neg (tO hst)]
  have HE:=ab hE
  rw [hE] at Qx
  clear H hs A hw pE oV hst hE h1 h2 h3 h4 h5
  go_enter Tryz.func40,Tryz.ntmps40
  go_wp2
  go_quiet (fail)
  go_wp2
  refine wp_region_held_drew (S:=fun w'=>w'.cell? ⟨a.q,8,none⟩=some (.slice (some ⟨cb,co,none⟩) c.m.code.length a.c)/\w'.cell? ⟨a.q,10,none⟩=some (int i64 (n:Int))/\w'.cell? ⟨cb,co+n*6,none⟩=some (int i64 op)/\w'.cell? ⟨cb,co+n*6+1,none⟩=some (int i64 ia)/\w'.cell? ⟨cb,co+n*6+2,none⟩=some (int i64 ib)/\w'.cell? ⟨cb,co+n*6+3,none⟩=some (int i64 ic)/\w'.cell? ⟨cb,co+n*6+4,none⟩=some (int i64 ii)/\w'.cell? ⟨cb,co+n*6+5,none⟩=some (.slice Q args.length q)) (by kernel_rfl) ?_ (fun ae=>?_)
  ·exact gF.out _ (aR (Bl.refl w) _).drew
  iterate 11 (refine tn rfl (by kernel_rfl) (fun _ _ _ h=>h) (by intro _ h;go_split_ands;go_simp<;>with_reducible rfl) ae ?_;try simp only [aS,aN,aT,a0,a1])
  refine bI (i:=11) (by kernel_rfl) rfl fun K hK=>?_
  go_wp2_with fail
  refine hK.out _ _ (gF.out _ ((aR (Bl.refl w) _).alloc _)) (fun ah=>?_)
  try simp only [aS,aN,aT,a0,a1]
  refine bI (i:=12) (by kernel_rfl) rfl fun K hK=>?_
  obtain ⟨B,dQ⟩:∃B,B=w.heap.size:=⟨_,rfl⟩
  obtain ⟨iQ,v0,v1,v2,v3,v4,v5,jA,qB,hB⟩:=mS w (nq+1) B dQ
  simp only [<-dQ]
  clear ah dQ
  generalize (w.drewN (nq+1)).alloc (.cells #[int i64 0,int i64 0,int i64 0,int i64 0,int i64 0,.slice none 0 0] 55)=V at *
  go_wp2_with fail
  obtain ⟨gG,ZZ,q6⟩:=mT iQ hB v0 v1 v2 v3 v4 v5 jA qB (int i64 op) (int i64 ia) (int i64 ib) (int i64 ic) (int i64 ii) (.slice Q args.length q)
  generalize (((((V.setCell ⟨B,0,none⟩ (int i64 op)).setCell ⟨B,1,none⟩ (int i64 ia)).setCell ⟨B,2,none⟩ (int i64 ib)).setCell ⟨B,3,none⟩ (int i64 ic)).setCell ⟨B,4,none⟩ (int i64 ii)).setCell ⟨B,5,none⟩ (.slice Q args.length q)=V6 at *
  refine hK.out _ _ (gF.out _ gG.out) (fun aX=>?_)
  clear v0 v1 v2 v3 v4 v5 jA iQ qB V
  obtain ⟨z0,z1,z2,z3,z4,z5,xu⟩:=ZZ.out
  try simp only [aS,aN,aT,a0,a1]
  refine wpAnyH_done (by kernel_rfl) ?_ _
  go_wp2_with (go_at_call 94;refine (HW.out _ (by first|exact gG.out|exact aR gG.out _|exact gG.out.drew)).mono ?_;rintro e w1 q;have he:=q.how;rw [HE.out] at he;subst he;have H5:=q.go vp.out;obtain ⟨Gk,kz,-⟩:=H5.c10;rw [mM.out] at Gk;replace H5:=ab H5;clear q)
  go_end0
  exact Qx.out _ (H5.out.setpc _) vp.out
section
open Go.Maps (Keyed has)
section
variable (s:Nat) (X:Nat->Prop) (wx w0:World) (g:Mg) (h:Hp) (qs:List Nat) (a:Mc) (c:aH) (w:World)
theorem ra (H:RX s X wx w0 g w h qs a c) (to:Int) :
  Calls Tryz.prog 87 #[.pointer (some ⟨a.q,0,none⟩),int i64 to,.bool true] w fun e w'=>e=.returned (.tuple #[])/\RX s X wx w0 g w' h qs a { c with pc:=to }:=by
 have HS:=ab (H.setpc (to))
 obtain ⟨c10,fz,-⟩:=H.c10
 clear H
 go_enter Tryz.func87,Tryz.ntmps87
 go_wp2
 exact bodyPost_ret (results_none rfl _ _ _) rfl ⟨rfl,HS.out⟩
theorem sR (H:RX s X wx w0 g w h qs a c) (to:Int) (hp:0<=c.pc/\c.pc<9223372036854775807) :
  Calls Tryz.prog 87 #[.pointer (some ⟨a.q,0,none⟩),int i64 to,.bool false] w fun e w'=>e=.returned (.tuple #[])/\RX s X wx w0 g w' h qs a { c with pc:=c.pc+1 }:=by
 have HS:=ab (H.setpc (c.pc+1))
 obtain ⟨c10,fz,-⟩:=H.c10
 clear H
 go_enter Tryz.func87,Tryz.ntmps87
 go_wp2
 go_end0
 exact ⟨rfl,HS.out⟩
end
theorem Kb (X:Nat->Prop) (wx w0:World) (g:Mg) (h:Hp) (qs:List Nat) (a:Mc) (c:aH) (w:World) (H:RX 1 X wx w0 g w h qs a c) (hs:h.stops=false) (op ia ib ic ii:Int) (args:List Int) (cb co:Nat) (Q:Option Addr) (q n:Nat) (A:rU w a c ⟨op,ia,ib,ic,ii,args⟩ cb co Q q n) (hop:op=11) :
  Calls Tryz.prog 40 #[.pointer (some ⟨a.q,0,none⟩)] w fun e w'=>rV X wx w0 g qs a c (aM h c ⟨op,ia,ib,ic,ii,args⟩) e w':=by
 have hd:aM h c ⟨op,ia,ib,ic,ii,args⟩=⟨h,c,ia⟩:=by unfold aM;rw [if_pos hop]
 rw [hd]
 have Qx:Hid (∀w',Bl w w'->rV X wx w0 g qs a c ⟨h,c,ia⟩ (.returned (.tuple #[])) (w'.setCell ⟨a.q,10,none⟩ (int i64 ia))):=fun w' hb=>⟨by unfold js;rw [if_neg (by rw [ba hs];decide),if_neg (tO hs)],fun z=>by rw [hs] at z;exact absurd z (by decide),fun _=>((H.bl hb).setpc ia).less⟩
 have HH:=ab H
 have Dn:=ab hop
 obtain ⟨c10,fz,c8,hq,hcl,hlt,CP,kv,kg,eD,gF,xZ,CQ⟩:=Av H A
 have e1:(op==11)=true:=by simp [hop]
 clear H hs A hop 
 go_enter Tryz.func40,Tryz.ntmps40
 go_wp2
 go_quiet (fail)
 go_wp2
 refine wp_region_held_drew (S:=fun w'=>w'.cell? ⟨a.q,8,none⟩=some (.slice (some ⟨cb,co,none⟩) c.m.code.length a.c)/\w'.cell? ⟨a.q,10,none⟩=some (int i64 (n:Int))/\w'.cell? ⟨cb,co+n*6,none⟩=some (int i64 op)/\w'.cell? ⟨cb,co+n*6+1,none⟩=some (int i64 ia)/\w'.cell? ⟨cb,co+n*6+2,none⟩=some (int i64 ib)/\w'.cell? ⟨cb,co+n*6+3,none⟩=some (int i64 ic)/\w'.cell? ⟨cb,co+n*6+4,none⟩=some (int i64 ii)/\w'.cell? ⟨cb,co+n*6+5,none⟩=some (.slice Q args.length q)) (by kernel_rfl) ?_ (fun ae=>?_)
 ·exact gF.out _ (aR (Bl.refl w) _).drew
 iterate 11 (refine tn rfl (by kernel_rfl) (fun _ _ _ h=>h) (by intro _ h;go_split_ands;go_simp<;>with_reducible rfl) ae ?_;try simp only [aS,aN,aT,a0,a1])
 refine bI (i:=11) (by kernel_rfl) rfl fun K hK=>?_
 go_wp2_with fail
 refine hK.out _ _ (gF.out _ ((aR (Bl.refl w) _).alloc _)) (fun ah=>?_)
 try simp only [aS,aN,aT,a0,a1]
 refine bI (i:=12) (by kernel_rfl) rfl fun K hK=>?_
 obtain ⟨B,dQ⟩:∃B,B=w.heap.size:=⟨_,rfl⟩
 obtain ⟨iQ,v0,v1,v2,v3,v4,v5,jA,qB,hB⟩:=mS w (nq+1) B dQ
 simp only [<-dQ]
 clear ah dQ
 generalize (w.drewN (nq+1)).alloc (.cells #[int i64 0,int i64 0,int i64 0,int i64 0,int i64 0,.slice none 0 0] 55)=V at *
 go_wp2_with fail
 obtain ⟨gG,ZZ,q6⟩:=mT iQ hB v0 v1 v2 v3 v4 v5 jA qB (int i64 op) (int i64 ia) (int i64 ib) (int i64 ic) (int i64 ii) (.slice Q args.length q)
 generalize (((((V.setCell ⟨B,0,none⟩ (int i64 op)).setCell ⟨B,1,none⟩ (int i64 ia)).setCell ⟨B,2,none⟩ (int i64 ib)).setCell ⟨B,3,none⟩ (int i64 ic)).setCell ⟨B,4,none⟩ (int i64 ii)).setCell ⟨B,5,none⟩ (.slice Q args.length q)=V6 at *
 refine hK.out _ _ (gF.out _ gG.out) (fun aX=>?_)
 clear v0 v1 v2 v3 v4 v5 jA iQ qB V
 obtain ⟨z0,z1,z2,z3,z4,z5,xu⟩:=ZZ.out
 try simp only [aS,aN,aT,a0,a1]
 refine wpAnyH_done (by kernel_rfl) ?_ _
 obtain ⟨Gk,kz,-⟩:=(HH.out.bl gG.out).c10
 go_wp2
 go_end0
 exact Qx.out _ gG.out
end
section
open Go.Maps (Keyed has)
theorem xw (c a:Int) (w:World) :
  Calls Tryz.prog 88 #[int i64 c,int i64 a] w fun e w'=>e=.returned (.bool (jB c a))/\Bl w w':=by
 have KT:∀(fn:Fn) (first cap:Array Value) (w:World),(Instr.makeFunc fn first cap).run Tryz.prog w=.ok (.func fn first cap) w:=fun _ _ _ _=>rfl
 go_enter Tryz.func88,Tryz.ntmps88
 go_wp2_with (first|(go_at_call 142;go_in)|(go_at_call 190;refine (Ii c _ _ _ (by go_simp)).mono ?_;rintro e w' ⟨rfl,rfl⟩))
 go_ret
 exact ⟨rfl,by repeat (first|exact Bl.refl _|apply Bl.drew|apply Bl.alloc|exact aR (Bl.refl _) _)⟩
section
variable {X:Nat->Prop} {wx w0:World} {g:Mg} {qs:List Nat} {a:Mc} {c:aH} {h:Hp}
theorem Gl {d:jE} {w':World} (hs:h.stops=false) (e:d.h=h.fin 6) (H:RS 1 X wx w0 g w' h qs a c):rV X wx w0 g qs a c d (aV 6 0 0) w':=by
 have q:bT X wx w0 g qs a c d (aV 6 0 0) w':=cY (s:=0) (ba hs) e H.less
 exact ⟨q.how,q.stop,fun z=>by rw [e,aY hs] at z;exact absurd z (by decide)⟩
theorem Aw {d:jE} {w':World} (hs:h.stops=false) (e:d.h=h) (H:RX 1 X wx w0 g w' h qs a { d.c with pc:=d.nx }):rV X wx w0 g qs a c d (.returned (.tuple #[])) w':=by
 subst e
 exact ⟨by unfold js;rw [if_neg (by rw [ba hs];decide),if_neg (tO hs)],fun z=>by rw [hs] at z;exact absurd z (by decide),fun _=>H.less⟩
end
section
variable (X:Nat->Prop) (wx w0:World) (g:Mg) (h:Hp) (qs:List Nat) (a:Mc) (c:aH) (w:World)
theorem xy (H:RX 1 X wx w0 g w h qs a c) (hs:h.stops=false) (op ia ib ic ii:Int) (args:List Int) (cb co:Nat) (Q:Option Addr) (q n:Nat) (A:rU w a c ⟨op,ia,ib,ic,ii,args⟩ cb co Q q n) (hop:op=12) (d:jE) (hd:d.h=h.fin 6) (ht:c.stk=[]∨∃l v,c.stk=l++[v]/\v.kind≠1) :
  Calls Tryz.prog 40 #[.pointer (some ⟨a.q,0,none⟩)] w fun e w'=>rV X wx w0 g qs a c d e w':=by
 have HT:=ab ht
 have Gm:Hid (∀w',RS 1 X wx w0 g w' h qs a c->rV X wx w0 g qs a c d (aV 6 0 0) w'):=fun w' H=>Gl hs hd H
 have HH:=ab H
 have Dn:=ab hop
 obtain ⟨c10,fz,c8,hq,hcl,hlt,CP,kv,kg,eD,gF,xZ,CQ⟩:=Av H A
 have e1:(op==11)=false:=by simp [hop]
 have e2:(op==12)=true:=by simp [hop]
 clear H hs A hop ht hd
 go_enter Tryz.func40,Tryz.ntmps40
 go_wp2
 go_quiet (fail)
 go_wp2
 refine wp_region_held_drew (S:=fun w'=>w'.cell? ⟨a.q,8,none⟩=some (.slice (some ⟨cb,co,none⟩) c.m.code.length a.c)/\w'.cell? ⟨a.q,10,none⟩=some (int i64 (n:Int))/\w'.cell? ⟨cb,co+n*6,none⟩=some (int i64 op)/\w'.cell? ⟨cb,co+n*6+1,none⟩=some (int i64 ia)/\w'.cell? ⟨cb,co+n*6+2,none⟩=some (int i64 ib)/\w'.cell? ⟨cb,co+n*6+3,none⟩=some (int i64 ic)/\w'.cell? ⟨cb,co+n*6+4,none⟩=some (int i64 ii)/\w'.cell? ⟨cb,co+n*6+5,none⟩=some (.slice Q args.length q)) (by kernel_rfl) ?_ (fun ae=>?_)
 ·exact gF.out _ (aR (Bl.refl w) _).drew
 iterate 11 (refine tn rfl (by kernel_rfl) (fun _ _ _ h=>h) (by intro _ h;go_split_ands;go_simp<;>with_reducible rfl) ae ?_;try simp only [aS,aN,aT,a0,a1])
 refine bI (i:=11) (by kernel_rfl) rfl fun K hK=>?_
 go_wp2_with fail
 refine hK.out _ _ (gF.out _ ((aR (Bl.refl w) _).alloc _)) (fun ah=>?_)
 try simp only [aS,aN,aT,a0,a1]
 refine bI (i:=12) (by kernel_rfl) rfl fun K hK=>?_
 obtain ⟨B,dQ⟩:∃B,B=w.heap.size:=⟨_,rfl⟩
 obtain ⟨iQ,v0,v1,v2,v3,v4,v5,jA,qB,hB⟩:=mS w (nq+1) B dQ
 simp only [<-dQ]
 clear ah dQ
 generalize (w.drewN (nq+1)).alloc (.cells #[int i64 0,int i64 0,int i64 0,int i64 0,int i64 0,.slice none 0 0] 55)=V at *
 go_wp2_with fail
 obtain ⟨gG,ZZ,q6⟩:=mT iQ hB v0 v1 v2 v3 v4 v5 jA qB (int i64 op) (int i64 ia) (int i64 ib) (int i64 ic) (int i64 ii) (.slice Q args.length q)
 generalize (((((V.setCell ⟨B,0,none⟩ (int i64 op)).setCell ⟨B,1,none⟩ (int i64 ia)).setCell ⟨B,2,none⟩ (int i64 ib)).setCell ⟨B,3,none⟩ (int i64 ic)).setCell ⟨B,4,none⟩ (int i64 ii)).setCell ⟨B,5,none⟩ (.slice Q args.length q)=V6 at *
 refine hK.out _ _ (gF.out _ gG.out) (fun aX=>?_)
 clear v0 v1 v2 v3 v4 v5 jA iQ qB V
 obtain ⟨z0,z1,z2,z3,z4,z5,xu⟩:=ZZ.out
 try simp only [aS,aN,aT,a0,a1]
 refine wpAnyH_done (by kernel_rfl) ?_ _
 go_wp2
 refine wp_region_held_drew (S:=fun w'=>w'.cell? ⟨B,1,none⟩=some (int i64 ia)/\w'.cell? ⟨B,2,none⟩=some (int i64 ib)) (by kernel_rfl) ?_ (fun ae=>?_)
 ·exact ⟨z1,z2⟩
 iterate 6 (refine tn rfl (by kernel_rfl) (fun _ _ _ h=>h) (by intro _ h;go_split_ands;go_simp<;>with_reducible rfl) ae ?_;try simp only [aS,aN,aT,a0,a1])
 refine bI (i:=6) (by kernel_rfl) rfl fun K hK=>?_
 go_simp
 go_at_call 89
 refine (HH.out.y.useN gG.out.drew (fun X wx w H=>dk 1 X wx w0 g h qs a c 1 w H HT.out)).mono ?_
 rintro e w1 ⟨rfl,H1⟩
 exact ⟨rfl,Gm.out _ H1⟩
theorem Gn (H:RX 1 X wx w0 g w h qs a c) (hs:h.stops=false) (op ia ib ic ii:Int) (args:List Int) (cb co:Nat) (Q:Option Addr) (q n:Nat) (A:rU w a c ⟨op,ia,ib,ic,ii,args⟩ cb co Q q n) (hop:op=12) (d:jE) (l:List Va) (v:Va) (h0:c.stk=l++[v]) (hv:v.kind=1) (hb:jB ib v.n=true) (hd:d.h=h) (hc:{ d.c with pc:=d.nx }={ { c with stk:=l } with pc:=ia }) :
  Calls Tryz.prog 40 #[.pointer (some ⟨a.q,0,none⟩)] w fun e w'=>rV X wx w0 g qs a c d e w':=by
 have H0:=ab h0
 have HV:=ab hv
 have o5:=ab hb
 have HM:Hid (im v=v):=eJ (by rw [hv];decide)
 have SG:=fun w=>nU v.kind v.n w
 have mM:Hid (0<=c.pc/\c.pc<9223372036854775807):=by have h1:=A.pc;have h2:=A.lt;have h3:=A.len;unfold maxLen at h3;exact ⟨by omega,by omega⟩
 have Gm:Hid (∀w',RX 1 X wx w0 g w' h qs a { { c with stk:=l } with pc:=ia }->rV X wx w0 g qs a c d (.returned (.tuple #[])) w'):=fun w' H=>Aw hs hd (hc▸H)
 have HH:=ab H
 have Dn:=ab hop
 obtain ⟨c10,fz,c8,hq,hcl,hlt,CP,kv,kg,eD,gF,xZ,CQ⟩:=Av H A
 have e1:(op==11)=false:=by simp [hop]
 have e2:(op==12)=true:=by simp [hop]
 clear H hs A hop h0 hv hb hd hc
 go_enter Tryz.func40,Tryz.ntmps40
 go_wp2
 go_quiet (fail)
 go_wp2
 refine wp_region_held_drew (S:=fun w'=>w'.cell? ⟨a.q,8,none⟩=some (.slice (some ⟨cb,co,none⟩) c.m.code.length a.c)/\w'.cell? ⟨a.q,10,none⟩=some (int i64 (n:Int))/\w'.cell? ⟨cb,co+n*6,none⟩=some (int i64 op)/\w'.cell? ⟨cb,co+n*6+1,none⟩=some (int i64 ia)/\w'.cell? ⟨cb,co+n*6+2,none⟩=some (int i64 ib)/\w'.cell? ⟨cb,co+n*6+3,none⟩=some (int i64 ic)/\w'.cell? ⟨cb,co+n*6+4,none⟩=some (int i64 ii)/\w'.cell? ⟨cb,co+n*6+5,none⟩=some (.slice Q args.length q)) (by kernel_rfl) ?_ (fun ae=>?_)
 ·exact gF.out _ (aR (Bl.refl w) _).drew
 iterate 11 (refine tn rfl (by kernel_rfl) (fun _ _ _ h=>h) (by intro _ h;go_split_ands;go_simp<;>with_reducible rfl) ae ?_;try simp only [aS,aN,aT,a0,a1])
 refine bI (i:=11) (by kernel_rfl) rfl fun K hK=>?_
 go_wp2_with fail
 refine hK.out _ _ (gF.out _ ((aR (Bl.refl w) _).alloc _)) (fun ah=>?_)
 try simp only [aS,aN,aT,a0,a1]
 refine bI (i:=12) (by kernel_rfl) rfl fun K hK=>?_
 obtain ⟨B,dQ⟩:∃B,B=w.heap.size:=⟨_,rfl⟩
 obtain ⟨iQ,v0,v1,v2,v3,v4,v5,jA,qB,hB⟩:=mS w (nq+1) B dQ
 simp only [<-dQ]
 clear ah dQ
 generalize (w.drewN (nq+1)).alloc (.cells #[int i64 0,int i64 0,int i64 0,int i64 0,int i64 0,.slice none 0 0] 55)=V at *
 go_wp2_with fail
 obtain ⟨gG,ZZ,q6⟩:=mT iQ hB v0 v1 v2 v3 v4 v5 jA qB (int i64 op) (int i64 ia) (int i64 ib) (int i64 ic) (int i64 ii) (.slice Q args.length q)
 generalize (((((V.setCell ⟨B,0,none⟩ (int i64 op)).setCell ⟨B,1,none⟩ (int i64 ia)).setCell ⟨B,2,none⟩ (int i64 ib)).setCell ⟨B,3,none⟩ (int i64 ic)).setCell ⟨B,4,none⟩ (int i64 ii)).setCell ⟨B,5,none⟩ (.slice Q args.length q)=V6 at *
 refine hK.out _ _ (gF.out _ gG.out) (fun aX=>?_)
 clear v0 v1 v2 v3 v4 v5 jA iQ qB V
 obtain ⟨z0,z1,z2,z3,z4,z5,xu⟩:=ZZ.out
 try simp only [aS,aN,aT,a0,a1]
 refine wpAnyH_done (by kernel_rfl) ?_ _
 go_wp2
 refine wp_region_held_drew (S:=fun w'=>w'.cell? ⟨B,1,none⟩=some (int i64 ia)/\w'.cell? ⟨B,2,none⟩=some (int i64 ib)) (by kernel_rfl) ?_ (fun ae=>?_)
 ·exact ⟨z1,z2⟩
 iterate 6 (refine tn rfl (by kernel_rfl) (fun _ _ _ h=>h) (by intro _ h;go_split_ands;go_simp<;>with_reducible rfl) ae ?_;try simp only [aS,aN,aT,a0,a1])
 refine bI (i:=6) (by kernel_rfl) rfl fun K hK=>?_
 go_simp
 go_at_call 89
 refine (HH.out.y.useY gG.out.drew (fun X wx w H=>cz 1 X wx w0 g h qs a c l v 1 w H H0.out HV.out)).mono ?_
 rintro e w1 ⟨he,H1,K1⟩
 rw [HM.out] at he
 subst he
 have kN:=K1.at (Xp.new hB.out (af q6.out)) q6.out
 have d1:=ab (aF kN).1
 have d2:=ab (aF kN).2
 replace H1:=ab H1
 replace kN:=ab kN
 clear K1
 go_wp2_with fail
 refine hK.out _ _ (⟨d1.out,d2.out⟩) (fun ah=>?_)
 try simp only [aS,aN,aT,a0,a1]
 refine tn rfl (by kernel_rfl) (fun _ _ _ h=>h) (by intro _ h;go_split_ands;go_simp<;>with_reducible rfl) ah ?_
 try simp only [aS,aN,aT,a0,a1]
 refine bI (i:=8) (by kernel_rfl) rfl fun K hK=>?_
 go_simp
 go_at_call 88
 refine (xw ib v.n _).mono ?_
 rintro e w2 ⟨he,b2⟩
 rw [o5.out] at he
 subst he
 have m8:=ai b2 kN.out
 have f1:=ab (aF m8).1
 have f2:=ab (aF m8).2
 replace b2:=ab b2
 replace m8:=ab m8
 go_wp2_with fail
 refine hK.out _ _ (⟨f1.out,f2.out⟩) (fun aX=>?_)
 try simp only [aS,aN,aT,a0,a1]
 refine bI (i:=9) (by kernel_rfl) rfl fun K hK=>?_
 go_simp
 go_at_call 87
 refine ((H1.out.bl b2.out).useY (Bl.refl _) (fun X wx w H=>ra 1 X wx w0 g h qs a { c with stk:=l } w H ia)).mono ?_
 rintro e w3 ⟨rfl,H3,K3⟩
 have tQ:=K3.at (Xp.old (Xp.old (Xp.new hB.out (af q6.out)))) m8.out
 have j1:=ab (aF tQ).1
 have j2:=ab (aF tQ).2
 replace H3:=ab H3
 replace tQ:=ab tQ
 clear K3
 go_wp2_with fail
 refine hK.out _ _ (⟨j1.out,j2.out⟩) (fun dh=>?_)
 try simp only [aS,aN,aT,a0,a1]
 refine wpAnyH_done (by kernel_rfl) ?_ _
 go_wp2
 go_end0
 exact Gm.out _ H3.out.x
theorem Gp (H:RX 1 X wx w0 g w h qs a c) (hs:h.stops=false) (op ia ib ic ii:Int) (args:List Int) (cb co:Nat) (Q:Option Addr) (q n:Nat) (A:rU w a c ⟨op,ia,ib,ic,ii,args⟩ cb co Q q n) (hop:op=12) (d:jE) (l:List Va) (v:Va) (h0:c.stk=l++[v]) (hv:v.kind=1) (hb:jB ib v.n=false) (hd:d.h=h) (hc:{ d.c with pc:=d.nx }={ { c with stk:=l } with pc:=c.pc+1 }) :
  Calls Tryz.prog 40 #[.pointer (some ⟨a.q,0,none⟩)] w fun e w'=>rV X wx w0 g qs a c d e w':=by
 have H0:=ab h0
 have HV:=ab hv
 have o5:=ab hb
 have HM:Hid (im v=v):=eJ (by rw [hv];decide)
 have SG:=fun w=>nU v.kind v.n w
 have mM:Hid (0<=c.pc/\c.pc<9223372036854775807):=by have h1:=A.pc;have h2:=A.lt;have h3:=A.len;unfold maxLen at h3;exact ⟨by omega,by omega⟩
 have Gm:Hid (∀w',RX 1 X wx w0 g w' h qs a { { c with stk:=l } with pc:=c.pc+1 }->rV X wx w0 g qs a c d (.returned (.tuple #[])) w'):=fun w' H=>Aw hs hd (hc▸H)
 have HH:=ab H
 have Dn:=ab hop
 obtain ⟨c10,fz,c8,hq,hcl,hlt,CP,kv,kg,eD,gF,xZ,CQ⟩:=Av H A
 have e1:(op==11)=false:=by simp [hop]
 have e2:(op==12)=true:=by simp [hop]
 clear H hs A hop h0 hv hb hd hc
 go_enter Tryz.func40,Tryz.ntmps40
 go_wp2
 go_quiet (fail)
 go_wp2
 refine wp_region_held_drew (S:=fun w'=>w'.cell? ⟨a.q,8,none⟩=some (.slice (some ⟨cb,co,none⟩) c.m.code.length a.c)/\w'.cell? ⟨a.q,10,none⟩=some (int i64 (n:Int))/\w'.cell? ⟨cb,co+n*6,none⟩=some (int i64 op)/\w'.cell? ⟨cb,co+n*6+1,none⟩=some (int i64 ia)/\w'.cell? ⟨cb,co+n*6+2,none⟩=some (int i64 ib)/\w'.cell? ⟨cb,co+n*6+3,none⟩=some (int i64 ic)/\w'.cell? ⟨cb,co+n*6+4,none⟩=some (int i64 ii)/\w'.cell? ⟨cb,co+n*6+5,none⟩=some (.slice Q args.length q)) (by kernel_rfl) ?_ (fun ae=>?_)
 ·exact gF.out _ (aR (Bl.refl w) _).drew
 iterate 11 (refine tn rfl (by kernel_rfl) (fun _ _ _ h=>h) (by intro _ h;go_split_ands;go_simp<;>with_reducible rfl) ae ?_;try simp only [aS,aN,aT,a0,a1])
 refine bI (i:=11) (by kernel_rfl) rfl fun K hK=>?_
 go_wp2_with fail
 refine hK.out _ _ (gF.out _ ((aR (Bl.refl w) _).alloc _)) (fun ah=>?_)
 try simp only [aS,aN,aT,a0,a1]
 refine bI (i:=12) (by kernel_rfl) rfl fun K hK=>?_
 obtain ⟨B,dQ⟩:∃B,B=w.heap.size:=⟨_,rfl⟩
 obtain ⟨iQ,v0,v1,v2,v3,v4,v5,jA,qB,hB⟩:=mS w (nq+1) B dQ
 simp only [<-dQ]
 clear ah dQ
 generalize (w.drewN (nq+1)).alloc (.cells #[int i64 0,int i64 0,int i64 0,int i64 0,int i64 0,.slice none 0 0] 55)=V at *
 go_wp2_with fail
 obtain ⟨gG,ZZ,q6⟩:=mT iQ hB v0 v1 v2 v3 v4 v5 jA qB (int i64 op) (int i64 ia) (int i64 ib) (int i64 ic) (int i64 ii) (.slice Q args.length q)
 generalize (((((V.setCell ⟨B,0,none⟩ (int i64 op)).setCell ⟨B,1,none⟩ (int i64 ia)).setCell ⟨B,2,none⟩ (int i64 ib)).setCell ⟨B,3,none⟩ (int i64 ic)).setCell ⟨B,4,none⟩ (int i64 ii)).setCell ⟨B,5,none⟩ (.slice Q args.length q)=V6 at *
 refine hK.out _ _ (gF.out _ gG.out) (fun aX=>?_)
 clear v0 v1 v2 v3 v4 v5 jA iQ qB V
 obtain ⟨z0,z1,z2,z3,z4,z5,xu⟩:=ZZ.out
 try simp only [aS,aN,aT,a0,a1]
 refine wpAnyH_done (by kernel_rfl) ?_ _
 go_wp2
 refine wp_region_held_drew (S:=fun w'=>w'.cell? ⟨B,1,none⟩=some (int i64 ia)/\w'.cell? ⟨B,2,none⟩=some (int i64 ib)) (by kernel_rfl) ?_ (fun ae=>?_)
 ·exact ⟨z1,z2⟩
 iterate 6 (refine tn rfl (by kernel_rfl) (fun _ _ _ h=>h) (by intro _ h;go_split_ands;go_simp<;>with_reducible rfl) ae ?_;try simp only [aS,aN,aT,a0,a1])
 refine bI (i:=6) (by kernel_rfl) rfl fun K hK=>?_
 go_simp
 go_at_call 89
 refine (HH.out.y.useY gG.out.drew (fun X wx w H=>cz 1 X wx w0 g h qs a c l v 1 w H H0.out HV.out)).mono ?_
 rintro e w1 ⟨he,H1,K1⟩
 rw [HM.out] at he
 subst he
 have kN:=K1.at (Xp.new hB.out (af q6.out)) q6.out
 have d1:=ab (aF kN).1
 have d2:=ab (aF kN).2
 replace H1:=ab H1
 replace kN:=ab kN
 clear K1
 go_wp2_with fail
 refine hK.out _ _ (⟨d1.out,d2.out⟩) (fun ah=>?_)
 try simp only [aS,aN,aT,a0,a1]
 refine tn rfl (by kernel_rfl) (fun _ _ _ h=>h) (by intro _ h;go_split_ands;go_simp<;>with_reducible rfl) ah ?_
 try simp only [aS,aN,aT,a0,a1]
 refine bI (i:=8) (by kernel_rfl) rfl fun K hK=>?_
 go_simp
 go_at_call 88
 refine (xw ib v.n _).mono ?_
 rintro e w2 ⟨he,b2⟩
 rw [o5.out] at he
 subst he
 have m8:=ai b2 kN.out
 have f1:=ab (aF m8).1
 have f2:=ab (aF m8).2
 replace b2:=ab b2
 replace m8:=ab m8
 go_wp2_with fail
 refine hK.out _ _ (⟨f1.out,f2.out⟩) (fun aX=>?_)
 try simp only [aS,aN,aT,a0,a1]
 refine bI (i:=9) (by kernel_rfl) rfl fun K hK=>?_
 go_simp
 go_at_call 87
 refine ((H1.out.bl b2.out).useY (Bl.refl _) (fun X wx w H=>sR 1 X wx w0 g h qs a { c with stk:=l } w H ia mM.out)).mono ?_
 rintro e w3 ⟨rfl,H3,K3⟩
 have tQ:=K3.at (Xp.old (Xp.old (Xp.new hB.out (af q6.out)))) m8.out
 have j1:=ab (aF tQ).1
 have j2:=ab (aF tQ).2
 replace H3:=ab H3
 replace tQ:=ab tQ
 clear K3
 go_wp2_with fail
 refine hK.out _ _ (⟨j1.out,j2.out⟩) (fun dh=>?_)
 try simp only [aS,aN,aT,a0,a1]
 refine wpAnyH_done (by kernel_rfl) ?_ _
 go_wp2
 go_end0
 exact Gm.out _ H3.out.x
end
end
section
open Go.Maps (Keyed has)
section
variable (X:Nat->Prop) (wx w0:World) (g:Mg) (h:Hp) (qs:List Nat) (a:Mc) (c:aH) (w:World)
theorem nV (H:RX 1 X wx w0 g w h qs a c) (hs:h.stops=false) (op ia ib ic ii:Int) (args:List Int) (cb co:Nat) (Q:Option Addr) (q n:Nat) (A:rU w a c ⟨op,ia,ib,ic,ii,args⟩ cb co Q q n) (hop:op=13) (d:jE) (hd:d.h=h.fin 6) (ht:c.stk=[]∨∃l v,c.stk=l++[v]/\v.kind≠3) :
  Calls Tryz.prog 40 #[.pointer (some ⟨a.q,0,none⟩)] w fun e w'=>rV X wx w0 g qs a c d e w':=by
 have HT:=ab ht
 have Gm:Hid (∀w',RS 1 X wx w0 g w' h qs a c->rV X wx w0 g qs a c d (aV 6 0 0) w'):=fun w' H=>Gl hs hd H
 have HH:=ab H
 have Dn:=ab hop
 obtain ⟨c10,fz,c8,hq,hcl,hlt,CP,kv,kg,eD,gF,xZ,CQ⟩:=Av H A
 have e1:(op==11)=false:=by simp [hop]
 have e2:(op==12)=false:=by simp [hop]
 have e3:(op==13)=true:=by simp [hop]
 clear H hs A hop ht hd
 go_enter Tryz.func40,Tryz.ntmps40
 go_wp2
 go_quiet (fail)
 go_wp2
 refine wp_region_held_drew (S:=fun w'=>w'.cell? ⟨a.q,8,none⟩=some (.slice (some ⟨cb,co,none⟩) c.m.code.length a.c)/\w'.cell? ⟨a.q,10,none⟩=some (int i64 (n:Int))/\w'.cell? ⟨cb,co+n*6,none⟩=some (int i64 op)/\w'.cell? ⟨cb,co+n*6+1,none⟩=some (int i64 ia)/\w'.cell? ⟨cb,co+n*6+2,none⟩=some (int i64 ib)/\w'.cell? ⟨cb,co+n*6+3,none⟩=some (int i64 ic)/\w'.cell? ⟨cb,co+n*6+4,none⟩=some (int i64 ii)/\w'.cell? ⟨cb,co+n*6+5,none⟩=some (.slice Q args.length q)) (by kernel_rfl) ?_ (fun ae=>?_)
 ·exact gF.out _ (aR (Bl.refl w) _).drew
 iterate 11 (refine tn rfl (by kernel_rfl) (fun _ _ _ h=>h) (by intro _ h;go_split_ands;go_simp<;>with_reducible rfl) ae ?_;try simp only [aS,aN,aT,a0,a1])
 refine bI (i:=11) (by kernel_rfl) rfl fun K hK=>?_
 go_wp2_with fail
 refine hK.out _ _ (gF.out _ ((aR (Bl.refl w) _).alloc _)) (fun ah=>?_)
 try simp only [aS,aN,aT,a0,a1]
 refine bI (i:=12) (by kernel_rfl) rfl fun K hK=>?_
 obtain ⟨B,dQ⟩:∃B,B=w.heap.size:=⟨_,rfl⟩
 obtain ⟨iQ,v0,v1,v2,v3,v4,v5,jA,qB,hB⟩:=mS w (nq+1) B dQ
 simp only [<-dQ]
 clear ah dQ
 generalize (w.drewN (nq+1)).alloc (.cells #[int i64 0,int i64 0,int i64 0,int i64 0,int i64 0,.slice none 0 0] 55)=V at *
 go_wp2_with fail
 obtain ⟨gG,ZZ,q6⟩:=mT iQ hB v0 v1 v2 v3 v4 v5 jA qB (int i64 op) (int i64 ia) (int i64 ib) (int i64 ic) (int i64 ii) (.slice Q args.length q)
 generalize (((((V.setCell ⟨B,0,none⟩ (int i64 op)).setCell ⟨B,1,none⟩ (int i64 ia)).setCell ⟨B,2,none⟩ (int i64 ib)).setCell ⟨B,3,none⟩ (int i64 ic)).setCell ⟨B,4,none⟩ (int i64 ii)).setCell ⟨B,5,none⟩ (.slice Q args.length q)=V6 at *
 refine hK.out _ _ (gF.out _ gG.out) (fun aX=>?_)
 clear v0 v1 v2 v3 v4 v5 jA iQ qB V
 obtain ⟨z0,z1,z2,z3,z4,z5,xu⟩:=ZZ.out
 try simp only [aS,aN,aT,a0,a1]
 refine wpAnyH_done (by kernel_rfl) ?_ _
 go_wp2
 refine wp_region_held_drew (S:=fun w'=>w'.cell? ⟨B,1,none⟩=some (int i64 ia)/\w'.cell? ⟨B,2,none⟩=some (int i64 ib)) (by kernel_rfl) ?_ (fun ae=>?_)
 ·exact ⟨z1,z2⟩
 iterate 4 (refine tn rfl (by kernel_rfl) (fun _ _ _ h=>h) (by intro _ h;go_split_ands;go_simp<;>with_reducible rfl) ae ?_;try simp only [aS,aN,aT,a0,a1])
 refine bI (i:=4) (by kernel_rfl) rfl fun K hK=>?_
 go_simp
 go_at_call 89
 refine (HH.out.y.useN gG.out.drew (fun X wx w H=>dk 1 X wx w0 g h qs a c 3 w H HT.out)).mono ?_
 rintro e w1 ⟨rfl,H1⟩
 exact ⟨rfl,Gm.out _ H1⟩
theorem tR (H:RX 1 X wx w0 g w h qs a c) (hs:h.stops=false) (op ia ib ic ii:Int) (args:List Int) (cb co:Nat) (Q:Option Addr) (q n:Nat) (A:rU w a c ⟨op,ia,ib,ic,ii,args⟩ cb co Q q n) (hop:op=13) (d:jE) (l:List Va) (v:Va) (h0:c.stk=l++[v]) (hv:v.kind=3) (hb:vB (im v)=true) (hd:d.h=h) (hc:{ d.c with pc:=d.nx }={ { c with stk:=l } with pc:=ia }) :
  Calls Tryz.prog 40 #[.pointer (some ⟨a.q,0,none⟩)] w fun e w'=>rV X wx w0 g qs a c d e w':=by
 have H0:=ab h0
 have HV:=ab hv
 have o5:=ab hb
 skip
 skip
 have mM:Hid (0<=c.pc/\c.pc<9223372036854775807):=by have h1:=A.pc;have h2:=A.lt;have h3:=A.len;unfold maxLen at h3;exact ⟨by omega,by omega⟩
 have Gm:Hid (∀w',RX 1 X wx w0 g w' h qs a { { c with stk:=l } with pc:=ia }->rV X wx w0 g qs a c d (.returned (.tuple #[])) w'):=fun w' H=>Aw hs hd (hc▸H)
 have HH:=ab H
 have Dn:=ab hop
 obtain ⟨c10,fz,c8,hq,hcl,hlt,CP,kv,kg,eD,gF,xZ,CQ⟩:=Av H A
 have e1:(op==11)=false:=by simp [hop]
 have e2:(op==12)=false:=by simp [hop]
 have e3:(op==13)=true:=by simp [hop]
 clear H hs A hop h0 hv hb hd hc
 go_enter Tryz.func40,Tryz.ntmps40
 go_wp2
 go_quiet (fail)
 go_wp2
 refine wp_region_held_drew (S:=fun w'=>w'.cell? ⟨a.q,8,none⟩=some (.slice (some ⟨cb,co,none⟩) c.m.code.length a.c)/\w'.cell? ⟨a.q,10,none⟩=some (int i64 (n:Int))/\w'.cell? ⟨cb,co+n*6,none⟩=some (int i64 op)/\w'.cell? ⟨cb,co+n*6+1,none⟩=some (int i64 ia)/\w'.cell? ⟨cb,co+n*6+2,none⟩=some (int i64 ib)/\w'.cell? ⟨cb,co+n*6+3,none⟩=some (int i64 ic)/\w'.cell? ⟨cb,co+n*6+4,none⟩=some (int i64 ii)/\w'.cell? ⟨cb,co+n*6+5,none⟩=some (.slice Q args.length q)) (by kernel_rfl) ?_ (fun ae=>?_)
 ·exact gF.out _ (aR (Bl.refl w) _).drew
 iterate 11 (refine tn rfl (by kernel_rfl) (fun _ _ _ h=>h) (by intro _ h;go_split_ands;go_simp<;>with_reducible rfl) ae ?_;try simp only [aS,aN,aT,a0,a1])
 refine bI (i:=11) (by kernel_rfl) rfl fun K hK=>?_
 go_wp2_with fail
 refine hK.out _ _ (gF.out _ ((aR (Bl.refl w) _).alloc _)) (fun ah=>?_)
 try simp only [aS,aN,aT,a0,a1]
 refine bI (i:=12) (by kernel_rfl) rfl fun K hK=>?_
 obtain ⟨B,dQ⟩:∃B,B=w.heap.size:=⟨_,rfl⟩
 obtain ⟨iQ,v0,v1,v2,v3,v4,v5,jA,qB,hB⟩:=mS w (nq+1) B dQ
 simp only [<-dQ]
 clear ah dQ
 generalize (w.drewN (nq+1)).alloc (.cells #[int i64 0,int i64 0,int i64 0,int i64 0,int i64 0,.slice none 0 0] 55)=V at *
 go_wp2_with fail
 obtain ⟨gG,ZZ,q6⟩:=mT iQ hB v0 v1 v2 v3 v4 v5 jA qB (int i64 op) (int i64 ia) (int i64 ib) (int i64 ic) (int i64 ii) (.slice Q args.length q)
 generalize (((((V.setCell ⟨B,0,none⟩ (int i64 op)).setCell ⟨B,1,none⟩ (int i64 ia)).setCell ⟨B,2,none⟩ (int i64 ib)).setCell ⟨B,3,none⟩ (int i64 ic)).setCell ⟨B,4,none⟩ (int i64 ii)).setCell ⟨B,5,none⟩ (.slice Q args.length q)=V6 at *
 refine hK.out _ _ (gF.out _ gG.out) (fun aX=>?_)
 clear v0 v1 v2 v3 v4 v5 jA iQ qB V
 obtain ⟨z0,z1,z2,z3,z4,z5,xu⟩:=ZZ.out
 try simp only [aS,aN,aT,a0,a1]
 refine wpAnyH_done (by kernel_rfl) ?_ _
 go_wp2
 refine wp_region_held_drew (S:=fun w'=>w'.cell? ⟨B,1,none⟩=some (int i64 ia)/\w'.cell? ⟨B,2,none⟩=some (int i64 ib)) (by kernel_rfl) ?_ (fun ae=>?_)
 ·exact ⟨z1,z2⟩
 iterate 4 (refine tn rfl (by kernel_rfl) (fun _ _ _ h=>h) (by intro _ h;go_split_ands;go_simp<;>with_reducible rfl) ae ?_;try simp only [aS,aN,aT,a0,a1])
 refine bI (i:=4) (by kernel_rfl) rfl fun K hK=>?_
 go_simp
 go_at_call 89
 refine (HH.out.y.useY gG.out.drew (fun X wx w H=>cz 1 X wx w0 g h qs a c l v 3 w H H0.out HV.out)).mono ?_
 rintro e w1 ⟨he,H1,K1⟩
 skip
 subst he
 have kN:=K1.at (Xp.new hB.out (af q6.out)) q6.out
 have d1:=ab (aF kN).1
 have d2:=ab (aF kN).2
 replace H1:=ab H1
 replace kN:=ab kN
 clear K1
 go_wp2_with fail
 refine hK.out _ _ (⟨d1.out,d2.out⟩) (fun ah=>?_)
 try simp only [aS,aN,aT,a0,a1]
 refine bI (i:=5) (by kernel_rfl) rfl fun K hK=>?_
 go_simp
 go_at_call 90
 refine (bX (im v) _).mono ?_
 rintro e w2 ⟨he,b2⟩
 rw [o5.out] at he
 subst he
 have m8:=ai b2 kN.out
 have f1:=ab (aF m8).1
 have f2:=ab (aF m8).2
 replace b2:=ab b2
 replace m8:=ab m8
 go_wp2_with fail
 refine hK.out _ _ (⟨f1.out,f2.out⟩) (fun aX=>?_)
 try simp only [aS,aN,aT,a0,a1]
 refine bI (i:=6) (by kernel_rfl) rfl fun K hK=>?_
 go_simp
 go_at_call 87
 refine ((H1.out.bl b2.out).useY (Bl.refl _) (fun X wx w H=>ra 1 X wx w0 g h qs a { c with stk:=l } w H ia)).mono ?_
 rintro e w3 ⟨rfl,H3,K3⟩
 have tQ:=K3.at (Xp.old (Xp.old (Xp.new hB.out (af q6.out)))) m8.out
 have j1:=ab (aF tQ).1
 have j2:=ab (aF tQ).2
 replace H3:=ab H3
 replace tQ:=ab tQ
 clear K3
 go_wp2_with fail
 refine hK.out _ _ (⟨j1.out,j2.out⟩) (fun dh=>?_)
 try simp only [aS,aN,aT,a0,a1]
 refine wpAnyH_done (by kernel_rfl) ?_ _
 go_wp2
 go_end0
 exact Gm.out _ H3.out.x
theorem tS (H:RX 1 X wx w0 g w h qs a c) (hs:h.stops=false) (op ia ib ic ii:Int) (args:List Int) (cb co:Nat) (Q:Option Addr) (q n:Nat) (A:rU w a c ⟨op,ia,ib,ic,ii,args⟩ cb co Q q n) (hop:op=13) (d:jE) (l:List Va) (v:Va) (h0:c.stk=l++[v]) (hv:v.kind=3) (hb:vB (im v)=false) (hd:d.h=h) (hc:{ d.c with pc:=d.nx }={ { c with stk:=l } with pc:=c.pc+1 }) :
  Calls Tryz.prog 40 #[.pointer (some ⟨a.q,0,none⟩)] w fun e w'=>rV X wx w0 g qs a c d e w':=by
 have H0:=ab h0
 have HV:=ab hv
 have o5:=ab hb
 skip
 skip
 have mM:Hid (0<=c.pc/\c.pc<9223372036854775807):=by have h1:=A.pc;have h2:=A.lt;have h3:=A.len;unfold maxLen at h3;exact ⟨by omega,by omega⟩
 have Gm:Hid (∀w',RX 1 X wx w0 g w' h qs a { { c with stk:=l } with pc:=c.pc+1 }->rV X wx w0 g qs a c d (.returned (.tuple #[])) w'):=fun w' H=>Aw hs hd (hc▸H)
 have HH:=ab H
 have Dn:=ab hop
 obtain ⟨c10,fz,c8,hq,hcl,hlt,CP,kv,kg,eD,gF,xZ,CQ⟩:=Av H A
 have e1:(op==11)=false:=by simp [hop]
 have e2:(op==12)=false:=by simp [hop]
 have e3:(op==13)=true:=by simp [hop]
 clear H hs A hop h0 hv hb hd hc
 go_enter Tryz.func40,Tryz.ntmps40
 go_wp2
 go_quiet (fail)
 go_wp2
 refine wp_region_held_drew (S:=fun w'=>w'.cell? ⟨a.q,8,none⟩=some (.slice (some ⟨cb,co,none⟩) c.m.code.length a.c)/\w'.cell? ⟨a.q,10,none⟩=some (int i64 (n:Int))/\w'.cell? ⟨cb,co+n*6,none⟩=some (int i64 op)/\w'.cell? ⟨cb,co+n*6+1,none⟩=some (int i64 ia)/\w'.cell? ⟨cb,co+n*6+2,none⟩=some (int i64 ib)/\w'.cell? ⟨cb,co+n*6+3,none⟩=some (int i64 ic)/\w'.cell? ⟨cb,co+n*6+4,none⟩=some (int i64 ii)/\w'.cell? ⟨cb,co+n*6+5,none⟩=some (.slice Q args.length q)) (by kernel_rfl) ?_ (fun ae=>?_)
 ·exact gF.out _ (aR (Bl.refl w) _).drew
 iterate 11 (refine tn rfl (by kernel_rfl) (fun _ _ _ h=>h) (by intro _ h;go_split_ands;go_simp<;>with_reducible rfl) ae ?_;try simp only [aS,aN,aT,a0,a1])
 refine bI (i:=11) (by kernel_rfl) rfl fun K hK=>?_
 go_wp2_with fail
 refine hK.out _ _ (gF.out _ ((aR (Bl.refl w) _).alloc _)) (fun ah=>?_)
 try simp only [aS,aN,aT,a0,a1]
 refine bI (i:=12) (by kernel_rfl) rfl fun K hK=>?_
 obtain ⟨B,dQ⟩:∃B,B=w.heap.size:=⟨_,rfl⟩
 obtain ⟨iQ,v0,v1,v2,v3,v4,v5,jA,qB,hB⟩:=mS w (nq+1) B dQ
 simp only [<-dQ]
 clear ah dQ
 generalize (w.drewN (nq+1)).alloc (.cells #[int i64 0,int i64 0,int i64 0,int i64 0,int i64 0,.slice none 0 0] 55)=V at *
 go_wp2_with fail
 obtain ⟨gG,ZZ,q6⟩:=mT iQ hB v0 v1 v2 v3 v4 v5 jA qB (int i64 op) (int i64 ia) (int i64 ib) (int i64 ic) (int i64 ii) (.slice Q args.length q)
 generalize (((((V.setCell ⟨B,0,none⟩ (int i64 op)).setCell ⟨B,1,none⟩ (int i64 ia)).setCell ⟨B,2,none⟩ (int i64 ib)).setCell ⟨B,3,none⟩ (int i64 ic)).setCell ⟨B,4,none⟩ (int i64 ii)).setCell ⟨B,5,none⟩ (.slice Q args.length q)=V6 at *
 refine hK.out _ _ (gF.out _ gG.out) (fun aX=>?_)
 clear v0 v1 v2 v3 v4 v5 jA iQ qB V
 obtain ⟨z0,z1,z2,z3,z4,z5,xu⟩:=ZZ.out
 try simp only [aS,aN,aT,a0,a1]
 refine wpAnyH_done (by kernel_rfl) ?_ _
 go_wp2
 refine wp_region_held_drew (S:=fun w'=>w'.cell? ⟨B,1,none⟩=some (int i64 ia)/\w'.cell? ⟨B,2,none⟩=some (int i64 ib)) (by kernel_rfl) ?_ (fun ae=>?_)
 ·exact ⟨z1,z2⟩
 iterate 4 (refine tn rfl (by kernel_rfl) (fun _ _ _ h=>h) (by intro _ h;go_split_ands;go_simp<;>with_reducible rfl) ae ?_;try simp only [aS,aN,aT,a0,a1])
 refine bI (i:=4) (by kernel_rfl) rfl fun K hK=>?_
 go_simp
 go_at_call 89
 refine (HH.out.y.useY gG.out.drew (fun X wx w H=>cz 1 X wx w0 g h qs a c l v 3 w H H0.out HV.out)).mono ?_
 rintro e w1 ⟨he,H1,K1⟩
 skip
 subst he
 have kN:=K1.at (Xp.new hB.out (af q6.out)) q6.out
 have d1:=ab (aF kN).1
 have d2:=ab (aF kN).2
 replace H1:=ab H1
 replace kN:=ab kN
 clear K1
 go_wp2_with fail
 refine hK.out _ _ (⟨d1.out,d2.out⟩) (fun ah=>?_)
 try simp only [aS,aN,aT,a0,a1]
 refine bI (i:=5) (by kernel_rfl) rfl fun K hK=>?_
 go_simp
 go_at_call 90
 refine (bX (im v) _).mono ?_
 rintro e w2 ⟨he,b2⟩
 rw [o5.out] at he
 subst he
 have m8:=ai b2 kN.out
 have f1:=ab (aF m8).1
 have f2:=ab (aF m8).2
 replace b2:=ab b2
 replace m8:=ab m8
 go_wp2_with fail
 refine hK.out _ _ (⟨f1.out,f2.out⟩) (fun aX=>?_)
 try simp only [aS,aN,aT,a0,a1]
 refine bI (i:=6) (by kernel_rfl) rfl fun K hK=>?_
 go_simp
 go_at_call 87
 refine ((H1.out.bl b2.out).useY (Bl.refl _) (fun X wx w H=>sR 1 X wx w0 g h qs a { c with stk:=l } w H ia mM.out)).mono ?_
 rintro e w3 ⟨rfl,H3,K3⟩
 have tQ:=K3.at (Xp.old (Xp.old (Xp.new hB.out (af q6.out)))) m8.out
 have j1:=ab (aF tQ).1
 have j2:=ab (aF tQ).2
 replace H3:=ab H3
 replace tQ:=ab tQ
 clear K3
 go_wp2_with fail
 refine hK.out _ _ (⟨j1.out,j2.out⟩) (fun dh=>?_)
 try simp only [aS,aN,aT,a0,a1]
 refine wpAnyH_done (by kernel_rfl) ?_ _
 go_wp2
 go_end0
 exact Gm.out _ H3.out.x
end
end
theorem cK.c34 {s:Nat} {X Y:Nat->Prop} {wx w0 w:World} {g:Mg} {h:Hp} {qs:List Nat} {a:Mc} {c:aH} (H:cK s X Y wx w0 g w h qs a c):w.cell? ⟨a.q,3,none⟩=some (int i64 c.m.ret.kind)/\w.cell? ⟨a.q,4,none⟩=some (int i64 c.m.ret.cls):=by
 obtain ⟨vc,vo,vx,vs,l,H,-⟩:=H
 exact ⟨H.ca.cells.c3,H.ca.cells.c4⟩
section
variable (s:Nat) (X:Nat->Prop) (wx w0:World) (g:Mg) (h:Hp) (qs:List Nat) (a:Mc) (c:aH)
theorem xz (w:World) (H:RX s X wx w0 g w h qs a c) (hr:c.m.ret.kind=0) :
  Calls Tryz.prog 93 #[.pointer (some ⟨a.q,0,none⟩)] w fun e w'=>e=.returned (cn ag)/\RX s X wx w0 g w' h qs a c:=by
 have HH:=ab H
 have hq:=H.qlt
 have HB:Hid (Bl w (w.alloc eT)):=(Bl.refl w).alloc _
 obtain ⟨z3,z4⟩:=(H.y.bl HB.out).c34
 rw [hr] at z3
 have q0:=aD w #[int i64 0,int i64 0] 100
 have f0:=aK q0
 have f1:=aI q0
 have fz:=ay q0
 have HQ:=ab q0
 clear H hr q0
 go_enter Tryz.func93,Tryz.ntmps93
 go_wp2
 refine bodyPost_ret (results_cell_row rfl _ _ w.heap.size _ _ _ _ rfl HQ.out Tryz.underlying100 rfl bK) rfl ?_
 exact ⟨rfl,HH.out.bl HB.out⟩
theorem zf (l:List Va) (v:Va) (w:World) (H:RX s X wx w0 g w h qs a c) (F:Fix w0 g h) (hf:h.objs.length<=100) (hr:c.m.ret.kind≠0) (hs:c.stk=l++[v]) (hv:v.kind=3->-1<=v.n/\v.n<h.objs.length) (ho:h.of v c.m.ret=true) :
  Calls Tryz.prog 93 #[.pointer (some ⟨a.q,0,none⟩)] w fun e w'=>e=.returned (cn (im v))/\RX s X wx w0 g w' h qs a { c with stk:=l }:=by
 have HH:=ab H
 have hq:=H.qlt
 have HB:Hid (Bl w (w.alloc eT)):=(Bl.refl w).alloc _
 obtain ⟨z3,z4⟩:=(H.y.bl HB.out).c34
 have HT:Hid (∀X wx w,RX s X wx w0 g w h qs a c->Calls Tryz.prog 146 #[.pointer (some ⟨a.q,0,none⟩),jD c.m.ret] w fun e w'=>e=.returned (cn (im v))/\RX s X wx w0 g w' h qs a { c with stk:=l }):=fun X wx w H=>dV s X wx w0 g h qs a c l v c.m.ret w H F hf hs hv ho
 have HQ:=ab (aD w #[int i64 0,int i64 0] 100)
 have yq:(c.m.ret.kind==0)=false:=by simpa using hr
 clear H hs F hf hv ho hr
 go_enter Tryz.func93,Tryz.ntmps93
 go_wp2_with (go_at_call 146;refine (HH.out.y.useY HB.out HT.out).mono ?_;rintro e w1 ⟨rfl,H1,K1⟩;have q1:=K1.at (Xp.new (Nat.le_refl _) (cX w _)) HQ.out;have c4:=aK q1;have c5:=aI q1;have fz:=ay q1;clear K1;replace H1:=ab H1;replace q1:=ab q1)
 refine bodyPost_ret (results_cell_row rfl _ _ w.heap.size _ _ _ _ rfl (bQ q1.out) Tryz.underlying100 rfl bK) rfl ?_
 refine ⟨rfl,cK.x (cK.set (cK.set H1.out ?_ 0 _) ?_ 1 _)⟩<;>exact Xp.new (Nat.le_refl _) (cX w _)
theorem CR (w:World) (H:RX s X wx w0 g w h qs a c) (F:Fix w0 g h) (hf:h.objs.length<=100) (hr:c.m.ret.kind≠0) (hs:c.stk=[]∨∃(l:List Va) (v:Va),c.stk=l++[v]/\(v.kind=3->-1<=v.n/\v.n<h.objs.length)/\h.of v c.m.ret=false) :
  Calls Tryz.prog 93 #[.pointer (some ⟨a.q,0,none⟩)] w fun e w'=>e=aV 6 0 0/\RS s X wx w0 g w' h qs a c:=by
 have HH:=ab H
 have hq:=H.qlt
 have HB:Hid (Bl w (w.alloc eT)):=(Bl.refl w).alloc _
 obtain ⟨z3,z4⟩:=(H.y.bl HB.out).c34
 have HT:Hid (∀X wx w,RX s X wx w0 g w h qs a c->Calls Tryz.prog 146 #[.pointer (some ⟨a.q,0,none⟩),jD c.m.ret] w fun e w'=>e=aV 6 0 0/\RS s X wx w0 g w' h qs a c):=fun X wx w H=>jN s X wx w0 g h qs a c c.m.ret w H F hf hs
 have yq:(c.m.ret.kind==0)=false:=by simpa using hr
 clear H hs F hf hr
 go_enter Tryz.func93,Tryz.ntmps93
 go_wp2_with (go_at_call 146;refine (HH.out.y.useN HB.out HT.out).mono ?_;rintro e w1 ⟨rfl,H1⟩;replace H1:=ab H1)
 exact ⟨rfl,rfl,H1.out⟩
end
structure Kl where
 a:Mc
 c:aH
 vs:Value
 l:List Va
def Kl.own (k:Kl) (b:Nat):Prop:=b=k.a.q∨b=k.a.lb∨k.vs.ownBlock=some b
def xA (L:List Kl) (b:Nat):Prop:=∃k∈L,k.own b
def lP (w0:World) (g:Mg) (w:World):List Kl->Prop
 | []=>True
 | k::L=>CA w0 g w k.a k.c k.l k.vs/\(∀b,xA L b->mh k.a k.vs b)/\lP w0 g w L
def jH (L:List Kl):List Nat:=(L.map (fun k=>k.a.q)).reverse
def RR (s:Nat) (Z:Nat->Prop) (wx w0:World) (g:Mg) (w:World) (h:Hp) (L:List Kl):Prop:=∃vc vo vx,RH s w0 g w h (jH L) vc vo vx/\lP w0 g w L/\(∀b,Z b->lv g vc vo vx b)/\(∀b,Z b->∀k∈L,mh k.a k.vs b)/\jj Z wx w
def kY (L:List Kl) (Z:Nat->Prop) (b:Nat):Prop:=xA L b∨Z b
theorem CA.blks {w0 w:World} {g:Mg} {k:Kl} (H:CA w0 g w k.a k.c k.l k.vs) {b:Nat} (hb:k.own b):w0.heap.size<=b/\∃cs t,w.heap[b]?=some (.cells cs t (0,0))/\(t=94∨t=100):=by
 rcases hb with rfl|rfl|hb
 ·exact ⟨H.own,_,_,H.blk,Or.inl rfl⟩
 ·exact ⟨H.ownl,_,_,H.loc,Or.inr rfl⟩
 ·rcases H.stk.2 with ⟨h0,-⟩|⟨gb,cap,cur,h1,h2,h3,-⟩
  ·rw [h0] at hb;simp [Value.ownBlock] at hb
  ·rw [h1] at hb
   simp [Value.ownBlock] at hb
   subst hb
   exact ⟨h2,_,_,h3,Or.inr rfl⟩
theorem CA.farK {s:Nat} {w0 w:World} {g:Mg} {h:Hp} {qs:List Nat} {vc vo vx:Value} {k:Kl} (R:RH s w0 g w h qs vc vo vx) (H:CA w0 g w k.a k.c k.l k.vs) {b:Nat} (hb:k.own b):lv g vc vo vx b:=by
 obtain ⟨-,cs,t,h1,ht⟩:=H.blks hb
 obtain ⟨n,D,F⟩:=R.fld
 refine ⟨dN h1 R.run ?_,dN h1 R.hp ?_,iC h1 F.own,bc R.calls h1 ?_,bc R.obs h1 ?_,bc R.out h1 ?_⟩<;>rcases ht with rfl|rfl<;>decide
section
variable {w0 w:World}
theorem CA.same {w':World} {g:Mg} {k:Kl} (H:CA w0 g w k.a k.c k.l k.vs) (hb:∀b,k.own b->w'.heap[b]?=w.heap[b]?):CA w0 g w' k.a k.c k.l k.vs:=by
 refine ⟨H.own,H.ownl,(hb _ (Or.inl rfl)).trans H.blk,(hb _ (Or.inr (Or.inl rfl))).trans H.loc,H.rel,⟨H.stk.1,?_⟩,H.apart,H.me,H.short,H.kinds⟩
 rcases H.stk.2 with h0|⟨gb,cap,cur,h1,h2,h3,h4⟩
 ·exact Or.inl h0
 ·refine Or.inr ⟨gb,cap,cur,h1,h2,?_,h4⟩
  rw [hb gb (Or.inr (Or.inr (by rw [h1];rfl)))]
  exact h3
theorem lP.same {w':World} {g:Mg}:∀{L:List Kl},lP w0 g w L->(∀b,xA L b->w'.heap[b]?=w.heap[b]?)->lP w0 g w' L
 | [],_,_=>trivial
 | k::L,H,hb=>⟨H.1.same (fun b hk=>hb b ⟨k,List.mem_cons_self,hk⟩),H.2.1,lP.same H.2.2 (fun b ⟨x,hx,hk⟩=>hb b ⟨x,List.mem_cons_of_mem _ hx,hk⟩)⟩
theorem lP.blks {g:Mg}:∀{L:List Kl},lP w0 g w L->∀{b},xA L b->∃k∈L,k.own b/\CA w0 g w k.a k.c k.l k.vs
 | [],_,_,⟨x,hx,_⟩=>absurd hx (by simp)
 | k::L,H,b,⟨x,hx,hk⟩=>by
  rcases List.mem_cons.1 hx with rfl|hx
  ·exact ⟨x,List.mem_cons_self,hk,H.1⟩
  ·obtain ⟨y,hy,h1,h2⟩:=lP.blks H.2.2 ⟨x,hx,hk⟩
   exact ⟨y,List.mem_cons_of_mem _ hy,h1,h2⟩
theorem lP.lt {g:Mg} {L:List Kl} (H:lP w0 g w L) {b:Nat} (hb:xA L b):b<w.heap.size:=by
 obtain ⟨k,-,hk,hc⟩:=H.blks hb
 obtain ⟨-,cs,t,h1,-⟩:=hc.blks hk
 exact af h1
theorem lP.kz {wx:World} {g:Mg} {L:List Kl} {Z:Nat->Prop} (H:lP w0 g w L) (K:jj Z wx w):jj (kY L Z) w w :=
 ⟨Nat.le_refl _,fun b hb=>⟨hb.elim (fun z=>H.lt z) (fun z=>Nat.lt_of_lt_of_le (K.blk b z).1 K.size),rfl⟩⟩
end
section
variable {s:Nat} {Z:Nat->Prop} {wx w0 w:World} {g:Mg} {h:Hp}
theorem RR.top {k:Kl} {L:List Kl} (H:RR s Z wx w0 g w h (k::L)):RX s (kY L Z) w w0 g w h (jH (k::L)) k.a k.c:=by
 obtain ⟨vc,vo,vx,R,⟨hc,hf,hl⟩,z1,z2,K⟩:=H
 refine ⟨vc,vo,vx,k.vs,k.l,R,hc,fun b hb=>?_,fun b hb=>?_,hl.kz K⟩
 ·rcases hb with hb|hb
  ·obtain ⟨y,-,hk,hy⟩:=hl.blks hb
   exact hy.farK R hk
  ·exact z1 b hb
 ·rcases hb with hb|hb
  ·exact hf b hb
  ·exact z2 b hb k List.mem_cons_self
theorem RR.hx {L:List Kl} (H:RR s Z wx w0 g w h L):HX s (kY L Z) w w0 g w h (jH L):=by
 obtain ⟨vc,vo,vx,R,hl,z1,z2,K⟩:=H
 refine ⟨vc,vo,vx,R,fun b hb=>?_,hl.kz K⟩
 rcases hb with hb|hb
 ·obtain ⟨y,-,hk,hy⟩:=hl.blks hb
  exact hy.farK R hk
 ·exact z1 b hb
end
theorem jj.then {Z Z':Nat->Prop} {wx w w':World} (K:jj Z wx w) (K':jj Z' w w') (hz:∀b,Z b->Z' b):jj Z wx w':=⟨Nat.le_trans K.size K'.size,fun b hb=>⟨(K.blk b hb).1,((K'.blk b (hz b hb)).2).trans (K.blk b hb).2⟩⟩
section
variable {s s':Nat} {Z:Nat->Prop} {wx w0 w w':World} {g:Mg} {h h':Hp}
theorem RR.of {k:Kl} {L:List Kl} {c:aH} (H:RR s Z wx w0 g w h (k::L)) (H':RX s' (kY L Z) w w0 g w' h' (jH (k::L)) k.a c):∃vs l,RR s' Z wx w0 g w' h' (⟨k.a,c,vs,l⟩::L):=by
 obtain ⟨vc,vo,vx,R,⟨hc,hf,hl⟩,z1,z2,K⟩:=H
 obtain ⟨rK,vz,vA,vs,l,H'⟩:=H'
 refine ⟨vs,l,rK,vz,vA,H'.rh,⟨H'.ca,fun b hb=>H'.farc b (Or.inl hb),hl.same (fun b hb=>(H'.kept.blk b (Or.inl hb)).2)⟩,fun b hb=>H'.farr b (Or.inr hb),fun b hb y hy=>?_,K.then H'.kept (fun b hb=>Or.inr hb)⟩
 rcases List.mem_cons.1 hy with rfl|hy
 ·exact H'.farc b (Or.inr hb)
 ·exact z2 b hb y (List.mem_cons_of_mem _ hy)
theorem RR.ofx {L:List Kl} (H:RR s Z wx w0 g w h L) (H':HX s' (kY L Z) w w0 g w' h' (jH L)):RR s' Z wx w0 g w' h' L:=by
 obtain ⟨vc,vo,vx,R,hl,z1,z2,K⟩:=H
 obtain ⟨rK,vz,vA,R',f,K'⟩:=H'
 exact ⟨rK,vz,vA,R',hl.same (fun b hb=>(K'.blk b (Or.inl hb)).2),fun b hb=>f b (Or.inr hb),z2,K.then K' (fun b hb=>Or.inr hb)⟩
end
section
open Go.Maps (Keyed has)
abbrev Lt (A:Option Addr) (n a mp:Nat):Obj:=.cells #[.slice A n a,.slice none 0 0,.map (some mp)] 171
theorem xB (A:Option Addr) (n a:Nat) (w:World) :
  Calls Tryz.prog 44 #[.slice A n a] w fun e w'=>e=.returned (.pointer (some ⟨w.heap.size+1,0,none⟩))/\w'=(w.alloc (.map #[] 0)).alloc (Lt A n a w.heap.size):=by
 have jX:∀(t:TypeId) (w:World),(Instr.makeMap t none).run Tryz.prog w=.ok (.map (some w.heap.size)) (w.alloc (.map #[] 0)):=fun _ _=>rfl
 go_enter Tryz.func44,Tryz.ntmps44
 go_wp2
 go_ret
 exact ⟨rfl,rfl⟩
def gC (f:Fi) (input:List Int) (fuel:Int):Hp:=⟨f,[],input,0,fuel,⟨0,0,0,[],0,0⟩,false,-1⟩
theorem Gq (f:Fi) (input:List Int) (fuel:Int) (w0 w:World) (g:Mg) (hb:Bl w0 w) (h1:w0.heap.size<=g.r) (h2:w0.heap.size<=g.hb) (h3:w0.heap.size<=g.mp)
  (hr:w.heap[g.r]?=some (.cells (gM g (gC f input fuel) (.slice none 0 0) (.slice none 0 0)) 90 (0,0))) (hh:w.heap[g.hb]?=some (.cells (fC g (gC f input fuel) (.slice none 0 0)) 171 (0,0)))
  (hm:w.ownsMap Tryz.prog 265 fk g.mp 0 (.map [])):RR 0 NF w w0 g w (gC f input fuel) []:=by
 refine ⟨.slice none 0 0,.slice none 0 0,.slice none 0 0,⟨h1,h2,h3,hb,hr,hh,⟨rfl,Or.inl ⟨rfl,rfl⟩⟩,⟨rfl,Or.inl ⟨rfl,rfl⟩⟩,⟨rfl,Or.inl ⟨rfl,rfl⟩⟩,0,.map [],hm,(by show (0:Int)+0<=0;decide),?_,?_,?_,?_,?_⟩,trivial,fun b hb=>absurd hb (fun x=>x),fun b hb=>absurd hb (fun x=>x),Nat.le_refl _,fun b hb=>absurd hb (fun x=>x)⟩
 ·intro o c k v ho;exact absurd ho (Nat.not_lt_zero _)
 ·intro o c k v ho;exact absurd ho (Nat.not_lt_zero _)
 ·intro o c k _ _ _ _;rfl
 ·intro o ho;exact absurd ho (Nat.not_lt_zero _)
 ·intro o ho;exact absurd ho (Nat.not_lt_zero _)
end
end Go.Proofs.YtgiiapenmjollaaGreat
