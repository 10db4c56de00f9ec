import Derived.Test.YtimjmdfokicbkaaGreatSrai
import Derived.Test.YtimjmdfokicbkaaGreatSraw
import Derived.WalkSmall
namespace Go.Proofs.YtimjmdfokicbkaaGreat
set_option linter.unusedVariables false
set_option linter.unusedSimpArgs false
set_option maxHeartbeats 40000000
set_option maxRecDepth 100000
open Go.RowKit
open Go.Value (int)
open Go.IntKind (i64)
variable {args:List Int}
section
open Go.Maps (Keyed has)
theorem xM (X:Nat->Prop) (wx w0:World) (g:Mg) (h:Hp) (qs:List Nat) (a:Mc) (c:aH) (ia ib ic ii:Int) (args:List Int) (Q:Option Addr) (nl q:Nat) (w:World) (H:RX 1 X wx w0 g w h qs a c) (hs:h.stops=false) (hl:c.stk.length≤1000) (F:Fix w0 g h) (iz:h.objs.length≤100) (hst:∀v∈c.stk,v.kind=3->-1≤v.n/\v.n<h.objs.length) (jB:0≤ia/\ia<h.file.classes.length/\0≤ib/\ib<(nth cd h.file.classes ia.toNat).fields.length) :
  Calls Tryz.prog 163 #[.pointer (some ⟨a.q,0,none⟩),.agg #[int i64 15,int i64 ia,int i64 ib,int i64 ic,int i64 ii,.slice Q nl q]] w fun e w'=>bS X wx w0 g qs a c (aM h c ⟨15,ia,ib,ic,ii,args⟩) e w':=by
 obtain ⟨cc,rfl⟩:∃cc:Nat,ia=cc:=⟨ia.toNat,by omega⟩
 obtain ⟨k,rfl⟩:∃k:Nat,ib=k:=⟨ib.toNat,by omega⟩
 rw [Int.toNat_natCast] at jB
 have hc:cc<h.file.classes.length:=by omega
 have sj:k<(nth cd h.file.classes cc).fields.length:=by omega
 have ho:=a8 hs
 have HH:=ab H
 have HS:=ab hs
 have HB:Hid (Bl w (w.alloc (.cells #[int i64 15,int i64 (cc:Int),int i64 (k:Int),int i64 ic,int i64 ii,.slice Q nl q] 55))):=(Bl.refl w).alloc _
 have HL:=ab (aD w #[int i64 15,int i64 (cc:Int),int i64 (k:Int),int i64 ic,int i64 ii,.slice Q nl q] 55)
 have z0:=ab ((H.y.bl HB.out).hb)
 have z1:=ab (aF HL.out).1
 have z2:=ab (aF HL.out).2
 have bad:(c.stk=[]∨∃(l:List Va) (v:Va),c.stk=l++[v]/\(v.kind=3->-1≤v.n/\v.n<h.objs.length)/\h.of v ⟨3,(cc:Int)⟩=false)->Calls Tryz.prog 163 #[.pointer (some ⟨a.q,0,none⟩),.agg #[int i64 15,int i64 (cc:Int),int i64 (k:Int),int i64 ic,int i64 ii,.slice Q nl q]] w fun e w'=>bS X wx w0 g qs a c ⟨h.fin 6,c,0⟩ e w':=fun hn=>by
  have HN:=ab (And.intro hn (And.intro F iz))
  clear H hs hn F hst jB hc sj
  go_enter Tryz.func163,Tryz.ntmps163
  go_wp2
  refine wp_region_held_drew (S:=fun w'=>w'.cell? ⟨a.q,0,none⟩=some (.pointer (some ⟨g.hb,0,none⟩))/\w'.cell? ⟨w.heap.size,1,none⟩=some (int i64 (cc:Int))/\w'.cell? ⟨w.heap.size,2,none⟩=some (int i64 (k:Int))) (by kernel_rfl) ?_ (fun ae=>?_)
  ·exact ⟨z0.out,z1.out,z2.out⟩
  iterate 12 (refine tn rfl rfl rfl (by kernel_rfl) (fun _ _ _ h=>h) (by rfl) (by intro _ h;(try dsimp only at h);go_split_ands;go_simp<;>with_reducible rfl) ae ?_;try simp only [aS,aN,aT,a0,a1])
  refine bJ (i:=8) (by kernel_rfl) rfl fun K hK=>?_
  go_simp
  go_at_call 200
  refine (eR (cc:Int) _).mono ?_
  rintro e w1 ⟨rfl,b1⟩
  have d0:=ab (b1.cell ae.1)
  have d1:=ab (b1.cell ae.2.1)
  have d2:=ab (b1.cell ae.2.2)
  have Dr:=ab (ai b1 HL.out)
  replace b1:=ab b1
  go_wp2_with fail
  refine hK.out _ _ (⟨d0.out,d1.out,d2.out⟩) (fun ah=>?_)
  try simp only [aS,aN,aT,a0,a1]
  refine bJ (i:=9) (by kernel_rfl) rfl fun K hK=>?_
  go_simp
  go_at_call 156
  refine (HH.out.y.useN (HB.out.drew.trans b1.out) (fun X wx w H=>jM 1 X wx w0 g h qs a c ⟨3,(cc:Int)⟩ w H HN.out.2.1 HN.out.2.2 HN.out.1)).mono ?_
  rintro e w2 ⟨rfl,H1⟩
  exact ⟨rfl,cX (s:=0) (a8 HS.out) rfl H1.less⟩
 have hd:aM h c ⟨15,(cc:Int),(k:Int),ic,ii,args⟩=bZ h c ⟨15,(cc:Int),(k:Int),ic,ii,args⟩:=rfl
 have em:aJ 15=1:=by decide
 rw [hd]
 unfold bZ
 dsimp only
 rw [em]
 rcases gD (c:=c) with h0|⟨l,v,h0⟩
 ·rw [cY (fF h0),fy (kn ho 6).1,if_pos (aY hs 6)]
  exact (bad (Or.inl h0)).mono fun e w' q=>dw (d:=⟨h.fin 6,c,0⟩) rfl (aY hs 6) q
 obtain ⟨h1,h2,h4⟩:=fG h0
 rw [dJ h1,h2,h4]
 generalize nth ag (c.top 1) 1=y
 have NC:=hst v (by rw [h0];simp)
 have TA:givesH h v y ⟨15,(cc:Int),(k:Int),ic,ii,args⟩=h.findH v cc:=by
  unfold givesH
  rw [if_neg (by rw [ho];decide)]
  simp
 have TB:aG h v y ⟨15,(cc:Int),(k:Int),ic,ii,args⟩=h.getV v cc k:=by
  unfold aG
  rw [if_neg (by rw [ho];decide)]
  simp
 rw [TA,TB]
 cases hz:h.of v ⟨3,(cc:Int)⟩ with
 | false =>
  have hm:h.mustB false=false:=rfl
  have eg:h.findH v cc=h.fin 6:=by unfold Hp.findH;rw [hz,if_neg (by rw [hm];decide),cY rfl]
  rw [eg,if_pos (aY hs 6)]
  exact (bad (Or.inr ⟨l,v,h0,NC,hz⟩)).mono fun e w' q=>dw (d:=⟨h.fin 6,c,0⟩) rfl (aY hs 6) q
 | true =>
  have hk:v.kind=3:=mD hz
  have kV:=NC hk
  have hm:h.mustB true=true:=by unfold Hp.mustB;rw [ho];rfl
  have HT:Hid (∀X wx w,RX 1 X wx w0 g w h qs a c->Calls Tryz.prog 156 #[.pointer (some ⟨a.q,0,none⟩),jC ⟨3,(cc:Int)⟩] w fun e w'=>e=.returned (cn (im v))/\RX 1 X wx w0 g w' h qs a { c with stk:=l }):=fun X wx w H=>dU 1 X wx w0 g h qs a c l v ⟨3,(cc:Int)⟩ w H F iz h0 NC hz
  by_cases hn:v.n<0
  ·have eg:h.findH v cc=h.raise 1:=by unfold Hp.findH;rw [hz,if_pos hm,if_pos hn]
   rw [eg,if_pos (il hs 1)]
   obtain ⟨E,hE⟩:∃E,bL h=E:=⟨_,rfl⟩
   have IZ:Hid (∃ch,E=.panicked ch):=by
    rw [<-hE];unfold bL;split<;>exact ⟨_,rfl⟩
   have HG:Hid (∀X wx w,RX 1 X wx w0 g w h qs a { c with stk:=l }->Calls Tryz.prog 211 #[.pointer (some ⟨g.hb,0,none⟩),cn (im v),int i64 (cc:Int),int i64 (k:Int)] w fun e w'=>e=E/\RX 1 X wx w0 g w' (h.raise 1) qs a { c with stk:=l }):=fun X wx w H=>hE▸EA 1 X wx w0 g h qs a { c with stk:=l } v cc k w H iz ho hk (by omega)
   have HD:Hid (∀w',RS 0 X wx w0 g w' (h.raise 1) qs a c->bS X wx w0 g qs a c ⟨h.raise 1,{ c with stk:=l },c.pc+1⟩ E w'):=fun w' H=>hE▸iu hs rfl H
   generalize im v=V at HT HG
   clear H hs hd bad em h0 h1 h2 h4 eg TA TB hz hm F hst kV hk hE hn NC jB hc sj
   obtain ⟨ch,rfl⟩:=IZ.out
   go_enter Tryz.func163,Tryz.ntmps163
   go_wp2
   refine wp_region_held_drew (S:=fun w'=>w'.cell? ⟨a.q,0,none⟩=some (.pointer (some ⟨g.hb,0,none⟩))/\w'.cell? ⟨w.heap.size,1,none⟩=some (int i64 (cc:Int))/\w'.cell? ⟨w.heap.size,2,none⟩=some (int i64 (k:Int))) (by kernel_rfl) ?_ (fun ae=>?_)
   ·exact ⟨z0.out,z1.out,z2.out⟩
   iterate 12 (refine tn rfl rfl rfl (by kernel_rfl) (fun _ _ _ h=>h) (by rfl) (by intro _ h;(try dsimp only at h);go_split_ands;go_simp<;>with_reducible rfl) ae ?_;try simp only [aS,aN,aT,a0,a1])
   refine bJ (i:=8) (by kernel_rfl) rfl fun K hK=>?_
   go_simp
   go_at_call 200
   refine (eR (cc:Int) _).mono ?_
   rintro e w1 ⟨rfl,b1⟩
   have d0:=ab (b1.cell ae.1)
   have d1:=ab (b1.cell ae.2.1)
   have d2:=ab (b1.cell ae.2.2)
   have Dr:=ab (ai b1 HL.out)
   replace b1:=ab b1
   go_wp2_with fail
   refine hK.out _ _ (⟨d0.out,d1.out,d2.out⟩) (fun ah=>?_)
   try simp only [aS,aN,aT,a0,a1]
   refine bJ (i:=9) (by kernel_rfl) rfl fun K hK=>?_
   go_simp
   go_at_call 156
   refine (HH.out.y.useY (HB.out.drew.trans b1.out) HT.out).mono ?_
   rintro e w2 ⟨rfl,H1,K1⟩
   have bI:=K1.at (Xp.new (Nat.le_refl _) (af Dr.out)) Dr.out
   have jv:=ab H1.hb
   have jw:=ab (aF bI).1
   have nX:=ab (aF bI).2
   replace bI:=ab bI
   replace H1:=ab H1
   go_wp2_with fail
   refine hK.out _ _ (⟨jv.out,jw.out,nX.out⟩) (fun aX=>?_)
   try simp only [aS,aN,aT,a0,a1]
   refine bJ (i:=14) (by kernel_rfl) rfl fun K hK=>?_
   go_simp
   go_at_call 211
   refine (H1.out.useY (Bl.refl _) HG.out).mono ?_
   rintro e w3 ⟨rfl,H2,K2⟩
   exact ⟨rfl,HD.out _ (H2.x.less.rs.of rfl ⟨rfl,rfl⟩)⟩
  ·have eg:h.findH v cc=h:=by unfold Hp.findH;rw [hz,if_pos hm,if_neg hn]
   rw [eg,if_neg (by rw [hs];decide)]
   obtain ⟨o,pQ⟩:∃o:Nat,v.n=o:=⟨v.n.toNat,by omega⟩
   have vW:o<h.objs.length:=by omega
   have zl:h.obj v.n=nth cA h.objs o:=by unfold Hp.obj;rw [pQ,Int.toNat_natCast]
   have Kt:gj h.file.classes (nth cA h.objs o).cls (cc:Int)=true:=by
    have Kv:=hz
    unfold Hp.of at Kv
    rw [zl] at Kv
    simp [hn] at Kv
    exact Kv.2
   obtain ⟨j,j1,j2,j3,j4,j5⟩:=H.find vW Kt sj
   have Vx:h.getV v cc k=(nth cG (nth cA h.objs o).held j).v:=by
    have Di:h.findN v cc k=j:=by
     unfold Hp.findN
     rw [hz,if_pos hm,if_neg hn,zl]
     exact j2
    unfold Hp.getV
    rw [Di,if_neg (by omega),zl,Int.toNat_natCast]
   rw [Vx]
   have LD:im v=⟨3,(o:Int)+1⟩:=by rw [gq hk,pQ]
   have hkd:1≤(nth cG (nth cA h.objs o).held j).v.kind/\(nth cG (nth cA h.objs o).held j).v.kind≤3:=by rw [j5];exact yB F.may hc sj
   have HG:Hid (∀X wx w,RX 1 X wx w0 g w h qs a { c with stk:=l }->Calls Tryz.prog 211 #[.pointer (some ⟨g.hb,0,none⟩),cn (im v),int i64 (cc:Int),int i64 (k:Int)] w fun e w'=>e=.returned (cn (im (nth cG (nth cA h.objs o).held j).v))/\RX 1 X wx w0 g w' h qs a { c with stk:=l }):=fun X wx w H=>LD.symm▸EE 1 X wx w0 g h qs a { c with stk:=l } o cc k j w H F iz vW hc sj j1 j3 j4
   generalize (nth cG (nth cA h.objs o).held j).v=U at HG hkd
   obtain ⟨E,hE⟩:∃E,(if (aP (({ c with stk:=l }).stk++[U]):Int)≤({ c with stk:=l }).m.stack then Ending.returned (.tuple #[]) else aV 6 0 0)=E:=⟨_,rfl⟩
   have HP:Hid (∀X wx w,RX 1 X wx w0 g w h qs a ({ c with stk:=l })->Calls Tryz.prog 97 #[.pointer (some ⟨a.q,0,none⟩),cn (im U)] w fun e w2=>e=E/\RX 1 X wx w0 g w2 h qs a (({ c with stk:=l }).put U)):=fun X wx w H=>hE▸cN 1 X wx w0 g h qs a ({ c with stk:=l }) U w H (hkd) (by have e:c.stk.length=l.length+1:=(by rw [h0];simp);show l.length≤1000;omega)
   have HE:Hid (∀w',RX 1 X wx w0 g w' h qs a (({ c with stk:=l }).put U)->bS X wx w0 g qs a c ⟨(h).putH ({ c with stk:=l }) U,({ c with stk:=l }).put U,c.pc+1⟩ E w'):=fun w' H=>eO hs rfl ⟨rfl,rfl⟩ hE.symm H.less
   have nS:E=.returned (.tuple #[])∨E=aV 6 0 0:=by rw [<-hE];split;exact Or.inl rfl;exact Or.inr rfl
   clear hE
   generalize im v=V at HT HG
   generalize im U=UI at HG HP
   clear H hs hd bad em h0 h1 h2 h4 eg TA TB hz hm F hst kV hk hn NC jB hc sj pQ vW zl Kt j1 j2 j3 j4 j5 Vx LD
   rcases nS with rfl|rfl
   ·go_enter Tryz.func163,Tryz.ntmps163
    go_wp2
    refine wp_region_held_drew (S:=fun w'=>w'.cell? ⟨a.q,0,none⟩=some (.pointer (some ⟨g.hb,0,none⟩))/\w'.cell? ⟨w.heap.size,1,none⟩=some (int i64 (cc:Int))/\w'.cell? ⟨w.heap.size,2,none⟩=some (int i64 (k:Int))) (by kernel_rfl) ?_ (fun ae=>?_)
    ·exact ⟨z0.out,z1.out,z2.out⟩
    iterate 12 (refine tn rfl rfl rfl (by kernel_rfl) (fun _ _ _ h=>h) (by rfl) (by intro _ h;(try dsimp only at h);go_split_ands;go_simp<;>with_reducible rfl) ae ?_;try simp only [aS,aN,aT,a0,a1])
    refine bJ (i:=8) (by kernel_rfl) rfl fun K hK=>?_
    go_simp
    go_at_call 200
    refine (eR (cc:Int) _).mono ?_
    rintro e w1 ⟨rfl,b1⟩
    have d0:=ab (b1.cell ae.1)
    have d1:=ab (b1.cell ae.2.1)
    have d2:=ab (b1.cell ae.2.2)
    have Dr:=ab (ai b1 HL.out)
    replace b1:=ab b1
    go_wp2_with fail
    refine hK.out _ _ (⟨d0.out,d1.out,d2.out⟩) (fun ah=>?_)
    try simp only [aS,aN,aT,a0,a1]
    refine bJ (i:=9) (by kernel_rfl) rfl fun K hK=>?_
    go_simp
    go_at_call 156
    refine (HH.out.y.useY (HB.out.drew.trans b1.out) HT.out).mono ?_
    rintro e w2 ⟨rfl,H1,K1⟩
    have bI:=K1.at (Xp.new (Nat.le_refl _) (af Dr.out)) Dr.out
    have jv:=ab H1.hb
    have jw:=ab (aF bI).1
    have nX:=ab (aF bI).2
    replace bI:=ab bI
    replace H1:=ab H1
    go_wp2_with fail
    refine hK.out _ _ (⟨jv.out,jw.out,nX.out⟩) (fun aX=>?_)
    try simp only [aS,aN,aT,a0,a1]
    refine bJ (i:=14) (by kernel_rfl) rfl fun K hK=>?_
    go_simp
    go_at_call 211
    refine (H1.out.useY (Bl.refl _) HG.out).mono ?_
    rintro e w3 ⟨rfl,H2,K2⟩
    have rT:=K2.at (Xp.old (Xp.new (Nat.le_refl _) (af Dr.out))) bI.out
    have TC:=ab H2.hb
    have TD:=ab (aF rT).1
    have TE:=ab (aF rT).2
    replace rT:=ab rT
    replace H2:=ab H2
    go_wp2_with fail
    refine hK.out _ _ (⟨TC.out,TD.out,TE.out⟩) (fun dg=>?_)
    try simp only [aS,aN,aT,a0,a1]
    refine bJ (i:=15) (by kernel_rfl) rfl fun K hK=>?_
    go_simp
    go_at_call 97
    refine (H2.out.useY (Bl.refl _) HP.out).mono ?_
    rintro e w4 ⟨rfl,HX,KX⟩
    have LJ:=KX.at (Xp.old (Xp.old (Xp.new (Nat.le_refl _) (af Dr.out)))) rT.out
    have Xa:=ab HX.hb
    have Xb:=ab (aF LJ).1
    have Xc:=ab (aF LJ).2
    replace HX:=ab HX
    go_wp2_with fail
    refine hK.out _ _ (⟨Xa.out,Xb.out,Xc.out⟩) (fun dk=>?_)
    try simp only [aS,aN,aT,a0,a1]
    refine wpAnyH_done (by kernel_rfl) ?_ _
    go_wp2
    go_end0
    exact HE.out _ HX.out.x
   ·go_enter Tryz.func163,Tryz.ntmps163
    go_wp2
    refine wp_region_held_drew (S:=fun w'=>w'.cell? ⟨a.q,0,none⟩=some (.pointer (some ⟨g.hb,0,none⟩))/\w'.cell? ⟨w.heap.size,1,none⟩=some (int i64 (cc:Int))/\w'.cell? ⟨w.heap.size,2,none⟩=some (int i64 (k:Int))) (by kernel_rfl) ?_ (fun ae=>?_)
    ·exact ⟨z0.out,z1.out,z2.out⟩
    iterate 12 (refine tn rfl rfl rfl (by kernel_rfl) (fun _ _ _ h=>h) (by rfl) (by intro _ h;(try dsimp only at h);go_split_ands;go_simp<;>with_reducible rfl) ae ?_;try simp only [aS,aN,aT,a0,a1])
    refine bJ (i:=8) (by kernel_rfl) rfl fun K hK=>?_
    go_simp
    go_at_call 200
    refine (eR (cc:Int) _).mono ?_
    rintro e w1 ⟨rfl,b1⟩
    have d0:=ab (b1.cell ae.1)
    have d1:=ab (b1.cell ae.2.1)
    have d2:=ab (b1.cell ae.2.2)
    have Dr:=ab (ai b1 HL.out)
    replace b1:=ab b1
    go_wp2_with fail
    refine hK.out _ _ (⟨d0.out,d1.out,d2.out⟩) (fun ah=>?_)
    try simp only [aS,aN,aT,a0,a1]
    refine bJ (i:=9) (by kernel_rfl) rfl fun K hK=>?_
    go_simp
    go_at_call 156
    refine (HH.out.y.useY (HB.out.drew.trans b1.out) HT.out).mono ?_
    rintro e w2 ⟨rfl,H1,K1⟩
    have bI:=K1.at (Xp.new (Nat.le_refl _) (af Dr.out)) Dr.out
    have jv:=ab H1.hb
    have jw:=ab (aF bI).1
    have nX:=ab (aF bI).2
    replace bI:=ab bI
    replace H1:=ab H1
    go_wp2_with fail
    refine hK.out _ _ (⟨jv.out,jw.out,nX.out⟩) (fun aX=>?_)
    try simp only [aS,aN,aT,a0,a1]
    refine bJ (i:=14) (by kernel_rfl) rfl fun K hK=>?_
    go_simp
    go_at_call 211
    refine (H1.out.useY (Bl.refl _) HG.out).mono ?_
    rintro e w3 ⟨rfl,H2,K2⟩
    have rT:=K2.at (Xp.old (Xp.new (Nat.le_refl _) (af Dr.out))) bI.out
    have TC:=ab H2.hb
    have TD:=ab (aF rT).1
    have TE:=ab (aF rT).2
    replace rT:=ab rT
    replace H2:=ab H2
    go_wp2_with fail
    refine hK.out _ _ (⟨TC.out,TD.out,TE.out⟩) (fun dg=>?_)
    try simp only [aS,aN,aT,a0,a1]
    refine bJ (i:=15) (by kernel_rfl) rfl fun K hK=>?_
    go_simp
    go_at_call 97
    refine (H2.out.useY (Bl.refl _) HP.out).mono ?_
    rintro e w4 ⟨rfl,HX,KX⟩
    exact ⟨rfl,HE.out _ HX.x⟩
end
section
open Go.Maps (Keyed has)
section
variable (X:Nat->Prop) (wx w0:World) (g:Mg) (h:Hp) (qs:List Nat) (a:Mc) (c:aH) (ia ib ic ii:Int) (args:List Int) (Q:Option Addr) (nl q:Nat) (w:World)
theorem xN (H:RX 1 X wx w0 g w h qs a c) (hs:h.stops=false) (hl:c.stk.length≤1000) (F:Fix w0 g h) (iz:h.objs.length≤100) (hst:∀v∈c.stk,v.kind=3->-1≤v.n/\v.n<h.objs.length) :
  Calls Tryz.prog 163 #[.pointer (some ⟨a.q,0,none⟩),.agg #[int i64 18,int i64 ia,int i64 ib,int i64 ic,int i64 ii,.slice Q nl q]] w fun e w'=>bS X wx w0 g qs a c (aM h c ⟨18,ia,ib,ic,ii,args⟩) e w':=by
 have ho:=a8 hs
 have HH:=ab H
 have HS:=ab hs
 have HB:Hid (Bl w (w.alloc (.cells #[int i64 18,int i64 ia,int i64 ib,int i64 ic,int i64 ii,.slice Q nl q] 55))):=(Bl.refl w).alloc _
 have HL:=ab (aD w #[int i64 18,int i64 ia,int i64 ib,int i64 ic,int i64 ii,.slice Q nl q] 55)
 have z0:=ab ((H.y.bl HB.out).hb)
 have z1:=ab (aF HL.out).1
 have bad:(c.stk=[]∨∃l v,c.stk=l++[v]/\v.kind≠3)->Calls Tryz.prog 163 #[.pointer (some ⟨a.q,0,none⟩),.agg #[int i64 18,int i64 ia,int i64 ib,int i64 ic,int i64 ii,.slice Q nl q]] w fun e w'=>bS X wx w0 g qs a c ⟨h.fin 6,c,0⟩ e w':=fun hn=>by
  have HN:=ab hn
  clear H hs hn F hst
  go_enter Tryz.func163,Tryz.ntmps163
  go_wp2
  refine wp_region_held_drew (S:=fun w'=>w'.cell? ⟨a.q,0,none⟩=some (.pointer (some ⟨g.hb,0,none⟩))/\w'.cell? ⟨w.heap.size,1,none⟩=some (int i64 ia)) (by kernel_rfl) ?_ (fun ae=>?_)
  ·exact ⟨z0.out,z1.out⟩
  iterate 8 (refine tn rfl rfl rfl (by kernel_rfl) (fun _ _ _ h=>h) (by rfl) (by intro _ h;(try dsimp only at h);go_split_ands;go_simp<;>with_reducible rfl) ae ?_;try simp only [aS,aN,aT,a0,a1])
  refine bJ (i:=6) (by kernel_rfl) rfl fun K hK=>?_
  go_simp
  go_at_call 91
  refine (HH.out.y.useN HB.out.drew (fun X wx w H=>dj 1 X wx w0 g h qs a c 3 w H HN.out)).mono ?_
  rintro e w1 ⟨rfl,H1⟩
  exact ⟨rfl,cX (s:=0) (a8 HS.out) rfl H1.less⟩
 have hd:aM h c ⟨18,ia,ib,ic,ii,args⟩=bZ h c ⟨18,ia,ib,ic,ii,args⟩:=rfl
 have em:aJ 18=1:=by decide
 rw [hd]
 unfold bZ
 dsimp only
 rw [em]
 rcases gD (c:=c) with h0|⟨l,v,h0⟩
 ·rw [cY (fF h0),fy (kn ho 6).1,if_pos (aY hs 6)]
  exact (bad (Or.inl h0)).mono fun e w' q=>dw (d:=⟨h.fin 6,c,0⟩) rfl (aY hs 6) q
 obtain ⟨h1,h2,h4⟩:=fG h0
 rw [dJ h1,h2,h4]
 generalize nth ag (c.top 1) 1=y
 by_cases hk:v.kind=3
 ·have kV:=hst v (by rw [h0];simp) hk
  have hi:isRef v=true:=decide_eq_true hk
  have hm:h.mustB (isRef v)=true:=by unfold Hp.mustB;rw [hi,ho];rfl
  have eg:givesH h v y ⟨18,ia,ib,ic,ii,args⟩=h:=by
   unfold givesH
   rw [if_neg (by rw [ho];decide)]
   simp [Hp.must,hi]
  obtain ⟨Z,hZ⟩:∃Z,(decide (0≤v.n)&&gj h.file.classes (h.obj v.n).cls ia)=Z:=⟨_,rfl⟩
  have ev:aG h v y ⟨18,ia,ib,ic,ii,args⟩=⟨1,if Z=true then 1 else 0⟩:=by
   unfold aG
   rw [if_neg (by rw [ho];decide)]
   simp only [show ¬((18:Int)=1) by decide,show ¬((18:Int)=2) by decide,show ¬((18:Int)=3) by decide,show ¬((18:Int)=6) by decide,show ¬((18:Int)=7) by decide,show ¬((18:Int)=8) by decide,show ¬((18:Int)=9) by decide,show ¬((18:Int)=10) by decide,show ¬((18:Int)=14) by decide,show ¬((18:Int)=15) by decide,show ¬((18:Int)=17) by decide,if_false,if_true]
   unfold Hp.isV
   rw [hm,Bool.true_and,hZ]
  rw [eg,ev,if_neg (by rw [hs];decide)]
  have HT:Hid (∀X wx w,RX 1 X wx w0 g w h qs a c->Calls Tryz.prog 91 #[.pointer (some ⟨a.q,0,none⟩),int i64 3] w fun e w'=>e=.returned (cn (im v))/\RX 1 X wx w0 g w' h qs a { c with stk:=l }):=fun X wx w H=>cy 1 X wx w0 g h qs a c l v 3 w H h0 hk
  have HM:Hid (Fix w0 g h/\h.objs.length≤100):=⟨F,iz⟩
  have xK:Hid (∀w,oW w g h->Calls Tryz.prog 164 #[.pointer (some ⟨g.hb,0,none⟩),cn (im v),int i64 ia] w fun e w'=>e=.returned (.bool Z)/\Bl w w'):=fun w R=>hZ▸qj g h v ia w R hk kV.1 kV.2
  obtain ⟨N,hN⟩:∃N:Int,(if Z=true then 1 else 0)=N:=⟨_,rfl⟩
  rw [hN]
  have Vy:Hid (∀w,Calls Tryz.prog 212 #[.bool Z] w fun e w'=>e=.returned (cn ⟨1,N⟩)/\Bl w w'):=fun w=>hN▸Bt Z w
  obtain ⟨E,hE⟩:∃E,(if (aP (({ c with stk:=l }).stk++[(⟨1,N⟩:Va)]):Int)≤({ c with stk:=l }).m.stack then Ending.returned (.tuple #[]) else aV 6 0 0)=E:=⟨_,rfl⟩
  have HP:Hid (∀X wx w,RX 1 X wx w0 g w h qs a ({ c with stk:=l })->Calls Tryz.prog 97 #[.pointer (some ⟨a.q,0,none⟩),cn (im (⟨1,N⟩:Va))] w fun e w2=>e=E/\RX 1 X wx w0 g w2 h qs a (({ c with stk:=l }).put (⟨1,N⟩:Va))):=fun X wx w H=>hE▸cN 1 X wx w0 g h qs a ({ c with stk:=l }) (⟨1,N⟩:Va) w H (show (1:Int)≤1/\(1:Int)≤3 from by decide) (by have e:c.stk.length=l.length+1:=(by rw [h0];simp);show l.length≤1000;omega)
  have HE:Hid (∀w',RX 1 X wx w0 g w' h qs a (({ c with stk:=l }).put (⟨1,N⟩:Va))->bS X wx w0 g qs a c ⟨(h).putH ({ c with stk:=l }) (⟨1,N⟩:Va),({ c with stk:=l }).put (⟨1,N⟩:Va),c.pc+1⟩ E w'):=fun w' H=>eO hs rfl ⟨rfl,rfl⟩ hE.symm H.less
  have nS:E=.returned (.tuple #[])∨E=aV 6 0 0:=by rw [<-hE];split;exact Or.inl rfl;exact Or.inr rfl
  clear hE
  have xe:Hid (im (⟨1,N⟩:Va)=⟨1,N⟩):=eJ (show (1:Int)≠3 by decide)
  rw [xe.out] at HP
  generalize im v=V at HT xK
  clear H hs hd bad em h0 h1 h2 h4 eg ev hi hm F hst kV hk hZ hN
  rcases nS with rfl|rfl
  ·go_enter Tryz.func163,Tryz.ntmps163
   go_wp2
   refine wp_region_held_drew (S:=fun w'=>w'.cell? ⟨a.q,0,none⟩=some (.pointer (some ⟨g.hb,0,none⟩))/\w'.cell? ⟨w.heap.size,1,none⟩=some (int i64 ia)) (by kernel_rfl) ?_ (fun ae=>?_)
   ·exact ⟨z0.out,z1.out⟩
   iterate 8 (refine tn rfl rfl rfl (by kernel_rfl) (fun _ _ _ h=>h) (by rfl) (by intro _ h;(try dsimp only at h);go_split_ands;go_simp<;>with_reducible rfl) ae ?_;try simp only [aS,aN,aT,a0,a1])
   refine bJ (i:=6) (by kernel_rfl) rfl fun K hK=>?_
   go_simp
   go_at_call 91
   refine (HH.out.y.useY HB.out.drew HT.out).mono ?_
   rintro e w1 ⟨rfl,H1,K1⟩
   have bI:=K1.at (Xp.new (Nat.le_refl _) (cW w _)) HL.out
   have jv:=ab H1.hb
   have jw:=ab (aF bI).1
   replace bI:=ab bI
   replace H1:=ab H1
   go_wp2_with fail
   refine hK.out _ _ (⟨jv.out,jw.out⟩) (fun ah=>?_)
   try simp only [aS,aN,aT,a0,a1]
   refine bJ (i:=9) (by kernel_rfl) rfl fun K hK=>?_
   go_simp
   go_at_call 164
   refine (xK.out _ (H1.out.x.rd HM.out.1 HM.out.2)).mono ?_
   rintro e w2 ⟨rfl,b2⟩
   have e0:=ab (b2.cell ah.1)
   have e1:=ab (b2.cell ah.2)
   have Oc:=ab (ai b2 bI.out)
   replace b2:=ab b2
   go_wp2_with fail
   refine hK.out _ _ (⟨e0.out,e1.out⟩) (fun aX=>?_)
   try simp only [aS,aN,aT,a0,a1]
   refine bJ (i:=10) (by kernel_rfl) rfl fun K hK=>?_
   go_simp
   go_at_call 212
   refine (Vy.out _).mono ?_
   rintro e w3 ⟨rfl,b3⟩
   have f0:=ab (b3.cell aX.1)
   have f1:=ab (b3.cell aX.2)
   have Vz:=ab (ai b3 Oc.out)
   replace b3:=ab b3
   go_wp2_with fail
   refine hK.out _ _ (⟨f0.out,f1.out⟩) (fun dg=>?_)
   try simp only [aS,aN,aT,a0,a1]
   refine bJ (i:=11) (by kernel_rfl) rfl fun K hK=>?_
   go_simp
   go_at_call 97
   refine (H1.out.useY (b2.out.trans b3.out) HP.out).mono ?_
   rintro e w4 ⟨rfl,HX,KX⟩
   have LJ:=KX.at (Xp.old (Xp.new (Nat.le_refl _) (cW w _))) Vz.out
   have Xa:=ab HX.hb
   have Xb:=ab (aF LJ).1
   replace HX:=ab HX
   go_wp2_with fail
   refine hK.out _ _ (⟨Xa.out,Xb.out⟩) (fun dk=>?_)
   try simp only [aS,aN,aT,a0,a1]
   refine wpAnyH_done (by kernel_rfl) ?_ _
   go_wp2
   go_end0
   exact HE.out _ HX.out.x
  ·go_enter Tryz.func163,Tryz.ntmps163
   go_wp2
   refine wp_region_held_drew (S:=fun w'=>w'.cell? ⟨a.q,0,none⟩=some (.pointer (some ⟨g.hb,0,none⟩))/\w'.cell? ⟨w.heap.size,1,none⟩=some (int i64 ia)) (by kernel_rfl) ?_ (fun ae=>?_)
   ·exact ⟨z0.out,z1.out⟩
   iterate 8 (refine tn rfl rfl rfl (by kernel_rfl) (fun _ _ _ h=>h) (by rfl) (by intro _ h;(try dsimp only at h);go_split_ands;go_simp<;>with_reducible rfl) ae ?_;try simp only [aS,aN,aT,a0,a1])
   refine bJ (i:=6) (by kernel_rfl) rfl fun K hK=>?_
   go_simp
   go_at_call 91
   refine (HH.out.y.useY HB.out.drew HT.out).mono ?_
   rintro e w1 ⟨rfl,H1,K1⟩
   have bI:=K1.at (Xp.new (Nat.le_refl _) (cW w _)) HL.out
   have jv:=ab H1.hb
   have jw:=ab (aF bI).1
   replace bI:=ab bI
   replace H1:=ab H1
   go_wp2_with fail
   refine hK.out _ _ (⟨jv.out,jw.out⟩) (fun ah=>?_)
   try simp only [aS,aN,aT,a0,a1]
   refine bJ (i:=9) (by kernel_rfl) rfl fun K hK=>?_
   go_simp
   go_at_call 164
   refine (xK.out _ (H1.out.x.rd HM.out.1 HM.out.2)).mono ?_
   rintro e w2 ⟨rfl,b2⟩
   have e0:=ab (b2.cell ah.1)
   have e1:=ab (b2.cell ah.2)
   have Oc:=ab (ai b2 bI.out)
   replace b2:=ab b2
   go_wp2_with fail
   refine hK.out _ _ (⟨e0.out,e1.out⟩) (fun aX=>?_)
   try simp only [aS,aN,aT,a0,a1]
   refine bJ (i:=10) (by kernel_rfl) rfl fun K hK=>?_
   go_simp
   go_at_call 212
   refine (Vy.out _).mono ?_
   rintro e w3 ⟨rfl,b3⟩
   have f0:=ab (b3.cell aX.1)
   have f1:=ab (b3.cell aX.2)
   have Vz:=ab (ai b3 Oc.out)
   replace b3:=ab b3
   go_wp2_with fail
   refine hK.out _ _ (⟨f0.out,f1.out⟩) (fun dg=>?_)
   try simp only [aS,aN,aT,a0,a1]
   refine bJ (i:=11) (by kernel_rfl) rfl fun K hK=>?_
   go_simp
   go_at_call 97
   refine (H1.out.useY (b2.out.trans b3.out) HP.out).mono ?_
   rintro e xH ⟨rfl,HX,KX⟩
   exact ⟨rfl,HE.out _ HX.x⟩
 ·have eg:givesH h v y ⟨18,ia,ib,ic,ii,args⟩=h.fin 6:=by
   have hi:isRef v=false:=decide_eq_false hk
   have hm:h.mustB (isRef v)=false:=by unfold Hp.mustB;rw [hi];rfl
   unfold givesH
   rw [if_neg (by rw [ho];decide)]
   simp [Hp.cast,Hp.must,hm,hi]
   try (intro q;rw [hi] at hm;simp [hm] at q)
  rw [eg,if_pos (aY hs 6)]
  exact (bad (Or.inr ⟨l,v,h0,hk⟩)).mono fun e w' q=>dw (d:=⟨h.fin 6,c,0⟩) rfl (aY hs 6) q
theorem xO (H:RX 1 X wx w0 g w h qs a c) (hs:h.stops=false) (hl:c.stk.length≤1000) (F:Fix w0 g h) (iz:h.objs.length≤100) (hst:∀v∈c.stk,v.kind=3->-1≤v.n/\v.n<h.objs.length) :
  Calls Tryz.prog 163 #[.pointer (some ⟨a.q,0,none⟩),.agg #[int i64 21,int i64 ia,int i64 ib,int i64 ic,int i64 ii,.slice Q nl q]] w fun e w'=>bS X wx w0 g qs a c (aM h c ⟨21,ia,ib,ic,ii,args⟩) e w':=by
 have ho:=a8 hs
 have HH:=ab H
 have HS:=ab hs
 have HB:Hid (Bl w (w.alloc (.cells #[int i64 21,int i64 ia,int i64 ib,int i64 ic,int i64 ii,.slice Q nl q] 55))):=(Bl.refl w).alloc _
 have HL:=ab (aD w #[int i64 21,int i64 ia,int i64 ib,int i64 ic,int i64 ii,.slice Q nl q] 55)
 have z0:=ab ((H.y.bl HB.out).hb)
 have z1:=ab (aF HL.out).1
 have bad:(c.stk=[]∨∃l v,c.stk=l++[v]/\v.kind≠3)->Calls Tryz.prog 163 #[.pointer (some ⟨a.q,0,none⟩),.agg #[int i64 21,int i64 ia,int i64 ib,int i64 ic,int i64 ii,.slice Q nl q]] w fun e w'=>bS X wx w0 g qs a c ⟨h.fin 6,c,0⟩ e w':=fun hn=>by
  have HN:=ab hn
  clear H hs hn F hst
  go_enter Tryz.func163,Tryz.ntmps163
  go_wp2
  refine wp_region_held_drew (S:=fun w'=>w'.cell? ⟨a.q,0,none⟩=some (.pointer (some ⟨g.hb,0,none⟩))/\w'.cell? ⟨w.heap.size,1,none⟩=some (int i64 ia)) (by kernel_rfl) ?_ (fun ae=>?_)
  ·exact ⟨z0.out,z1.out⟩
  iterate 5 (refine tn rfl rfl rfl (by kernel_rfl) (fun _ _ _ h=>h) (by rfl) (by intro _ h;(try dsimp only at h);go_split_ands;go_simp<;>with_reducible rfl) ae ?_;try simp only [aS,aN,aT,a0,a1])
  refine bJ (i:=5) (by kernel_rfl) rfl fun K hK=>?_
  go_simp
  go_at_call 91
  refine (HH.out.y.useN HB.out.drew (fun X wx w H=>dj 1 X wx w0 g h qs a c 3 w H HN.out)).mono ?_
  rintro e w1 ⟨rfl,H1⟩
  exact ⟨rfl,cX (s:=0) (a8 HS.out) rfl H1.less⟩
 have hd:aM h c ⟨21,ia,ib,ic,ii,args⟩=vL h c ⟨21,ia,ib,ic,ii,args⟩:=rfl
 rw [hd]
 unfold vL
 dsimp only
 rcases gD (c:=c) with h0|⟨l,v,h0⟩
 ·rw [cY (fF h0),if_pos (kn ho 6).1]
  exact (bad (Or.inl h0)).mono fun e w' q=>dw (d:=⟨h.fin 6,c,0⟩) rfl (aY hs 6) q
 obtain ⟨h1,h2,h4⟩:=fG h0
 rw [dJ h1,h2,h4,if_neg (by rw [ho];decide)]
 unfold Hp.throw
 by_cases hk:v.kind=3
 ·have kV:=hst v (by rw [h0];simp) hk
  have hi:isRef v=true:=decide_eq_true hk
  have hm:h.mustB (isRef v)=true:=by unfold Hp.mustB;rw [hi,ho];rfl
  rw [if_pos hm]
  have HT:Hid (∀X wx w,RX 1 X wx w0 g w h qs a c->Calls Tryz.prog 91 #[.pointer (some ⟨a.q,0,none⟩),int i64 3] w fun e w'=>e=.returned (cn (im v))/\RX 1 X wx w0 g w' h qs a { c with stk:=l }):=fun X wx w H=>cy 1 X wx w0 g h qs a c l v 3 w H h0 hk
  by_cases hn:v.n<0
  ·rw [if_pos hn]
   obtain ⟨E,hE⟩:∃E,bL h=E:=⟨_,rfl⟩
   have IZ:Hid (∃ch,E=.panicked ch):=by
    rw [<-hE];unfold bL;split<;>exact ⟨_,rfl⟩
   have xK:Hid (∀X wx w,RX 1 X wx w0 g w h qs a { c with stk:=l }->Calls Tryz.prog 166 #[.pointer (some ⟨g.hb,0,none⟩),cn (im v)] w fun e w'=>e=E/\RX 1 X wx w0 g w' (h.raise 1) qs a { c with stk:=l }):=fun X wx w H=>hE▸yv 1 X wx w0 g h qs a { c with stk:=l } v w H iz ho hk (by omega)
   have HD:Hid (∀w',RS 0 X wx w0 g w' (h.raise 1) qs a c->bS X wx w0 g qs a c ⟨h.raise 1,{ c with stk:=l },c.pc+1⟩ E w'):=fun w' H=>hE▸iu hs rfl H
   generalize im v=V at HT xK
   clear H hs hd bad h0 h1 h2 h4 hi hm F hst kV hk hE hn
   obtain ⟨ch,rfl⟩:=IZ.out
   go_enter Tryz.func163,Tryz.ntmps163
   go_wp2
   refine wp_region_held_drew (S:=fun w'=>w'.cell? ⟨a.q,0,none⟩=some (.pointer (some ⟨g.hb,0,none⟩))/\w'.cell? ⟨w.heap.size,1,none⟩=some (int i64 ia)) (by kernel_rfl) ?_ (fun ae=>?_)
   ·exact ⟨z0.out,z1.out⟩
   iterate 5 (refine tn rfl rfl rfl (by kernel_rfl) (fun _ _ _ h=>h) (by rfl) (by intro _ h;(try dsimp only at h);go_split_ands;go_simp<;>with_reducible rfl) ae ?_;try simp only [aS,aN,aT,a0,a1])
   refine bJ (i:=5) (by kernel_rfl) rfl fun K hK=>?_
   go_simp
   go_at_call 91
   refine (HH.out.y.useY HB.out.drew HT.out).mono ?_
   rintro e w1 ⟨rfl,H1,K1⟩
   have bI:=K1.at (Xp.new (Nat.le_refl _) (cW w _)) HL.out
   have jv:=ab H1.hb
   have jw:=ab (aF bI).1
   replace bI:=ab bI
   replace H1:=ab H1
   go_wp2_with fail
   refine hK.out _ _ (⟨jv.out,jw.out⟩) (fun ah=>?_)
   try simp only [aS,aN,aT,a0,a1]
   refine bJ (i:=6) (by kernel_rfl) rfl fun K hK=>?_
   go_simp
   go_at_call 166
   refine (H1.out.useY (Bl.refl _) xK.out).mono ?_
   rintro e w2 ⟨rfl,H2,K2⟩
   exact ⟨rfl,HD.out _ (H2.x.less.rs.of rfl ⟨rfl,rfl⟩)⟩
  ·rw [if_neg hn]
   have xK:Hid (∀w,Calls Tryz.prog 166 #[.pointer (some ⟨g.hb,0,none⟩),cn (im v)] w fun e w'=>e=wv v.n/\Bl w w'):=fun w=>mJ g.hb v hk (by omega) w
   have HD:Hid (∀w',RS 0 X wx w0 g w' h qs a c->bS X wx w0 g qs a c ⟨{ h with thrown:=v.n },{ c with stk:=l },c.pc+1⟩ (wv v.n) w'):=fun w' H=>by
    have Rk:0≤v.n:=by omega
    refine ⟨?_,fun _=>H.eqv ⟨rfl,rfl,rfl,rfl,rfl,rfl,rfl⟩,fun q=>?_⟩
    ·unfold iR;dsimp only;rw [if_neg (by rw [ho];decide),if_pos Rk]
    ·simp [Hp.stops] at q;omega
   generalize v.n=VN at xK HD
   generalize im v=V at HT xK
   clear H hs hd bad h0 h1 h2 h4 hi hm F hst kV hk
   go_enter Tryz.func163,Tryz.ntmps163
   go_wp2
   refine wp_region_held_drew (S:=fun w'=>w'.cell? ⟨a.q,0,none⟩=some (.pointer (some ⟨g.hb,0,none⟩))/\w'.cell? ⟨w.heap.size,1,none⟩=some (int i64 ia)) (by kernel_rfl) ?_ (fun ae=>?_)
   ·exact ⟨z0.out,z1.out⟩
   iterate 5 (refine tn rfl rfl rfl (by kernel_rfl) (fun _ _ _ h=>h) (by rfl) (by intro _ h;(try dsimp only at h);go_split_ands;go_simp<;>with_reducible rfl) ae ?_;try simp only [aS,aN,aT,a0,a1])
   refine bJ (i:=5) (by kernel_rfl) rfl fun K hK=>?_
   go_simp
   go_at_call 91
   refine (HH.out.y.useY HB.out.drew HT.out).mono ?_
   rintro e w1 ⟨rfl,H1,K1⟩
   have bI:=K1.at (Xp.new (Nat.le_refl _) (cW w _)) HL.out
   have jv:=ab H1.hb
   have jw:=ab (aF bI).1
   replace bI:=ab bI
   replace H1:=ab H1
   go_wp2_with fail
   refine hK.out _ _ (⟨jv.out,jw.out⟩) (fun ah=>?_)
   try simp only [aS,aN,aT,a0,a1]
   refine bJ (i:=6) (by kernel_rfl) rfl fun K hK=>?_
   go_simp
   go_at_call 166
   refine (xK.out _).mono ?_
   rintro e w2 ⟨rfl,b2⟩
   exact ⟨rfl,HD.out _ ((H1.out.bl b2).rs.less.of rfl ⟨rfl,rfl⟩)⟩
 ·have hi:isRef v=false:=decide_eq_false hk
  have hm:h.mustB (isRef v)=false:=by unfold Hp.mustB;rw [hi];rfl
  rw [if_neg (by rw [hm];decide),cY hi]
  exact (bad (Or.inr ⟨l,v,h0,hk⟩)).mono fun e w' q=>dw (d:=⟨h.fin 6,c,0⟩) rfl (aY hs 6) q
end
end
theorem GX {a b n:Int} (h:0≤a/\a<n/\(b=2->a+1<n)/\b≠0):0≤a/\a<n/\(b=2->a+1<n):=⟨h.1,h.2.1,h.2.2.1⟩
theorem P3 {cs:List Cl} {nm iG:Nat} {locs:Int} {i:In} (h:bD cs nm iG locs i=true) (e:i.op=24):i.a≠3:=by
 obtain ⟨op,a,b,c,n,args⟩:=i
 dsimp only at e
 subst e
 unfold bD at h
 simp at h
 show a≠3
 omega
theorem Df (X:Nat->Prop) (wx w0:World) (g:Mg) (h:Hp) (qs:List Nat) (a:Mc) (c:aH) (i:In) (Q:Option Addr) (nl q:Nat) (w:World) (H:RX 1 X wx w0 g w h qs a c) (hs:h.stops=false) (gh:Gh 1 h) (gc:Gc h c) (F:Fix w0 g h) (Gi:h.input.length≤1000000) (ok:vU h.file.classes h.file.methods.length c.m.code.length c.locs.length i) (L4:i.op=24->i.a≠3) (Zy:i.op≠11) (Zz:i.op≠12) (ZA:i.op≠13) (TF:i.op≠19) (TG:i.op≠20) :
  Calls Tryz.prog 96 #[.pointer (some ⟨a.q,0,none⟩),.agg #[int i64 i.op,int i64 i.a,int i64 i.b,int i64 i.c,int i64 i.n,.slice Q nl q]] w fun e w'=>bS X wx w0 g qs a c (aM h c i) e w':=by
 have hl:c.stk.length≤1000:=by have:=gc.short;omega
 have iz:=gh.len
 have hst:∀v∈c.stk,v.kind=3->-1≤v.n/\v.n<h.objs.length:=fun v hv e=>(gc.stk v hv).ref e
 have Oh:h.sh.steps≤100000:=by have:=gh.steps;have:=gh.fuel;omega
 have vW:h.sh.out.length≤100000:=by have:=gh.out;have:=gh.steps;have:=gh.fuel;omega
 obtain ⟨op,ia,ib,ic,ii,args⟩:=i
 dsimp only at *
 have hop:=ok.op
 dsimp only at hop
 have:op=1∨op=2∨op=3∨op=4∨op=5∨op=6∨op=7∨op=8∨op=9∨op=10∨op=14∨op=15∨op=16∨op=17∨op=18∨op=21∨op=22∨op=23∨op=24∨op=25:=by omega
 rcases this with rfl|rfl|rfl|rfl|rfl|rfl|rfl|rfl|rfl|rfl|rfl|rfl|rfl|rfl|rfl|rfl|rfl|rfl|rfl|rfl
 ·exact Ge X wx w0 g h qs a c ia ib ic ii args Q nl q w H hs hl
 ·exact Gf X wx w0 g h qs a c ia ib ic ii args Q nl q w H hs hl
 ·exact Gg X wx w0 g h qs a c ia ib ic ii args Q nl q w H hs hl
 ·exact Gj X wx w0 g h qs a c ia ib ic ii args Q nl q w H hs hl (GX (ok.slot (Or.inl rfl))) (ok.kind (Or.inl rfl))
 ·exact Gp X wx w0 g h qs a c ia ib ic ii args Q nl q w H hs hl (GX (ok.slot (Or.inr rfl))) (ok.kind (Or.inr rfl))
 ·exact Gk X wx w0 g h qs a c ia ib ic ii args Q nl q w H hs hl iz
 ·exact Gl X wx w0 g h qs a c ia ib ic ii args Q nl q w H hs hl iz
 ·exact Gm X wx w0 g h qs a c ia ib ic ii args Q nl q w H hs hl
 ·exact Gn X wx w0 g h qs a c ia ib ic ii args Q nl q w H hs hl
 ·exact CN X wx w0 g h qs a c ia ib ic ii args Q nl q w H hs hl iz
 ·exact xl X wx w0 g qs a c ia ib ic ii Q nl q _ w (fun w=>RX 1 X wx w0 g w h qs a c) H (fun w' hb=>H.bl hb) (fun w H=>xI X wx w0 g h qs a c ia ib ic ii args Q nl q w H hs hl iz)
 ·exact xm X wx w0 g qs a c ia ib ic ii Q nl q _ w (fun w=>RX 1 X wx w0 g w h qs a c) H (fun w' hb=>H.bl hb) (fun w H=>xM X wx w0 g h qs a c ia ib ic ii args Q nl q w H hs hl F iz hst (ok.fld (Or.inl rfl)))
 ·exact xp X wx w0 g qs a c ia ib ic ii Q nl q _ w (fun w=>RX 1 X wx w0 g w h qs a c) H (fun w' hb=>H.bl hb) (fun w H=>xL X wx w0 g h qs a c ia ib ic ii args Q nl q w H hs hl F iz hst (ok.fld (Or.inr rfl)) Oh)
 ·exact xq X wx w0 g qs a c ia ib ic ii Q nl q _ w (fun w=>RX 1 X wx w0 g w h qs a c) H (fun w' hb=>H.bl hb) (fun w H=>xJ X wx w0 g h qs a c ia ib ic ii args Q nl q w H hs hl F iz hst)
 ·exact xr X wx w0 g qs a c ia ib ic ii Q nl q _ w (fun w=>RX 1 X wx w0 g w h qs a c) H (fun w' hb=>H.bl hb) (fun w H=>xN X wx w0 g h qs a c ia ib ic ii args Q nl q w H hs hl F iz hst)
 ·exact xt X wx w0 g qs a c ia ib ic ii Q nl q _ w (fun w=>RX 1 X wx w0 g w h qs a c) H (fun w' hb=>H.bl hb) (fun w H=>xO X wx w0 g h qs a c ia ib ic ii args Q nl q w H hs hl F iz hst)
 ·exact CK X wx w0 g h qs a c ia ib ic ii args Q nl q w H hs hl
 ·exact CO X wx w0 g h qs a c ia ib ic ii args Q nl q w H hs hl
 ·exact CP X wx w0 g h qs a c ia ib ic ii args Q nl q w H hs hl (L4 rfl) vW
 ·exact CM X wx w0 g h qs a c ia ib ic ii args Q nl q w H hs hl F.inp gh.used Gi
theorem oD (l:List Va):l=[]∨∃(l':List Va) (v:Va),l=l'++[v]:=by
 rcases List.eq_nil_or_concat l with h|⟨l',v,h⟩
 ·exact Or.inl h
 ·exact Or.inr ⟨l',v,by simpa using h⟩
theorem Kw (X:Nat->Prop) (wx w0:World) (g:Mg) (h:Hp) (qs:List Nat) (a:Mc) (c:aH) (i:In) (oQ:nth fX c.m.code c.pc.toNat=i) (hp:0≤c.pc/\c.pc<c.m.code.length) (w:World) (H:RX 1 X wx w0 g w h qs a c) (ho:h.over=false) (ht:h.thrown=-1) (gh:Gh 1 h) (gc:Gc h c) (F:Fix w0 g h) (Gi:h.input.length≤1000000) (TF:i.op≠19) (TG:i.op≠20):P2 w a.q fun e w'=>rS X wx w0 g qs a c (aM h c i) e w':=by
 have hs:h.stops=false:=by unfold Hp.stops;rw [ho,ht];rfl
 obtain ⟨ok,Bd⟩:=lX gc hp
 have P4:=(jh gc.me).2.2.2.2.2.2.2.1 _ (bE (d:=fX) (i:=c.pc.toNat) (by omega))
 obtain ⟨cb,co,Q,q,A⟩:=H.ati hp
 rw [oQ] at ok Bd A P4
 have m1:∀b,h.must b=if b=true then h else h.fin 6:=fun b=>rfl
 have mb:∀b,h.mustB b=b:=fun b=>by unfold Hp.mustB;rw [ho];simp
 have ff:∀b,(h.fin 6).must b=h.fin 6:=fun b=>by
  have e:h.fin 6={ h with over:=true,sh:={ h.sh with fin:=6 } }:=by unfold Hp.fin;rw [if_neg (by rw [ho];decide)]
  unfold Hp.must
  split
  ·rfl
  ·rw [e];unfold Hp.fin;rw [if_pos rfl]
 obtain ⟨op,ia,ib,ic,ii,args⟩:=i
 by_cases G8:op=11
 ·exact Kh X wx w0 g h qs a c w H hs op ia ib ic ii args cb co Q q _ A G8
 by_cases pN:op=12
 ·subst pN
  have hd:aM h c ⟨12,ia,ib,ic,ii,args⟩=DF h c ⟨12,ia,ib,ic,ii,args⟩:=rfl
  rw [hd]
  rcases oD c.stk with e|⟨l,v,e⟩
  ·refine xw X wx w0 g h qs a c w H hs 12 ia ib ic ii args cb co Q q _ A rfl _ ?_ (Or.inl e)
   unfold DF;dsimp only;rw [fF e,m1,if_neg (by decide),ff]
  ·obtain ⟨b1,b2,b3⟩:=fG e
   by_cases hk:v.kind=1
   ·have eh:(DF h c ⟨12,ia,ib,ic,ii,args⟩).h=h:=by unfold DF;dsimp only;rw [b1,b2];simp [m1,hk]
    cases hb:jb ib v.n with
    | true =>
     refine Gt X wx w0 g h qs a c w H hs 12 ia ib ic ii args cb co Q q _ A rfl _ l v e hk hb eh ?_
     unfold DF;dsimp only;rw [b1,b2,b3];simp [m1,mb,hk,hb]
    | false =>
     refine Gv X wx w0 g h qs a c w H hs 12 ia ib ic ii args cb co Q q _ A rfl _ l v e hk hb eh ?_
     unfold DF;dsimp only;rw [b1,b2,b3];simp [m1,mb,hk,hb]
   ·refine xw X wx w0 g h qs a c w H hs 12 ia ib ic ii args cb co Q q _ A rfl _ ?_ (Or.inr ⟨l,v,e,hk⟩)
    unfold DF;dsimp only;rw [b1,b2];simp [m1,hk]
 by_cases Nd:op=13
 ·subst Nd
  have hd:aM h c ⟨13,ia,ib,ic,ii,args⟩=pS h c ⟨13,ia,ib,ic,ii,args⟩:=rfl
  rw [hd]
  rcases oD c.stk with e|⟨l,v,e⟩
  ·refine nT X wx w0 g h qs a c w H hs 13 ia ib ic ii args cb co Q q _ A rfl _ ?_ (Or.inl e)
   unfold pS;dsimp only;rw [fF e,m1,if_neg (by decide),ff]
  ·obtain ⟨b1,b2,b3⟩:=fG e
   by_cases hk:v.kind=3
   ·have hr:isRef v=true:=by unfold isRef;simpa using hk
    have eh:(pS h c ⟨13,ia,ib,ic,ii,args⟩).h=h:=by unfold pS;dsimp only;rw [b1,b2];simp [m1,hr]
    have hv:=(gc.stk v (by rw [e];simp)).ref hk
    by_cases hn:v.n<0
    ·refine tP X wx w0 g h qs a c w H hs 13 ia ib ic ii args cb co Q q _ A rfl _ l v e hk (l4 hk (by omega)) eh ?_
     unfold pS;dsimp only;rw [b1,b2,b3];simp [m1,mb,hr,hn]
    ·refine tQ X wx w0 g h qs a c w H hs 13 ia ib ic ii args cb co Q q _ A rfl _ l v e hk (lx hk (by omega)) eh ?_
     unfold pS;dsimp only;rw [b1,b2,b3];simp [m1,mb,hr,hn]
   ·have hr:isRef v=false:=by unfold isRef;simpa using hk
    refine nT X wx w0 g h qs a c w H hs 13 ia ib ic ii args cb co Q q _ A rfl _ ?_ (Or.inr ⟨l,v,e,hk⟩)
    unfold pS;dsimp only;rw [b1,b2];simp [m1,hr]
 ·exact Kg X wx w0 g h qs a c w H hs op ia ib ic ii args cb co Q q _ A G8 pN Nd TF TG (fun w' hb=>Df X wx w0 g h qs a c ⟨op,ia,ib,ic,ii,args⟩ Q args.length q w' (H.bl hb) hs gh gc F Gi ok (fun e=>P3 P4 e) G8 pN Nd TF TG)
theorem rq {nc:Nat} {t:Ty} (h:m9 nc t=true):0≤t.kind/\t.kind≤3:=by
 unfold m9 fO at h;rw [Bool.or_eq_true,decide_eq_true_eq,decide_eq_true_eq] at h;omega
theorem Ky (f:Fi) (inp:List Int) (w0:World) (g:Mg) (h:Hp) (k:Kl) (L:List Kl) (hf:h.file=f) (hmay:pX f) (jy:f.methods.length≤8) (gh:Gh 1 h) (ho:h.over=false) (ht:h.thrown=-1) (hcl:h.calls=((k::L).length:Int)) (gc:Gc h k.c) (hp:0≤k.c.pc/\k.c.pc≤k.c.m.code.length) (hI:IC h (L.map (·.c))) (F:Fix w0 g h) (Gi:h.input.length≤1000000) :
  Oa w0 g h k L (dT h k.c (L.map (·.c)))∨LI w0 g h k L (dT h k.c (L.map (·.c)))∨Vp w0 g h k L (dT h k.c (L.map (·.c))):=by
 have hlen:L.length≤100:=by have:=gh.calls;rw [hcl] at this;simp at this;omega
 unfold dT
 by_cases hlt:k.c.pc<k.c.m.code.length
 ·rw [if_neg (by simpa using hlt)]
  obtain ⟨ok,Bd⟩:=lX gc ⟨hp.1,hlt⟩
  generalize oQ:nth fX k.c.m.code k.c.pc.toNat=i at *
  by_cases oV:i.op=20
  ·rw [if_pos oV]
   have hop:(nth fX k.c.m.code k.c.pc.toNat).op=20:=by rw [oQ];exact oV
   unfold ym
   by_cases yo:k.c.m.ret.kind=0
   ·rw [if_pos yo]
    exact (AJ w0 g h k L ag k.c hop ⟨hp.1,hlt⟩ hI hlen (Or.inl rfl) (fun X wx w H=>xy 1 X wx w0 g h _ k.a k.c w H yo)).elim Or.inl (fun z=>Or.inr (Or.inl z))
   ·rw [if_neg yo]
    have hno:(k.c.stk=[]∨∃(l:List Va) (v:Va),k.c.stk=l++[v]/\(v.kind=3->-1≤v.n/\v.n<h.objs.length)/\h.of v k.c.m.ret=false)->LI w0 g h k L (gL 6 ag h):=fun hn=>by
     refine ⟨⟨rfl,(by show (6:Int)≠2;decide)⟩,fun Z wx w H=>?_⟩
     obtain ⟨cb,co,Q,q,A⟩:=H.top.ati ⟨hp.1,hlt⟩
     refine (Dc _ _ w0 g h _ k.a k.c w H.top _ _ _ _ _ _ cb co Q q _ A hop (fun X wx w H=>CS 1 X wx w0 g h _ k.a k.c w H F gh.len yo hn)).mono ?_
     rintro e w' ⟨rfl,c',d1,d2,H'⟩
     obtain ⟨g8,l',H2⟩:=H.of H'
     exact ⟨rfl,_,trivial,H2.less⟩
    rcases oD k.c.stk with e|⟨l,v,e⟩
    ·rw [if_pos (fF e)]
     exact Or.inr (Or.inl (hno (Or.inl e)))
    ·obtain ⟨b1,b2,b3⟩:=fG e
     rw [if_neg (by rw [b1];decide),b2]
     have hv:=(gc.stk v (by rw [e];simp)).ref
     by_cases jz:h.of v k.c.m.ret=true
     ·rw [if_pos jz]
      have Rf:1≤v.kind/\v.kind≤3:=by
       have KQ:=(jh gc.me).2.2.2.2.2.2.2.2.2.2
       have:=rq KQ
       unfold Hp.of at jz
       rw [Bool.and_eq_true,decide_eq_true_eq] at jz
       omega
      exact (AJ w0 g h k L v { k.c with stk:=l } hop ⟨hp.1,hlt⟩ hI hlen (Or.inr Rf) (fun X wx w H=>zd 1 X wx w0 g h _ k.a k.c l v w H F gh.len yo e hv jz)).elim Or.inl (fun z=>Or.inr (Or.inl z))
     ·rw [if_neg jz]
      exact Or.inr (Or.inl (hno (Or.inr ⟨l,v,e,hv,by simpa using jz⟩)))
  ·rw [if_neg oV]
   by_cases pn:i.op=19
   ·rw [if_pos pn]
    exact (De w0 g h k L i oQ pn (by have:=ok.call pn;exact this) (hf▸hmay) (by rw [hf];exact jy) gh gc ⟨hp.1,hlt⟩ hI hcl F).elim Or.inl (fun z=>Or.inr (Or.inl z))
   ·rw [if_neg pn]
    exact Ny w0 g h k L i ho ht hI hcl ⟨hp.1,hlt⟩ (j9 gh gc ho ht ok Bd ⟨hp.1,hlt⟩) (fun X wx w H=>Kw X wx w0 g h _ k.a k.c i oQ ⟨hp.1,hlt⟩ w H ho ht gh gc F Gi pn oV)
 ·rw [if_pos hlt]
  exact Or.inr (Or.inl (Nz w0 g h k L ho ht gc hlt))
def TH (f:Fi) (inp:List Int) (n:Nat) (h:Hp) (cs:List aH):Prop:=IM f inp h cs/\cq n h
theorem Kz (f:Fi) (inp:List Int) (w0:World) (g:Mg) (jy:f.methods.length≤8) (Gi:inp.length≤1000000) (hF:∀h:Hp,h.file=f->h.input=inp->Fix w0 g h):GP (TH f inp) w0 g:=by
 rintro n h L ⟨im,en⟩
 obtain ⟨c,cs,e,gc,Hy,vh,hI⟩:=im.ex
 cases L with
 | nil=>cases e
 | cons k L2 =>
  simp only [List.map_cons,List.cons.injEq] at e
  obtain ⟨rfl,rfl⟩:=e
  have hcl:=im.calls
  rw [List.length_map] at hcl
  cases hb:h.stepB with
  | false =>
   have hle:h.fuel≤h.sh.steps:=by unfold Hp.stepB at hb;rw [im.over] at hb;simpa using hb
   refine Or.inr (Or.inl ⟨0,ag,h,?_,by decide,fun Z wx w H=>(C5 0 Z wx w0 g h _ w H hle).mono ?_⟩)
   ·cases n with
    | zero=>rfl
    | succ n=>show (if h.stepB=false then _ else _)=_;rw [if_pos hb]
   ·rintro e w' ⟨rfl,H'⟩
    exact ⟨rfl,_,trivial,H'⟩
  | true =>
   obtain ⟨q1,q2,q3,q4,q5,q6⟩:=fW hb
   have hst:h.sh.steps<h.fuel:=by unfold Hp.stepB at hb;simp at hb;exact hb.2
   cases n with
   | zero=>unfold cq at en;omega
   | succ n =>
    have Yk:cq n h.step:=fp en hb
    have sl:=jH h
    have OH:=im.gh.step hb
    have L8:=gc.le sl
    have Rg:=hI.le sl
    have Hb:h.step.file=f:=q5.trans im.file
    have NX:h.step.input=inp:=sl.input.trans im.input
    have KL:h.step.thrown=-1:=q4.trans im.thr
    have EC:h.step.calls=((k::L2).length:Int):=q6.trans hcl
    have F1:=hF h.step Hb NX
    have hlim:0≤h.sh.steps/\h.sh.steps<1000000:=by have:=im.gh.out;have:=im.gh.fuel;omega
    have D:=Ky f inp w0 g h.step k L2 Hb im.may jy OH q3 KL EC L8 ⟨Hy,vh⟩ Rg F1 (by rw [NX];exact Gi)
    have hinv:(dT h.step k.c (L2.map (·.c))).fin=false->IM f inp (dT h.step k.c (L2.map (·.c))).h (dT h.step k.c (L2.map (·.c))).cs:=fun hfin=>wj Hb NX im.may OH q3 KL (by rw [EC];simp) L8 ⟨Hy,vh⟩ Rg hfin
    have Iv:=pE h.step k.c (L2.map (·.c))
    have hrun:runM (n+1) h (k.c::L2.map (·.c))=if (dT h.step k.c (L2.map (·.c))).fin=true then dT h.step k.c (L2.map (·.c)) else runM n (dT h.step k.c (L2.map (·.c))).h (dT h.step k.c (L2.map (·.c))).cs:=by
     show (if h.stepB=false then _ else _)=_
     rw [if_neg (by rw [hb];decide)]
    generalize dT h.step k.c (L2.map (·.c))=o at *
    have LL:(o.h.fuel-o.h.sh.steps).toNat<(h.fuel-h.sh.steps).toNat:=by have:=Iv.fuel;have:=Iv.steps;omega
    have P5:cq n o.h:=by unfold cq at Yk ⊢;have:=Iv.fuel;have:=Iv.steps;omega
    rcases D with ⟨a1,a2⟩|⟨⟨b1,b2⟩,b3⟩|⟨h1,Rb,c1,c2,c3,c4,c5,c6,c7,c8⟩
    ·refine Or.inl ⟨n,o.h,o.cs,?_,⟨hinv a1,P5⟩,LL,fun Z wx w H=>tT 0 Z wx w0 g h k L2 w H hb hlim _ _ (Or.inl rfl) (a2 Z wx)⟩
     show runM (n+1) h (k.c::L2.map (·.c))=_
     rw [hrun,a1,if_neg (by decide)]
    ·refine Or.inr (Or.inl ⟨o.how,o.v,o.h,?_,b2,fun Z wx w H=>tT 0 Z wx w0 g h k L2 w H hb hlim _ _ (Or.inr ⟨_,rfl⟩) (b3 Z wx)⟩)
     have Yl:o.fin=true:=by rw [b1];rfl
     show runM (n+1) h (k.c::L2.map (·.c))=_
     rw [hrun,if_pos Yl]
     exact b1
    ·refine Or.inr (Or.inr ⟨n,h1,o,⟨3,h1.thrown⟩,hrun,fun hfin=>⟨⟨hinv hfin,P5⟩,LL⟩,⟨rfl,c2,c4.thr.2,rfl⟩,hF h1 (c5.file.trans Hb) (c5.input.trans NX),c4.len,fun Z wx w H=>tT 0 Z wx w0 g h k L2 w H hb hlim _ _ (Or.inr ⟨_,rfl⟩) (c8 Z wx)⟩)
section
variable {ts:List Ty}
theorem ve {q:Nat} (hq:q<ts.length):nth ag (lz ts args ts.length) q=NV ts args q:=by
 rw [bP (by rw [du];exact hq)]
 simp [lz,hq]
theorem AM {v:Va} (hv:v∈lz ts args ts.length):∃q,q<ts.length/\v=NV ts args q:=by
 obtain ⟨q,hq,rfl⟩:=List.getElem_of_mem hv
 have NU:q<ts.length:=by rw [du] at hq;exact hq
 exact ⟨q,NU,by rw [<-bP (d:=ag) hq,ve NU]⟩
theorem pJ (h:mg ts=false):∀q,q<ts.length->(nth cL ts q).kind≠3:=by
 intro q hq e
 rw [wD hq e] at h
 cases h
theorem ND (h:∀q,q<ts.length->(nth cL ts q).kind≠3):(lz ts args ts.length).map im=lz ts args ts.length:=by
 rw [List.map_congr_left (g:=id)]
 ·exact List.map_id _
 ·intro v hv
  obtain ⟨q,hq,rfl⟩:=AM hv
  exact eJ (h q hq)
end
section
variable {h:Hp} {ts:List Ty} {args:List Int}
theorem oG (hk:∀q,q<ts.length->(nth cL ts q).kind≠3):h.enterL (lz ts args ts.length) ts=true:=by
 refine (lY h _ ts (du ts args _)).2 fun q hq=>?_
 rw [ve hq]
 unfold Hp.of
 have:=hk q hq
 simp [NV,this]
theorem NF (hk:∀q,q<ts.length->(nth cL ts q).kind≠3) (hl:args.length=ts.length) (ha:∀n∈args,cP n):∀v∈lz ts args ts.length,iJ h v:=by
 intro v hv
 obtain ⟨q,hq,rfl⟩:=AM hv
 refine ⟨fun e=>absurd e (hk q hq),?_⟩
 show cP (if (nth cL ts q).kind=1 then wrap32 (nth (0:Int) args q) else nth (0:Int) args q)
 split
 ·exact pC _
 ·exact ha _ (bE (by omega))
end
theorem vf {B:Bool} {ms:List Me} {entry fuel:Int} {na ni:Nat} (h:lO B ms entry fuel na ni=0):B=true/\(0≤entry/\entry<(ms.length:Int))/\(0≤fuel/\fuel≤60000)/\ni≤1000/\mg (nth bM ms entry.toNat).params=false/\na=(nth bM ms entry.toNat).params.length:=by
 unfold lO at h
 split at h
 ·cases h
 ·rename_i h1
  split at h
  ·cases h
  ·rename_i h2
   split at h
   ·cases h
   ·rename_i h3
    split at h
    ·rename_i h4
     rw [Bool.and_eq_true] at h4
     have h5:mg (nth bM ms entry.toNat).params=false:=by simpa using h4.1
     have h6:na=(nth bM ms entry.toNat).params.length:=of_decide_eq_true h4.2
     have h7:(0≤entry/\entry<(ms.length:Int))/\(0≤fuel/\fuel≤60000):=by omega
     exact ⟨by simpa using h1,h7.1,h7.2,by omega,h5,h6⟩
    ·cases h
def gK (f:Fi) (input:List Int) (fuel:Int):Hp:={ gE f input fuel with calls:=1 }
theorem vg {f:Fi} (h:bV f=true):eG f.classes=true/\(1≤f.methods.length/\f.methods.length≤8)/\∀m∈f.methods,eX f.classes f.methods.length m=true:=by
 unfold bV at h
 rw [Bool.and_eq_true,Bool.and_eq_true,List.all_eq_true] at h
 exact ⟨h.1.1,of_decide_eq_true h.1.2,h.2⟩
theorem GY (f:Fi) (input args:List Int) (fuel:Int) (n:Nat) (hmay:bV f=true) (hok:∀m∈f.methods,∀i∈m.code,i.ok) (hI:∀x∈input,cP x) (hA:∀x∈args,cP x) (hf:0≤fuel/\fuel≤60000) (hn:n<f.methods.length) (hr:mg (nth bM f.methods n).params=false) (hl:args.length=(nth bM f.methods n).params.length) :
  TH f input fuel.toNat (gK f input fuel) [bT (nth bM f.methods n) (lz (nth bM f.methods n).params args (nth bM f.methods n).params.length)]:=by
 obtain ⟨m1,m2,m3⟩:=vg hmay
 have hm:=bE (d:=bM) hn
 have hk:=pJ hr
 have gc:Gc (gK f input fuel) (bT (nth bM f.methods n) (lz (nth bM f.methods n).params args (nth bM f.methods n).params.length)) :=
  ny (m3 _ hm) (hok _ hm) (du _ _ _) (NF hk hl hA) (oG hk)
 refine ⟨⟨rfl,rfl,fun m h=>⟨m3 m h,hok m h⟩,⟨fun o ho=>by simp [gK,gE] at ho,by simp [gK,gE],by simp [gK,gE],by simp [gK,gE];exact hf.1,hf,by simp [gK,gE],by simp [gK,gE],hI,by simp [gK,gE]⟩,rfl,rfl,rfl,_,[],rfl,gc,Int.le_refl _,?_,fun c hc=>by cases hc⟩,?_⟩
 ·show (0:Int)≤_
  omega
 ·unfold cq
  show fuel-0≤_
  omega
theorem AO {w:World} {base:Nat} {v:Value} {n:Nat} {xs:List Value} (ho:w.ownsRow base 2 1 v n xs) {b:Nat} {cs:Array Value} (hb:w.heap[b]?=some (.cells cs 28 (0,0))) (v0 v1 v2 v3 v4 v5:Value) :
  ((((((w.setCell ⟨b,0,none⟩ v0).setCell ⟨b,1,none⟩ v1).setCell ⟨b,2,none⟩ v2).setCell ⟨b,3,none⟩ v3).setCell ⟨b,4,none⟩ v4).setCell ⟨b,5,none⟩ v5).ownsRow base 2 1 v n xs:=by
 have h0:=ax (i:=0) hb v0
 have h1:=ax (i:=1) h0 v1
 have h2:=ax (i:=2) h1 v2
 have h3:=ax (i:=3) h2 v3
 have h4:=ax (i:=4) h3 v4
 exact de (de (de (de (de (de ho hb (by decide) _) h0 (by decide) _) h1 (by decide) _) h2 (by decide) _) h3 (by decide) _) h4 (by decide) _
section
variable {s:Nat} {Z:Nat->Prop} {wx w0 w:World} {g:Mg} {h:Hp} {L:List Kl}
theorem RR.z (H:RR s Z wx w0 g w h L) {b:Nat} (hb:Z b):w.heap[b]?=wx.heap[b]?:=by
 obtain ⟨vc,vo,vx,-,-,-,-,K⟩:=H
 exact (K.blk b hb).2
theorem RR.bl0 (H:RR s Z wx w0 g w h L):Bl w0 w:=by
 obtain ⟨vc,vo,vx,R,-⟩:=H
 exact R.bl
end
theorem GZ (f:Fi) (input:List Int) (fuel:Int) (w0 w:World) (g:Mg) (Z:Nat->Prop) (hb:Bl w0 w) (h1:w0.heap.size≤g.r) (h2:w0.heap.size≤g.hb) (h3:w0.heap.size≤g.mp) (hr:w.heap[g.r]?=some (.cells (gM g (gE f input fuel) (.slice none 0 0) (.slice none 0 0)) 88 (0,0))) (hh:w.heap[g.hb]?=some (.cells (fD g (gE f input fuel) (.slice none 0 0)) 173 (0,0))) (hm:w.ownsMap Tryz.prog 261 ft g.mp 0 (.map [])) (hz:∀b,Z b->b≠g.r/\b≠g.hb/\b≠g.mp) (Ym:∀b,Z b->b<w.heap.size):RR 0 Z w w0 g w (gE f input fuel) []:=by
 obtain ⟨vc,vo,vx,R,K,-⟩:=Gw f input fuel w0 w g hb h1 h2 h3 hr hh hm
 have e1:=R.run.symm.trans hr
 have e2:=R.hp.symm.trans hh
 unfold gM at e1
 unfold fD at e2
 simp only [Option.some.injEq,Obj.cells.injEq,Array.mk.injEq,List.cons.injEq,true_and,and_true] at e1 e2
 obtain ⟨rfl,rfl⟩:=e1
 subst e2
 exact ⟨_,_,_,R,K,fun b hb=>⟨(hz b hb).1,(hz b hb).2.1,(hz b hb).2.2,(fun e=>by cases e),(fun e=>by cases e),(fun e=>by cases e)⟩,(fun b _ k hk=>by cases hk),Nat.le_refl _,fun b hb=>⟨Ym b hb,rfl⟩⟩
def rr (w:World) (s:Sh) (e:Ending) (w':World):Prop :=
 ∃vx,e=.returned (.tuple #[.agg #[int i64 s.fin,int i64 s.value,int i64 s.cls,vx,int i64 s.used,int i64 s.steps],int i64 0])/\w'.ownsRow w.heap.size 2 1 vx s.out.length (s.out.map (Value.int .i64))/\Bl w w'
def Gu (w0 w:World) (s:Sh) (e:Ending) (w':World):Prop :=
 ∃vx,e=.returned (.agg #[int i64 s.fin,int i64 s.value,int i64 s.cls,vx,int i64 s.used,int i64 s.steps])/\w'.ownsRow w0.heap.size 2 1 vx s.out.length (s.out.map (Value.int .i64))/\Bl w w'
theorem Dg (f:Fi) (inp:List Int) (Z:Nat->Prop) (wx w0:World) (g:Mg) (o:Mo) (L:List Kl) (w:World) (H:RR 0 Z wx w0 g w o.h L) (ed:Ed f inp o) (F:Fix w0 g o.h) :
  Calls Tryz.prog 48 #[.pointer (some ⟨g.r,0,none⟩),.agg #[int i64 o.how,int i64 (im o.v).kind,int i64 (im o.v).n]] w fun e w'=>Gu w0 w (ob o) e w':=by
 obtain ⟨vc,vo,vx,R,-⟩:=H
 obtain ⟨r0,-,-,-,-,-,r6,r7,r8⟩:=R.runCells
 obtain ⟨Ax,cx,rfl,-,-⟩:=g9 R.out
 have hrow:∀w',Bl w w'->w'.ownsRow w0.heap.size 2 1 (.slice Ax o.h.sh.out.length cx) o.h.sh.out.length (o.h.sh.out.map (Value.int .i64)):=fun w' hb=>(R.kept (dx hb none) (fun b e=>by cases e)).out
 by_cases h2:o.how=2
 ·obtain ⟨k3,n0,n1⟩:=ed.thr h2
  obtain ⟨n,hn⟩:∃n:Nat,o.v.n=n:=⟨o.v.n.toNat,by omega⟩
  have TI:ob o=⟨2,0,(o.h.obj o.v.n).cls,o.h.sh.out,o.h.sh.used,o.h.sh.steps⟩:=by unfold ob;rw [if_pos h2]
  have hc:=CV n (o.h.obj o.v.n).cls g o.h Ax o.h.sh.out.length cx w (R.rd F ed.len) (by omega) (by unfold Hp.obj;rw [hn,Int.toNat_natCast]) r0 r6 r7 r8
  rw [gq k3,h2,hn]
  rw [TI]
  refine hc.mono ?_
  rintro e w' ⟨rfl,hb⟩
  exact ⟨_,rfl,hrow w' hb,hb⟩
 ·have TI:ob o=⟨o.how,if o.v.kind=3 then 0 else o.v.n,0,o.h.sh.out,o.h.sh.used,o.h.sh.steps⟩:=by unfold ob;rw [if_neg h2]
  rw [TI]
  by_cases k3:o.v.kind=3
  ·rw [if_pos k3]
   refine (CU o.how (im o.v).kind (im o.v).n g o.h Ax o.h.sh.out.length cx w r0 r6 r7 r8 h2 k3).mono ?_
   rintro e w' ⟨rfl,hb⟩
   exact ⟨_,rfl,hrow w' hb,hb⟩
  ·rw [if_neg k3]
   have hc:=CT o.how (im o.v).kind (im o.v).n g o.h Ax o.h.sh.out.length cx w r0 r6 r7 r8 h2 k3
   have e:(im o.v).n=o.v.n:=by rw [eJ k3]
   refine hc.mono ?_
   rintro e' w' ⟨rfl,hb⟩
   exact ⟨_,by rw [e],hrow w' hb,hb⟩
theorem zr (f:Fi) (n:Nat) (args input:List Int) (fuel:Int) (w:World) (hmay:bV f=true) (hn:n<f.methods.length) (hr:mg (nth bM f.methods n).params=false) (Z:Nat->Prop) (V:World) (g:Mg) (hM:eD w g.M f.methods) (w4:World) (b cap:Nat) (H:RR 0 Z V w g w4 (gE f input fuel) []) (B:cZ w4 b (lz (nth bM f.methods n).params args (nth bM f.methods n).params.length)) :
  Calls Tryz.prog 46 #[.pointer (some ⟨g.r,0,none⟩),int i64 (n:Int),.slice (some ⟨b,0,none⟩) (nth bM f.methods n).params.length cap] w4 fun e w'=>e=.returned (.tuple #[])/\∃k2:Kl,k2.c=bT (nth bM f.methods n) (lz (nth bM f.methods n).params args (nth bM f.methods n).params.length)/\RR 0 Z V w g w' (gK f input fuel) [k2]:=by
 obtain ⟨m1,m2,m3⟩:=vg hmay
 obtain ⟨p1,p2,p3,p4,p5,p6,p7,p8,p9,Io,KQ⟩:=jh (m3 _ (bE (d:=bM) hn))
 have hk:=pJ hr
 have Yn:=g5 (gE f input fuel) f.classes.length _ _ (du (nth bM f.methods n).params args (nth bM f.methods n).params.length) (oG hk) p9
 have hc:=AF 0 Z V w g (gE f input fuel) [] w4 H n (nth bM f.methods n) (nth bM f.methods n).locs.toNat b cap (lz (nth bM f.methods n).params args (nth bM f.methods n).params.length) (by decide) hn rfl hM (by omega) (by omega) (by rw [ND hk];exact B) (by omega) Yn.2
 rw [du] at hc
 refine hc.mono ?_
 rintro e w' ⟨rfl,k2,mr,H2⟩
 exact ⟨rfl,k2,mr,H2.heap 1 (-1)⟩
section
variable (f:Fi) (A B R I:Option Addr) (a b rc ic:Nat)
theorem xP (entry fuel:Int) (args input:List Int) (w:World) (hB:eD w B f.methods) (hI:input.length≤maxLen) (hR:args.length≤maxLen) (hM:∀w',Bl w w'->Calls Tryz.prog 16 #[qu f.classes.length f.methods.length A B a b] w' fun e w2=>e=.returned (.bool (bV f))/\Bl w' w2) (hE:lO (bV f) f.methods entry fuel args.length input.length≠0) :
  Calls Tryz.prog 18 #[qZ,qu f.classes.length f.methods.length A B a b,int i64 entry,.slice R args.length rc,.slice I input.length ic,int i64 fuel] w fun e w'=>e=.returned (.tuple #[.agg #[int i64 0,int i64 0,int i64 0,.slice none 0 0,int i64 0,int i64 0],int i64 (lO (bV f) f.methods entry fuel args.length input.length)])/\Bl w w':=by
 have cD:Hid (Bl w (((w.alloc lP).alloc (oA f.classes.length f.methods.length A B a b)).alloc iE)):=(((Bl.refl w).alloc _).alloc _).alloc _
 have NG:Hid (∀w',Bl w w'->Calls Tryz.prog 44 #[qZ,qu f.classes.length f.methods.length A B a b,int i64 entry,.slice R args.length rc,.slice I input.length ic,int i64 fuel] w' fun e w2=>e=.returned (int i64 (lO (bV f) f.methods entry fuel args.length input.length))/\Bl w' w2) :=
  fun w' hb=>o9 (bV f) f.classes.length f.methods A B R I a b rc ic args.length input.length entry fuel w' (hB.bl hb) hR hI (fun w2 dA=>hM w2 (hb.trans dA))
 have hz:(lO (bV f) f.methods entry fuel args.length input.length !=0)=true:=by simpa using hE
 have wo:Hid ((((w.alloc lP).alloc (oA f.classes.length f.methods.length A B a b)).alloc iE).heap[w.heap.size+1+1]?=some (.cells #[int i64 0,int i64 0,int i64 0,.slice none 0 0,int i64 0,int i64 0] 28 (0,0))):=by
  have:=aD ((w.alloc lP).alloc (oA f.classes.length f.methods.length A B a b)) #[int i64 0,int i64 0,int i64 0,.slice none 0 0,int i64 0,int i64 0] 28
  rw [World.size_alloc,World.size_alloc] at this
  exact this
 clear hB hI hR hM hE
 generalize lO (bV f) f.methods entry fuel args.length input.length=E at *
 go_enter Tryz.func18,Tryz.ntmps18
 go_wp2_with (go_at_call 44;refine (NG.out _ cD.out).mono ?_;rintro e w1 ⟨rfl,b1⟩;have q1:=ai b1 wo.out;have z0:w1.cell? ⟨w.heap.size+1+1,0,none⟩=some (int i64 0):=(aa q1).trans rfl;have z1:w1.cell? ⟨w.heap.size+1+1,1,none⟩=some (int i64 0):=(aa q1).trans rfl;have z2:w1.cell? ⟨w.heap.size+1+1,2,none⟩=some (int i64 0):=(aa q1).trans rfl;have z3:w1.cell? ⟨w.heap.size+1+1,3,none⟩=some (.slice none 0 0):=(aa q1).trans rfl;have z4:w1.cell? ⟨w.heap.size+1+1,4,none⟩=some (int i64 0):=(aa q1).trans rfl;have z5:w1.cell? ⟨w.heap.size+1+1,5,none⟩=some (int i64 0):=(aa q1).trans rfl;have fr:=ay q1;replace q1:=ab q1;have B1:=ab b1;clear b1)
 refine bodyPost_ret (dr rfl _ _ (w.heap.size+1+1) _ _ (int i64 E) _ _ rfl rfl (js q1.out _ _ _ _ _ _) Tryz.underlying28 rfl jt) rfl ?_
 exact ⟨rfl,kN (cD.out.trans B1.out) (by omega) _ _ _ _ _ _⟩
theorem zt (n:Nat) (fuel:Int) (args input:List Int) (w:World) (hA:cg w A f.classes) (hB:eD w B f.methods) (hI:cM w I input) (hR:cM w R args) (hM:∀w',Bl w w'->Calls Tryz.prog 16 #[qu f.classes.length f.methods.length A B a b] w' fun e w2=>e=.returned (.bool (bV f))/\Bl w' w2) (hE:lO (bV f) f.methods (n:Int) fuel args.length input.length=0) :
  Calls Tryz.prog 18 #[qZ,qu f.classes.length f.methods.length A B a b,int i64 (n:Int),.slice R args.length rc,.slice I input.length ic,int i64 fuel] w fun e w'=>rr w (ob (runM fuel.toNat (gK f input fuel) [bT (nth bM f.methods n) (lz (nth bM f.methods n).params args (nth bM f.methods n).params.length)])) e w':=by
 have cD:Hid (Bl w (((w.alloc lP).alloc (oA f.classes.length f.methods.length A B a b)).alloc iE)):=(((Bl.refl w).alloc _).alloc _).alloc _
 have NG:Hid (∀w',Bl w w'->Calls Tryz.prog 44 #[qZ,qu f.classes.length f.methods.length A B a b,int i64 (n:Int),.slice R args.length rc,.slice I input.length ic,int i64 fuel] w' fun e w2=>e=.returned (int i64 0)/\Bl w' w2):=fun w' hb=>by
  have:=o9 (bV f) f.classes.length f.methods A B R I a b rc ic args.length input.length (n:Int) fuel w' (hB.bl hb) hR.1 hI.1 (fun w2 dA=>hM w2 (hb.trans dA))
  rw [hE] at this
  exact this
 obtain ⟨e1,e2,e3,e4,e5,e6⟩:=vf hE
 rw [Int.toNat_natCast] at e5 e6
 have hn:n<f.methods.length:=by omega
 obtain ⟨m1,m2,m3⟩:=vg e1
 obtain ⟨p1,p2,p3,p4,p5,p6,p7,p8,p9,Io,KQ⟩:=jh (m3 _ (bE (d:=bM) hn))
 have hkk:=pJ e5
 have Ia:=ab hB
 have jy:=hB.1
 unfold maxLen at jy
 rcases hB.2 with z0|⟨mb,mo,rfl,hcell⟩
 ·omega
 obtain ⟨P,C,J,p,c,k,q0,-,-,-,-,-,-,-,hme⟩:=hcell n hn
 have P6:Hid (∀g:Mg,g.A=A->g.M=some ⟨mb,mo,none⟩->g.I=I->∀h:Hp,h.file=f->h.input=input->Fix w g h):=fun g ga gm gi h hf hi=>⟨by rw [ga,hf];exact hA,by rw [gm,hf];exact hB,by rw [gi,hi];exact hI,by rw [hf];exact m1⟩
 have TJ:Hid (∀w',Bl w w'->Calls Tryz.prog 47 #[.slice P (nth bM f.methods n).params.length p,.slice R args.length rc] w' fun e w2=>e=.returned (.slice (some ⟨w'.heap.size,0,none⟩) (nth bM f.methods n).params.length (nth bM f.methods n).params.length)/\cZ w2 w'.heap.size (lz (nth bM f.methods n).params args (nth bM f.methods n).params.length)/\Bl w' w2) :=
  fun w' hb=>yw P R p n rc (nth bM f.methods n).params args w' (hme.1.bl hb) (hR.bl hb) e6 p5 (fun q hq=>by
   have h1:=p9 _ (bE (d:=cL) hq)
   have h2:=hkk q hq
   unfold fO at h1
   simp at h1
   omega)
 have P7:Hid (∀(Z:Nat->Prop) (V:World) (g:Mg) (gm:g.M=some ⟨mb,mo,none⟩) (w4:World) (b cap:Nat) (H:RR 0 Z V w g w4 (gE f input fuel) []) (B:cZ w4 b (lz (nth bM f.methods n).params args (nth bM f.methods n).params.length)),
   Calls Tryz.prog 46 #[.pointer (some ⟨g.r,0,none⟩),int i64 (n:Int),.slice (some ⟨b,0,none⟩) (nth bM f.methods n).params.length cap] w4 fun e w'=>e=.returned (.tuple #[])/\∃k2:Kl,k2.c=bT (nth bM f.methods n) (lz (nth bM f.methods n).params args (nth bM f.methods n).params.length)/\RR 0 Z V w g w' (gK f input fuel) [k2]) :=
  fun Z V g gm w4 b cap H Bx=>zr f n args input fuel w e1 hn e5 Z V g (by rw [gm];exact hB) w4 b cap H Bx
 have TK:=GY f input args fuel n e1 (yq hB) (pF hI) (pF hR) e3 hn e5 e6
 have ED:=(Eb fuel.toNat _ _ TK.1).1
 have TL:Hid (∀(Z:Nat->Prop) (V:World) (g:Mg) (ga:g.A=A) (gm:g.M=some ⟨mb,mo,none⟩) (gi:g.I=I) (k2:Kl) (w5:World) (mr:k2.c=bT (nth bM f.methods n) (lz (nth bM f.methods n).params args (nth bM f.methods n).params.length)) (H:RR 0 Z V w g w5 (gK f input fuel) [k2]),
   Calls Tryz.prog 49 #[.pointer (some ⟨g.r,0,none⟩)] w5 fun e w'=>PY Z V w g (runM fuel.toNat (gK f input fuel) [bT (nth bM f.methods n) (lz (nth bM f.methods n).params args (nth bM f.methods n).params.length)]) e w'):=fun Z V g ga gm gi k2 w5 mr H=>by
  have h0:=until_any (TH f input) Z V w g fuel.toNat (gK f input fuel) [k2] w5 H (by simp only [List.map_cons,List.map_nil,mr];exact TK) (Kz f input w g m2.2 (by omega) (fun h hf hi=>P6.out g ga gm gi h hf hi))
  simp only [List.map_cons,List.map_nil,mr] at h0
  exact h0
 generalize runM fuel.toNat (gK f input fuel) [bT (nth bM f.methods n) (lz (nth bM f.methods n).params args (nth bM f.methods n).params.length)]=o at *
 have VA:Hid (∀(Z:Nat->Prop) (V:World) (g:Mg) (ga:g.A=A) (gm:g.M=some ⟨mb,mo,none⟩) (gi:g.I=I) (L:List Kl) (w6:World) (H:RR 0 Z V w g w6 o.h L),
   Calls Tryz.prog 48 #[.pointer (some ⟨g.r,0,none⟩),.agg #[int i64 o.how,int i64 (im o.v).kind,int i64 (im o.v).n]] w6 fun e w'=>Gu w w6 (ob o) e w') :=
  fun Z V g ga gm gi L w6 H=>Dg f input Z V w g o L w6 H ED (P6.out g ga gm gi o.h ED.file ED.input)
 obtain ⟨s,hs⟩:∃s,ob o=s:=⟨_,rfl⟩
 rw [hs] at VA ⊢
 have n0:(0:Int)≤(n:Int):=by omega
 have n1:(n:Int)<(f.methods.length:Int):=by omega
 obtain ⟨L0,L1⟩:=bC w #[.func (.func 16) #[] #[],.func (.func 17) #[] #[]] #[.slice A f.classes.length a,.slice (some ⟨mb,mo,none⟩) f.methods.length b] 40 25
 have oY:Hid (_):=ai ((Bl.refl ((w.alloc lP).alloc (oA f.classes.length f.methods.length A (some ⟨mb,mo,none⟩) a b))).alloc iE) L0
 have gz:Hid (_):=ai ((Bl.refl ((w.alloc lP).alloc (oA f.classes.length f.methods.length A (some ⟨mb,mo,none⟩) a b))).alloc iE) L1
 have wo:Hid ((((w.alloc lP).alloc (oA f.classes.length f.methods.length A (some ⟨mb,mo,none⟩) a b)).alloc iE).heap[w.heap.size+1+1]?=some (.cells #[int i64 0,int i64 0,int i64 0,.slice none 0 0,int i64 0,int i64 0] 28 (0,0))):=by
  have:=aD ((w.alloc lP).alloc (oA f.classes.length f.methods.length A (some ⟨mb,mo,none⟩) a b)) #[int i64 0,int i64 0,int i64 0,.slice none 0 0,int i64 0,int i64 0] 28
  rw [World.size_alloc,World.size_alloc] at this
  exact this
 clear hA hB hI hR hM hE e1 e2 e3 e4 e5 e6 m1 m2 m3 p1 p2 p3 p4 p5 p6 p7 p8 p9 Io KQ hkk hcell hme TK ED hs Ia L0 L1 hn
 go_enter Tryz.func18,Tryz.ntmps18
 go_wp2_with (go_at_call 44;refine (NG.out _ cD.out).mono ?_;rintro e w1 ⟨rfl,b1⟩;have B1:=ab b1;have y0:=ai b1 oY.out;have y1:=ai b1 gz.out;have Rh:Hid (∀w',Bl w1 w'->(fun w'=>Hid (Bl w1 w')/\w'.cell? ⟨w.heap.size+1,0,none⟩=some (.slice A f.classes.length a)/\w'.cell? ⟨w.heap.size+1,1,none⟩=some (.slice (some ⟨mb,mo,none⟩) f.methods.length b)/\w'.cell? ⟨w.heap.size,1,none⟩=some (.func (.func 17) #[] #[])) w'):=(fun w' hb=>⟨hb,(aa (ai hb y1)).trans rfl,(aa (ai hb y1)).trans rfl,(aa (ai hb y0)).trans rfl⟩);have AP:=(Rh.out w1 (Bl.refl w1)).2.2.1;clear b1 y0 y1)
 refine wp_region_held_drew (S:=fun w'=>Hid (Bl w1 w')/\w'.cell? ⟨w.heap.size+1,0,none⟩=some (.slice A f.classes.length a)/\w'.cell? ⟨w.heap.size+1,1,none⟩=some (.slice (some ⟨mb,mo,none⟩) f.methods.length b)/\w'.cell? ⟨w.heap.size,1,none⟩=some (.func (.func 17) #[] #[])) (by kernel_rfl) ?_ (fun ae=>?_)
 ·exact Rh.out _ (Bl.refl _).drew
 iterate 8 (refine tn rfl rfl rfl (by kernel_rfl) (fun _ _ _ h=>h) (by rfl) (by intro _ h;(try dsimp only at h);go_split_ands;go_simp<;>with_reducible rfl) ae ?_;try simp only [aS,aN,aT,a0,a1])
 refine bJ (i:=2) (by kernel_rfl) rfl fun K hK=>?_
 go_simp
 go_at_call 45
 refine (xz A f.classes.length a w1.drew).mono ?_
 rintro e w2 ⟨he,eK⟩
 have Rc:e=.returned (.pointer (some ⟨w1.heap.size+1,0,none⟩)):=he
 clear he
 subst Rc
 have Ri:Hid (w2=(w1.drew.alloc (.map #[] 0)).alloc (LF A f.classes.length a w1.heap.size)):=eK
 have B2:Hid (Bl w1 w2):=by rw [Ri.out];exact ((Bl.refl w1).drew.alloc _).alloc _
 clear eK
 go_wp2_with fail
 refine hK.out _ _ (Rh.out _ B2.out) (fun ah=>?_)
 try simp only [aS,aN,aT,a0,a1]
 refine tn rfl rfl rfl (by kernel_rfl) (fun _ _ _ h=>h) (by rfl) (by intro _ h;(try dsimp only at h);go_split_ands;go_simp<;>with_reducible rfl) ah ?_
 try simp only [aS,aN,aT,a0,a1]
 refine bJ (i:=10) (by kernel_rfl) rfl fun K hK=>?_
 go_simp
 refine hK.out _ _ (Rh.out _ (B2.out.alloc _)) (fun aX=>?_)
 try simp only [aS,aN,aT,a0,a1]
 refine tn rfl rfl rfl (by kernel_rfl) (fun _ _ _ h=>h) (by rfl) (by intro _ h;(try dsimp only at h);go_split_ands;go_simp<;>with_reducible rfl) aX ?_
 try simp only [aS,aN,aT,a0,a1]
 refine wpAnyH_done (by kernel_rfl) ?_ _
 have s9:w2.heap.size=w1.heap.size+2:=by rw [Ri.out];simp
 obtain ⟨V,hV⟩:∃V,V=w2.alloc (.cells #[.pointer (some ⟨w1.heap.size+1,0,none⟩),.slice (some ⟨mb,mo,none⟩) f.methods.length b,.func (.func 17) #[] #[],.slice none 0 0,.slice I input.length ic,int i64 fuel,int i64 0,int i64 0,.slice none 0 0] 88):=⟨_,rfl⟩
 have HV:Hid (Bl w1 V):=by rw [hV];exact B2.out.alloc _
 have E2:Hid (RR 0 (fun b=>b<w1.heap.size) V w ⟨w2.heap.size,w1.heap.size+1,w1.heap.size,A,a,some ⟨mb,mo,none⟩,b,I,ic⟩ V (gE f input fuel) []):=by
  refine GZ f input fuel w V _ (fun b=>b<w1.heap.size) ((cD.out.trans B1.out).trans HV.out) ?_ ?_ ?_ ?_ ?_ ?_ ?_ ?_
  ·show w.heap.size≤w2.heap.size
   have:=cD.out.size;have:=B1.out.size;omega
  ·show w.heap.size≤w1.heap.size+1
   have:=cD.out.size;have:=B1.out.size;omega
  ·show w.heap.size≤w1.heap.size
   have:=cD.out.size;have:=B1.out.size;omega
  ·rw [hV];exact aD _ _ _
  ·rw [hV]
   refine ai ((Bl.refl w2).alloc _) ?_
   rw [Ri.out]
   have:=aD (w1.drew.alloc (.map #[] 0)) #[.slice A f.classes.length a,.slice none 0 0,.map (some w1.heap.size)] 173
   have e:(w1.drew.alloc (.map #[] 0)).heap.size=w1.heap.size+1:=by simp
   rw [e] at this
   exact this
  ·have hm:w2.ownsMap Tryz.prog 261 ft w1.heap.size 0 (.map []):=by rw [Ri.out];exact ownsMap_at rfl _
   rw [hV]
   exact hm.alloc _
  ·intro b hb
   show b≠w2.heap.size/\b≠w1.heap.size+1/\b≠w1.heap.size
   omega
  ·intro b hb
   have:=HV.out.size;omega
 have x1:V.cell? ⟨w.heap.size+1,1,none⟩=some (.slice (some ⟨mb,mo,none⟩) f.methods.length b):=HV.out.cell AP
 have x2:V.cell? ⟨mb,mo+n*8,none⟩=some (.slice P (nth bM f.methods n).params.length p):=((cD.out.trans B1.out).trans HV.out).cell q0
 rw [<-hV]
 clear hV s9
 have HZ:Hid (∀w':World,(∀b':Nat,b'<w1.heap.size->w'.heap[b']?=V.heap[b']?)->w'.heap[w.heap.size+1+1]?=some (.cells #[int i64 0,int i64 0,int i64 0,.slice none 0 0,int i64 0,int i64 0] 28 (0,0))):=fun w' hw'=>by
  have hlt:w.heap.size+1+1<w1.heap.size:=Nat.lt_of_lt_of_le (af wo.out) B1.out.size
  rw [hw' _ hlt]
  exact ai (B1.out.trans HV.out) wo.out
 clear aX ae ah AP q0
 go_wp2_with (first
  | (go_at_call 47;refine (TJ.out V ((cD.out.trans B1.out).trans HV.out)).mono ?_;rintro e w4 ⟨rfl,TM,b4⟩;replace TM:=ab TM;replace b4:=ab b4)
  | (go_at_call 46;refine (P7.out (fun b=>b<w1.heap.size) V ⟨w2.heap.size,w1.heap.size+1,w1.heap.size,A,a,some ⟨mb,mo,none⟩,b,I,ic⟩ rfl w4 _ _ (E2.out.bl b4.out) TM.out).mono ?_;rintro e w5 ⟨rfl,k2,mr,H5⟩;replace H5:=ab H5;replace mr:=ab mr)
  | (go_at_call 49;refine (TL.out (fun b=>b<w1.heap.size) V ⟨w2.heap.size,w1.heap.size+1,w1.heap.size,A,a,some ⟨mb,mo,none⟩,b,I,ic⟩ rfl rfl rfl k2 w5 mr.out H5.out).mono ?_;rintro e w6 ⟨rfl,L6,H6⟩;have Q6:=ab H6;clear H6)
  | (go_at_call 48;refine (VA.out (fun b=>b<w1.heap.size) V ⟨w2.heap.size,w1.heap.size+1,w1.heap.size,A,a,some ⟨mb,mo,none⟩,b,I,ic⟩ rfl rfl rfl L6 w6 Q6.out).mono ?_;rintro e w7 ⟨vx,rfl,ow,b7⟩;obtain ⟨Ax,cx,rfl,-,-⟩:=g9 ow;have q7:=ai b7 (HZ.out w6 (fun b' vp=>(Q6.out.z (Z:=fun b=>b<w1.heap.size) vp)));have z0:w7.cell? ⟨w.heap.size+1+1,0,none⟩=some (int i64 0):=(aa q7).trans rfl;have z1:w7.cell? ⟨w.heap.size+1+1,1,none⟩=some (int i64 0):=(aa q7).trans rfl;have z2:w7.cell? ⟨w.heap.size+1+1,2,none⟩=some (int i64 0):=(aa q7).trans rfl;have z3:w7.cell? ⟨w.heap.size+1+1,3,none⟩=some (.slice none 0 0):=(aa q7).trans rfl;have z4:w7.cell? ⟨w.heap.size+1+1,4,none⟩=some (int i64 0):=(aa q7).trans rfl;have z5:w7.cell? ⟨w.heap.size+1+1,5,none⟩=some (int i64 0):=(aa q7).trans rfl;have fr:=ay q7;replace q7:=ab q7;have OW:=ab ow;have B7:=ab b7;clear ow b7))
 refine bodyPost_ret (dr rfl _ _ (w.heap.size+1+1) _ _ (int i64 0) _ _ rfl rfl (js q7.out _ _ _ _ _ _) Tryz.underlying28 rfl jt) rfl ?_
 exact ⟨_,rfl,AO OW.out q7.out _ _ _ _ _ _,kN (Q6.out.bl0.trans B7.out) (by omega) _ _ _ _ _ _⟩
end
abbrev P8 (f:Fi) (A B R I:Option Addr) (a b rc ic:Nat) (entry fuel:Int) (args input:List Int):Array Value:=#[qu f.classes.length f.methods.length A B a b,int i64 entry,.slice R args.length rc,.slice I input.length ic,int i64 fuel]
theorem KA {w:World} {base mn:Nat} {e:TypeId} {size n:Nat} {v:Value} {xs:List Value} (h:w.ownsRow base e size v n xs) (hb:mn≤base):w.ownsRow mn e size v n xs:=by
 refine ⟨h.1,?_⟩
 rcases h.2 with h1|⟨gb,cap,cur,e1,h2,h3⟩
 ·exact Or.inl h1
 ·exact Or.inr ⟨gb,cap,cur,e1,Nat.le_trans hb h2,h3⟩
section
variable (f:Fi) (A B:Option Addr) (a b:Nat) (w:World)
theorem G0:((w.alloc (oA f.classes.length f.methods.length A B a b)).alloc iE).heap[w.heap.size]?=some (.cells #[.slice A f.classes.length a,.slice B f.methods.length b] 25 (0,0))/\((w.alloc (oA f.classes.length f.methods.length A B a b)).alloc iE).heap[w.heap.size+1]?=some (.cells #[int i64 0,int i64 0,int i64 0,.slice none 0 0,int i64 0,int i64 0] 28 (0,0)) :=
 bC w _ _ _ _
theorem xQ:Bl w (((w.alloc (oA f.classes.length f.methods.length A B a b)).alloc iE).alloc lP)/\(((w.alloc (oA f.classes.length f.methods.length A B a b)).alloc iE).alloc lP).heap[w.heap.size+1]?=some (.cells #[int i64 0,int i64 0,int i64 0,.slice none 0 0,int i64 0,int i64 0] 28 (0,0)) :=
 ⟨(((Bl.refl w).alloc _).alloc _).alloc _,ai ((Bl.refl _).alloc _) (G0 f A B a b w).2⟩
end
section
variable (f:Fi) (A B R I:Option Addr) (a b rc ic:Nat) (entry fuel:Int) (args input:List Int) (w:World)
theorem G3 (E:Int) (hF:∀w',Bl w w'->Calls Tryz.prog 18 #[qZ,qu f.classes.length f.methods.length A B a b,int i64 entry,.slice R args.length rc,.slice I input.length ic,int i64 fuel] w' fun e w2=>e=.returned (.tuple #[.agg #[int i64 0,int i64 0,int i64 0,.slice none 0 0,int i64 0,int i64 0],int i64 E])/\Bl w' w2) :
  Calls Tryz.prog 7 (P8 f A B R I a b rc ic entry fuel args input) w fun e w'=>e=.returned (.tuple #[.agg #[int i64 0,int i64 0,int i64 0,.slice none 0 0,int i64 0,int i64 0],int i64 E])/\Bl w w':=by
 have HF:=ab hF
 have HL:=ab (xQ f A B a b w)
 clear hF
 go_enter Tryz.func7,Tryz.ntmps7
 go_wp2_with (go_at_call 18;refine (HF.out _ HL.out.1).mono ?_;rintro e w1 ⟨rfl,b1⟩;have q1:=ai b1 HL.out.2;have z0:w1.cell? ⟨w.heap.size+1,0,none⟩=some (int i64 0):=(aa q1).trans rfl;have z1:w1.cell? ⟨w.heap.size+1,1,none⟩=some (int i64 0):=(aa q1).trans rfl;have z2:w1.cell? ⟨w.heap.size+1,2,none⟩=some (int i64 0):=(aa q1).trans rfl;have z3:w1.cell? ⟨w.heap.size+1,3,none⟩=some (.slice none 0 0):=(aa q1).trans rfl;have z4:w1.cell? ⟨w.heap.size+1,4,none⟩=some (int i64 0):=(aa q1).trans rfl;have z5:w1.cell? ⟨w.heap.size+1,5,none⟩=some (int i64 0):=(aa q1).trans rfl;have fr:=ay q1;replace q1:=ab q1;have B1:=ab b1;clear b1)
 refine bodyPost_ret (dr rfl _ _ (w.heap.size+1) _ _ (int i64 E) _ _ rfl rfl (js q1.out _ _ _ _ _ _) Tryz.underlying28 rfl jt) rfl ?_
 exact ⟨rfl,kN (HL.out.1.trans B1.out) (Nat.le_succ _) _ _ _ _ _ _⟩
theorem KB (s:Sh) (hF:∀w',Bl w w'->Calls Tryz.prog 18 #[qZ,qu f.classes.length f.methods.length A B a b,int i64 entry,.slice R args.length rc,.slice I input.length ic,int i64 fuel] w' fun e w2=>rr w' s e w2) :
  Calls Tryz.prog 7 (P8 f A B R I a b rc ic entry fuel args input) w fun e w'=>rr w s e w':=by
 have HF:=ab hF
 have HL:=ab (xQ f A B a b w)
 clear hF
 go_enter Tryz.func7,Tryz.ntmps7
 go_wp2_with (go_at_call 18;refine (HF.out _ HL.out.1).mono ?_;rintro e w1 ⟨vx,rfl,ow,b1⟩;obtain ⟨Ax,cx,rfl,-,-⟩:=g9 ow;have q1:=ai b1 HL.out.2;have z0:w1.cell? ⟨w.heap.size+1,0,none⟩=some (int i64 0):=(aa q1).trans rfl;have z1:w1.cell? ⟨w.heap.size+1,1,none⟩=some (int i64 0):=(aa q1).trans rfl;have z2:w1.cell? ⟨w.heap.size+1,2,none⟩=some (int i64 0):=(aa q1).trans rfl;have z3:w1.cell? ⟨w.heap.size+1,3,none⟩=some (.slice none 0 0):=(aa q1).trans rfl;have z4:w1.cell? ⟨w.heap.size+1,4,none⟩=some (int i64 0):=(aa q1).trans rfl;have z5:w1.cell? ⟨w.heap.size+1,5,none⟩=some (int i64 0):=(aa q1).trans rfl;have fr:=ay q1;replace q1:=ab q1;have B1:=ab b1;have OW:=ab ow;clear b1 ow)
 refine bodyPost_ret (dr rfl _ _ (w.heap.size+1) _ _ (int i64 0) _ _ rfl rfl (js q1.out _ _ _ _ _ _) Tryz.underlying28 rfl jt) rfl ?_
 exact ⟨_,rfl,AO (KA OW.out (HL.out.1.size)) q1.out _ _ _ _ _ _,kN (HL.out.1.trans B1.out) (Nat.le_succ _) _ _ _ _ _ _⟩
end
end Go.Proofs.YtimjmdfokicbkaaGreat
