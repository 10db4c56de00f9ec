import Derived.Test.YtgiiapenmjollaaGreatSrav
import Derived.Laws.EntriesVeiled
namespace Go.Proofs.YtgiiapenmjollaaGreat
set_option linter.all false
set_option maxHeartbeats 40000000
set_option maxRecDepth 100000
open Go.RowKit
open Go.Value (int)
open Go.IntKind (i64)
variable {w:World}
def lQ (B:Bool) (ms:List Me) (entry fuel:Int) (na ni:Nat):Int :=
 if B=false then 2
 else if ¬(0<=entry/\entry<(ms.length:Int))∨¬(0<=fuel/\fuel<=60000) then 4
 else if 1000<ni then 1
 else if (!(mi (nth bO ms entry.toNat).params)&&decide (na=(nth bO ms entry.toNat).params.length))=true then 0 else 3
abbrev re:Value:=.agg #[.func (.func 16) #[] #[],.func (.func 17) #[] #[]]
abbrev rf (nc nm:Nat) (A B:Option Addr) (a b:Nat):Value:=.agg #[.slice A nc a,.slice B nm b]
abbrev lR:Obj:=.cells #[.func (.func 16) #[] #[],.func (.func 17) #[] #[]] 40
abbrev oC (nc nm:Nat) (A B:Option Addr) (a b:Nat):Obj:=.cells #[.slice A nc a,.slice B nm b] 25
theorem pb (T:Bool) (nc:Nat) (ms:List Me) (A B R I:Option Addr) (a b rc ic na ni:Nat) (entry fuel:Int) (w:World) (hB:eE w B ms) (hn:na<=maxLen) (hi:ni<=maxLen) (hM:∀w',Bl w w'->Calls Tryz.prog 16 #[rf nc ms.length A B a b] w' fun e w2=>e=.returned (.bool T)/\Bl w' w2) :
  Calls Tryz.prog 43 #[re,rf nc ms.length A B a b,int i64 entry,.slice R na rc,.slice I ni ic,int i64 fuel] w fun e w'=>e=.returned (int i64 (lQ T ms entry fuel na ni))/\Bl w w':=by
 have HB:=ab hB
 have jX:=hB.1
 unfold maxLen at jX hi
 have HN:=ab hn
 have HM:=ab hM
 have cE:Hid (Bl w ((w.alloc lR).alloc (oC nc ms.length A B a b))):=((Bl.refl w).alloc _).alloc _
 obtain ⟨L0,L1⟩:=bD w #[.func (.func 16) #[] #[],.func (.func 17) #[] #[]] #[.slice A nc a,.slice B ms.length b] 40 25
 have gx:=ab L1
 clear hB hn hM L0 L1
 unfold lQ
 cases T with
 | false =>
  rw [if_pos rfl]
  go_enter Tryz.func43,Tryz.ntmps43
  go_wp2_with (go_at_call 16;refine (HM.out _ cE.out).mono ?_;rintro e w1 ⟨rfl,b1⟩;replace b1:=ab b1)
  go_ret
  exact ⟨rfl,cE.out.trans b1.out⟩
 | true =>
  rw [if_neg (by decide)]
  have UE:True:=trivial
  by_cases he:0<=entry/\entry<(ms.length:Int)
  ·have d1:decide (0<=entry/\entry<(ms.length:Int))=true:=decide_eq_true he
   by_cases hf:0<=fuel/\fuel<=60000
   ·have d2:decide (0<=fuel/\fuel<=60000)=true:=decide_eq_true hf
    rw [if_neg (by simp [he,hf])]
    by_cases hs:1000<ni
    ·rw [if_pos hs]
     have Ol:(1000:Int)<(ni:Int):=by omega
     go_enter Tryz.func43,Tryz.ntmps43
     go_wp2_with (first
      | (go_at_call 16;refine (HM.out _ cE.out).mono ?_;rintro e w1 ⟨rfl,b1⟩;have q1:=ai b1 gx.out;have y1:w1.cell? ⟨w.heap.size+1,1,none⟩=some (.slice B ms.length b):=(aa q1).trans rfl;replace b1:=ab b1;replace q1:=ab q1)
      | (go_at_call 97;refine (bg _ _ _).mono ?_;rintro e w5 ⟨he,kS⟩;rw [d1] at he;subst he;rw [kS];clear kS w5)
      | (go_at_call 35;refine (bj _ _ _ _).mono ?_;rintro e w5 ⟨he,kS⟩;rw [d2] at he;subst he;rw [kS];clear kS w5))
     go_ret
     exact ⟨rfl,cE.out.trans b1.out⟩
    ·rw [if_neg hs]
     have Ol:¬(1000:Int)<(ni:Int):=by omega
     obtain ⟨e0,Xm⟩:∃e0:Nat,entry=e0:=⟨entry.toNat,by omega⟩
     subst Xm
     rcases HB.out.2 with z0|⟨mb,mo,rfl,hcell⟩
     ·omega
     obtain ⟨P,C,J,p,c,k,m0,-,-,-,-,-,-,-,hme⟩:=hcell e0 (by omega)
     rw [Int.toNat_natCast]
     obtain ⟨U,hU⟩:∃U,(!(mi (nth bO ms e0).params)&&decide (na=(nth bO ms e0).params.length))=U:=⟨_,rfl⟩
     have HU:=ab hU
     have HP:=ab hme.1
     rw [hU]
     generalize (nth bO ms e0).params=PL at *
     clear hcell hme hU
     cases U
     all_goals
      go_enter Tryz.func43,Tryz.ntmps43
      go_wp2_with (first
       | (go_at_call 16;refine (HM.out _ cE.out).mono ?_;rintro e w1 ⟨rfl,b1⟩;have q1:=ai b1 gx.out;have y1:w1.cell? ⟨w.heap.size+1,1,none⟩=some (.slice (some ⟨mb,mo,none⟩) ms.length b):=(aa q1).trans rfl;have m1:=(cE.out.trans b1).cell m0;replace b1:=ab b1;replace q1:=ab q1)
       | (go_at_call 97;refine (bg _ _ _).mono ?_;rintro e w5 ⟨he,kS⟩;rw [d1] at he;subst he;rw [kS];clear kS w5)
       | (go_at_call 35;refine (bj _ _ _ _).mono ?_;rintro e w5 ⟨he,kS⟩;rw [d2] at he;subst he;rw [kS];clear kS w5)
       | (go_at_call 98;refine (BI _ _ _ _ _ PL _ (HP.out.bl (cE.out.trans b1.out)) HN.out).mono ?_;rintro e w6 ⟨he,b6⟩;rw [HU.out] at he;subst he;replace b6:=ab b6))
      go_ret
      exact ⟨rfl,(cE.out.trans b1.out).trans b6.out⟩
   ·have d2:decide (0<=fuel/\fuel<=60000)=false:=decide_eq_false hf
    rw [if_pos (Or.inr hf)]
    go_enter Tryz.func43,Tryz.ntmps43
    go_wp2_with (first
     | (go_at_call 16;refine (HM.out _ cE.out).mono ?_;rintro e w1 ⟨rfl,b1⟩;have q1:=ai b1 gx.out;have y1:w1.cell? ⟨w.heap.size+1,1,none⟩=some (.slice B ms.length b):=(aa q1).trans rfl;replace b1:=ab b1;replace q1:=ab q1)
     | (go_at_call 97;refine (bg _ _ _).mono ?_;rintro e w5 ⟨he,kS⟩;rw [d1] at he;subst he;rw [kS];clear kS w5)
     | (go_at_call 35;refine (bj _ _ _ _).mono ?_;rintro e w5 ⟨he,kS⟩;rw [d2] at he;subst he;rw [kS];clear kS w5))
    go_ret
    exact ⟨rfl,cE.out.trans b1.out⟩
  ·have d1:decide (0<=entry/\entry<(ms.length:Int))=false:=decide_eq_false he
   rw [if_pos (Or.inl he)]
   go_enter Tryz.func43,Tryz.ntmps43
   go_wp2_with (first
    | (go_at_call 16;refine (HM.out _ cE.out).mono ?_;rintro e w1 ⟨rfl,b1⟩;have q1:=ai b1 gx.out;have y1:w1.cell? ⟨w.heap.size+1,1,none⟩=some (.slice B ms.length b):=(aa q1).trans rfl;replace b1:=ab b1;replace q1:=ab q1)
    | (go_at_call 97;refine (bg _ _ _).mono ?_;rintro e w5 ⟨he,kS⟩;rw [d1] at he;subst he;rw [kS];clear kS w5))
   go_ret
   exact ⟨rfl,cE.out.trans b1.out⟩
abbrev oD (how k n:Int):Obj:=.cells #[int i64 how,int i64 k,int i64 n] 102
abbrev iJ:Obj:=.cells #[int i64 0,int i64 0,int i64 0,.slice none 0 0,int i64 0,int i64 0] 28
theorem jv {b:Nat} {u0 u1 u2 u3 u4 u5:Value} {t:TypeId} (h:w.heap[b]?=some (.cells #[u0,u1,u2,u3,u4,u5] t (0,0))) (v0 v1 v2 v3 v4 v5:Value):((((((w.setCell ⟨b,0,none⟩ v0).setCell ⟨b,1,none⟩ v1).setCell ⟨b,2,none⟩ v2).setCell ⟨b,3,none⟩ v3).setCell ⟨b,4,none⟩ v4).setCell ⟨b,5,none⟩ v5).heap[b]?=some (.cells #[v0,v1,v2,v3,v4,v5] t (0,0)):=by
 rw [ax (ax (ax (ax (ax (ax h _) _) _) _) _) _];rfl
theorem kO {v:World} (h:Bl w v) {b:Nat} (hb:w.heap.size<=b) (y0 y1 y2 y3 y4 y5:Value):Bl w ((((((v.setCell ⟨b,0,none⟩ y0).setCell ⟨b,1,none⟩ y1).setCell ⟨b,2,none⟩ y2).setCell ⟨b,3,none⟩ y3).setCell ⟨b,4,none⟩ y4).setCell ⟨b,5,none⟩ y5) :=
 (((((h.setCell (p:=⟨b,0,none⟩) hb _).setCell (p:=⟨b,1,none⟩) hb _).setCell (p:=⟨b,2,none⟩) hb _).setCell (p:=⟨b,3,none⟩) hb _).setCell (p:=⟨b,4,none⟩) hb _).setCell (p:=⟨b,5,none⟩) hb _
theorem jw:(Tryz.prog.info? 28).map (·.size)=some 6:=by kernel_rfl
section
variable (how k n:Int) (g:Mg) (h:Hp) (Ax:Option Addr) (nx cx:Nat) (w:World)
theorem CS (r0:w.cell? ⟨g.r,0,none⟩=some (.pointer (some ⟨g.hb,0,none⟩))) (r6:w.cell? ⟨g.r,6,none⟩=some (int i64 h.sh.steps)) (r7:w.cell? ⟨g.r,7,none⟩=some (int i64 h.sh.used)) (r8:w.cell? ⟨g.r,8,none⟩=some (.slice Ax nx cx)) (hh:how≠2) (hk:k≠3) :
  Calls Tryz.prog 47 #[.pointer (some ⟨g.r,0,none⟩),.agg #[int i64 how,int i64 k,int i64 n]] w fun e w'=>e=.returned (.agg #[int i64 how,int i64 n,int i64 0,.slice Ax nx cx,int i64 h.sh.used,int i64 h.sh.steps])/\Bl w w':=by
 have cE:Hid (Bl w ((w.alloc (oD how k n)).alloc iJ)):=((Bl.refl w).alloc _).alloc _
 have HT:Hid (∀w',Bl ((w.alloc (oD how k n)).alloc iJ) w'->(fun w'=>Hid (Bl ((w.alloc (oD how k n)).alloc iJ) w')/\w'.cell? ⟨w.heap.size,0,none⟩=some (int i64 how)/\w'.cell? ⟨w.heap.size,1,none⟩=some (int i64 k)/\w'.cell? ⟨w.heap.size,2,none⟩=some (int i64 n)/\w'.cell? ⟨g.r,0,none⟩=some (.pointer (some ⟨g.hb,0,none⟩))/\w'.cell? ⟨g.r,6,none⟩=some (int i64 h.sh.steps)/\w'.cell? ⟨g.r,7,none⟩=some (int i64 h.sh.used)/\w'.cell? ⟨g.r,8,none⟩=some (.slice Ax nx cx)) w'):=fun w' hb=>by
  have dB:=cE.out.trans hb
  have mP:Bl (w.alloc (oD how k n)) w':=((Bl.refl _).alloc _).trans hb
  exact ⟨hb,mP.cell (ak rfl),mP.cell (ak rfl),mP.cell (ak rfl),dB.cell r0,dB.cell r6,dB.cell r7,dB.cell r8⟩
 have Lk:(how==2)=false:=by simpa using hh
 have Hq:(k !=3)=true:=by simpa using hk
 clear r0 r6 r7 r8 hh hk
 go_enter Tryz.func47,Tryz.ntmps47
 go_wp2
 refine wp_region_held_drew (S:=fun w'=>Hid (Bl ((w.alloc (oD how k n)).alloc iJ) w')/\w'.cell? ⟨w.heap.size,0,none⟩=some (int i64 how)/\w'.cell? ⟨w.heap.size,1,none⟩=some (int i64 k)/\w'.cell? ⟨w.heap.size,2,none⟩=some (int i64 n)/\w'.cell? ⟨g.r,0,none⟩=some (.pointer (some ⟨g.hb,0,none⟩))/\w'.cell? ⟨g.r,6,none⟩=some (int i64 h.sh.steps)/\w'.cell? ⟨g.r,7,none⟩=some (int i64 h.sh.used)/\w'.cell? ⟨g.r,8,none⟩=some (.slice Ax nx cx)) (by kernel_rfl) ?_ (fun ae=>?_)
 ·exact HT.out _ (Bl.refl _).drew
 iterate 15 (refine tn rfl (by kernel_rfl) (fun _ _ _ h=>h) (by intro _ h;go_split_ands;go_simp<;>with_reducible rfl) ae ?_;try simp only [aS,aN,aT,a0,a1])
 refine bI (i:=15) (by kernel_rfl) rfl fun K hK=>?_
 go_simp
 refine hK.out _ _ (HT.out _ (ae.1.out.alloc _)) (fun ah=>?_)
 try simp only [aS,aN,aT,a0,a1]
 refine bI (i:=16) (by kernel_rfl) rfl fun K hK=>?_
 go_simp
 refine hK.out _ _ (HT.out _ ((Bl.refl _).alloc _).drew) (fun aX=>?_)
 try simp only [aS,aN,aT,a0,a1]
 refine wpAnyH_done (by kernel_rfl) ?_ _
 obtain ⟨V,hV⟩:∃V,V=(((w.alloc (oD how k n)).alloc iJ).alloc (.cells #[int i64 how,int i64 0,int i64 0,.slice Ax nx cx,int i64 h.sh.used,int i64 h.sh.steps] 28)).drew:=⟨_,rfl⟩
 have mm:Bl w V:=by rw [hV];exact (cE.out.alloc _).drew
 obtain ⟨L0,L1⟩:=bD (w.alloc (oD how k n)) #[int i64 0,int i64 0,int i64 0,.slice none 0 0,int i64 0,int i64 0] #[int i64 how,int i64 0,int i64 0,.slice Ax nx cx,int i64 h.sh.used,int i64 h.sh.steps] 28 28
 rw [World.size_alloc] at L0 L1
 have qz:V.heap[w.heap.size+1]?=some (.cells #[int i64 0,int i64 0,int i64 0,.slice none 0 0,int i64 0,int i64 0] 28 (0,0)):=by rw [hV];exact L0
 have qv:V.heap[w.heap.size+1+1]?=some (.cells #[int i64 how,int i64 0,int i64 0,.slice Ax nx cx,int i64 h.sh.used,int i64 h.sh.steps] 28 (0,0)):=by rw [hV];exact L1
 have qs:V.heap[w.heap.size]?=some (.cells #[int i64 how,int i64 k,int i64 n] 102 (0,0)):=by rw [hV];exact ai ((((Bl.refl _).alloc _).alloc _).drew) (aD w _ _)
 rw [<-hV]
 clear hV L0 L1 aX ae ah
 have s0:V.cell? ⟨w.heap.size,0,none⟩=some (int i64 how):=(aa qs).trans rfl
 have s1:V.cell? ⟨w.heap.size,1,none⟩=some (int i64 k):=(aa qs).trans rfl
 have s2:V.cell? ⟨w.heap.size,2,none⟩=some (int i64 n):=(aa qs).trans rfl
 have y0:V.cell? ⟨w.heap.size+1+1,0,none⟩=some (int i64 how):=(aa qv).trans rfl
 have y1:V.cell? ⟨w.heap.size+1+1,1,none⟩=some (int i64 0):=(aa qv).trans rfl
 have y2:V.cell? ⟨w.heap.size+1+1,2,none⟩=some (int i64 0):=(aa qv).trans rfl
 have y3:V.cell? ⟨w.heap.size+1+1,3,none⟩=some (.slice Ax nx cx):=(aa qv).trans rfl
 have y4:V.cell? ⟨w.heap.size+1+1,4,none⟩=some (int i64 h.sh.used):=(aa qv).trans rfl
 have y5:V.cell? ⟨w.heap.size+1+1,5,none⟩=some (int i64 h.sh.steps):=(aa qv).trans rfl
 have z0:V.cell? ⟨w.heap.size+1,0,none⟩=some (int i64 0):=(aa qz).trans rfl
 have z1:V.cell? ⟨w.heap.size+1,1,none⟩=some (int i64 0):=(aa qz).trans rfl
 have z2:V.cell? ⟨w.heap.size+1,2,none⟩=some (int i64 0):=(aa qz).trans rfl
 have z3:V.cell? ⟨w.heap.size+1,3,none⟩=some (.slice none 0 0):=(aa qz).trans rfl
 have z4:V.cell? ⟨w.heap.size+1,4,none⟩=some (int i64 0):=(aa qz).trans rfl
 have z5:V.cell? ⟨w.heap.size+1,5,none⟩=some (int i64 0):=(aa qz).trans rfl
 have fv:=ay qv
 have fr:=ay qz
 have n1:w.heap.size+1+1≠w.heap.size+1:=by omega
 have n2:w.heap.size+1≠w.heap.size+1+1:=by omega
 replace qz:=ab qz
 replace qv:=ab qv
 replace qs:=ab qs
 replace mm:=ab mm
 go_wp2
 have q3:(V.setCell ⟨w.heap.size+1+1,1,none⟩ (int i64 n)).heap[w.heap.size+1]?=some (.cells #[int i64 0,int i64 0,int i64 0,.slice none 0 0,int i64 0,int i64 0] 28 (0,0)):=by rw [aA (by omega)];exact qz.out
 refine bodyPost_ret (results_cell_row rfl _ _ (w.heap.size+1) _ _ _ _ rfl (jv q3 _ _ _ _ _ _) Tryz.underlying28 rfl jw) rfl ?_
 exact ⟨rfl,kO (mm.out.setCell (p:=⟨w.heap.size+1+1,1,none⟩) (by show w.heap.size<=w.heap.size+1+1;omega) _) (Nat.le_succ _) _ _ _ _ _ _⟩
theorem CT (r0:w.cell? ⟨g.r,0,none⟩=some (.pointer (some ⟨g.hb,0,none⟩))) (r6:w.cell? ⟨g.r,6,none⟩=some (int i64 h.sh.steps)) (r7:w.cell? ⟨g.r,7,none⟩=some (int i64 h.sh.used)) (r8:w.cell? ⟨g.r,8,none⟩=some (.slice Ax nx cx)) (hh:how≠2) (hk:k=3) :
  Calls Tryz.prog 47 #[.pointer (some ⟨g.r,0,none⟩),.agg #[int i64 how,int i64 k,int i64 n]] w fun e w'=>e=.returned (.agg #[int i64 how,int i64 0,int i64 0,.slice Ax nx cx,int i64 h.sh.used,int i64 h.sh.steps])/\Bl w w':=by
 have cE:Hid (Bl w ((w.alloc (oD how k n)).alloc iJ)):=((Bl.refl w).alloc _).alloc _
 have HT:Hid (∀w',Bl ((w.alloc (oD how k n)).alloc iJ) w'->(fun w'=>Hid (Bl ((w.alloc (oD how k n)).alloc iJ) w')/\w'.cell? ⟨w.heap.size,0,none⟩=some (int i64 how)/\w'.cell? ⟨w.heap.size,1,none⟩=some (int i64 k)/\w'.cell? ⟨w.heap.size,2,none⟩=some (int i64 n)/\w'.cell? ⟨g.r,0,none⟩=some (.pointer (some ⟨g.hb,0,none⟩))/\w'.cell? ⟨g.r,6,none⟩=some (int i64 h.sh.steps)/\w'.cell? ⟨g.r,7,none⟩=some (int i64 h.sh.used)/\w'.cell? ⟨g.r,8,none⟩=some (.slice Ax nx cx)) w'):=fun w' hb=>by
  have dB:=cE.out.trans hb
  have mP:Bl (w.alloc (oD how k n)) w':=((Bl.refl _).alloc _).trans hb
  exact ⟨hb,mP.cell (ak rfl),mP.cell (ak rfl),mP.cell (ak rfl),dB.cell r0,dB.cell r6,dB.cell r7,dB.cell r8⟩
 have Lk:(how==2)=false:=by simpa using hh
 have Hq:(k !=3)=false:=by simp [hk]
 clear r0 r6 r7 r8 hh hk
 go_enter Tryz.func47,Tryz.ntmps47
 go_wp2
 refine wp_region_held_drew (S:=fun w'=>Hid (Bl ((w.alloc (oD how k n)).alloc iJ) w')/\w'.cell? ⟨w.heap.size,0,none⟩=some (int i64 how)/\w'.cell? ⟨w.heap.size,1,none⟩=some (int i64 k)/\w'.cell? ⟨w.heap.size,2,none⟩=some (int i64 n)/\w'.cell? ⟨g.r,0,none⟩=some (.pointer (some ⟨g.hb,0,none⟩))/\w'.cell? ⟨g.r,6,none⟩=some (int i64 h.sh.steps)/\w'.cell? ⟨g.r,7,none⟩=some (int i64 h.sh.used)/\w'.cell? ⟨g.r,8,none⟩=some (.slice Ax nx cx)) (by kernel_rfl) ?_ (fun ae=>?_)
 ·exact HT.out _ (Bl.refl _).drew
 iterate 15 (refine tn rfl (by kernel_rfl) (fun _ _ _ h=>h) (by intro _ h;go_split_ands;go_simp<;>with_reducible rfl) ae ?_;try simp only [aS,aN,aT,a0,a1])
 refine bI (i:=15) (by kernel_rfl) rfl fun K hK=>?_
 go_simp
 refine hK.out _ _ (HT.out _ (ae.1.out.alloc _)) (fun ah=>?_)
 try simp only [aS,aN,aT,a0,a1]
 refine bI (i:=16) (by kernel_rfl) rfl fun K hK=>?_
 go_simp
 refine hK.out _ _ (HT.out _ ((Bl.refl _).alloc _).drew) (fun aX=>?_)
 try simp only [aS,aN,aT,a0,a1]
 refine wpAnyH_done (by kernel_rfl) ?_ _
 obtain ⟨V,hV⟩:∃V,V=(((w.alloc (oD how k n)).alloc iJ).alloc (.cells #[int i64 how,int i64 0,int i64 0,.slice Ax nx cx,int i64 h.sh.used,int i64 h.sh.steps] 28)).drew:=⟨_,rfl⟩
 have mm:Bl w V:=by rw [hV];exact (cE.out.alloc _).drew
 obtain ⟨L0,L1⟩:=bD (w.alloc (oD how k n)) #[int i64 0,int i64 0,int i64 0,.slice none 0 0,int i64 0,int i64 0] #[int i64 how,int i64 0,int i64 0,.slice Ax nx cx,int i64 h.sh.used,int i64 h.sh.steps] 28 28
 rw [World.size_alloc] at L0 L1
 have qz:V.heap[w.heap.size+1]?=some (.cells #[int i64 0,int i64 0,int i64 0,.slice none 0 0,int i64 0,int i64 0] 28 (0,0)):=by rw [hV];exact L0
 have qv:V.heap[w.heap.size+1+1]?=some (.cells #[int i64 how,int i64 0,int i64 0,.slice Ax nx cx,int i64 h.sh.used,int i64 h.sh.steps] 28 (0,0)):=by rw [hV];exact L1
 have qs:V.heap[w.heap.size]?=some (.cells #[int i64 how,int i64 k,int i64 n] 102 (0,0)):=by rw [hV];exact ai ((((Bl.refl _).alloc _).alloc _).drew) (aD w _ _)
 rw [<-hV]
 clear hV L0 L1 aX ae ah
 have s0:V.cell? ⟨w.heap.size,0,none⟩=some (int i64 how):=(aa qs).trans rfl
 have s1:V.cell? ⟨w.heap.size,1,none⟩=some (int i64 k):=(aa qs).trans rfl
 have s2:V.cell? ⟨w.heap.size,2,none⟩=some (int i64 n):=(aa qs).trans rfl
 have y0:V.cell? ⟨w.heap.size+1+1,0,none⟩=some (int i64 how):=(aa qv).trans rfl
 have y1:V.cell? ⟨w.heap.size+1+1,1,none⟩=some (int i64 0):=(aa qv).trans rfl
 have y2:V.cell? ⟨w.heap.size+1+1,2,none⟩=some (int i64 0):=(aa qv).trans rfl
 have y3:V.cell? ⟨w.heap.size+1+1,3,none⟩=some (.slice Ax nx cx):=(aa qv).trans rfl
 have y4:V.cell? ⟨w.heap.size+1+1,4,none⟩=some (int i64 h.sh.used):=(aa qv).trans rfl
 have y5:V.cell? ⟨w.heap.size+1+1,5,none⟩=some (int i64 h.sh.steps):=(aa qv).trans rfl
 have z0:V.cell? ⟨w.heap.size+1,0,none⟩=some (int i64 0):=(aa qz).trans rfl
 have z1:V.cell? ⟨w.heap.size+1,1,none⟩=some (int i64 0):=(aa qz).trans rfl
 have z2:V.cell? ⟨w.heap.size+1,2,none⟩=some (int i64 0):=(aa qz).trans rfl
 have z3:V.cell? ⟨w.heap.size+1,3,none⟩=some (.slice none 0 0):=(aa qz).trans rfl
 have z4:V.cell? ⟨w.heap.size+1,4,none⟩=some (int i64 0):=(aa qz).trans rfl
 have z5:V.cell? ⟨w.heap.size+1,5,none⟩=some (int i64 0):=(aa qz).trans rfl
 have fv:=ay qv
 have fr:=ay qz
 have n1:w.heap.size+1+1≠w.heap.size+1:=by omega
 have n2:w.heap.size+1≠w.heap.size+1+1:=by omega
 replace qz:=ab qz
 replace qv:=ab qv
 replace qs:=ab qs
 replace mm:=ab mm
 go_wp2
 refine bodyPost_ret (results_cell_row rfl _ _ (w.heap.size+1) _ _ _ _ rfl (jv qz.out _ _ _ _ _ _) Tryz.underlying28 rfl jw) rfl ?_
 exact ⟨rfl,kO mm.out (Nat.le_succ _) _ _ _ _ _ _⟩
end
theorem CU (n:Nat) (CL:Int) (g:Mg) (h:Hp) (Ax:Option Addr) (nx cx:Nat) (w:World) (R:oX w g h) (hn:n<h.objs.length) (hC:(nth cB h.objs n).cls=CL) (r0:w.cell? ⟨g.r,0,none⟩=some (.pointer (some ⟨g.hb,0,none⟩))) (r6:w.cell? ⟨g.r,6,none⟩=some (int i64 h.sh.steps)) (r7:w.cell? ⟨g.r,7,none⟩=some (int i64 h.sh.used)) (r8:w.cell? ⟨g.r,8,none⟩=some (.slice Ax nx cx)) :
  Calls Tryz.prog 47 #[.pointer (some ⟨g.r,0,none⟩),.agg #[int i64 2,int i64 3,int i64 ((n:Int)+1)]] w fun e w'=>e=.returned (.agg #[int i64 2,int i64 0,int i64 CL,.slice Ax nx cx,int i64 h.sh.used,int i64 h.sh.steps])/\Bl w w':=by
 have cE:Hid (Bl w ((w.alloc (oD 2 3 ((n:Int)+1))).alloc iJ)):=((Bl.refl w).alloc _).alloc _
 have HT:Hid (∀w',Bl ((w.alloc (oD 2 3 ((n:Int)+1))).alloc iJ) w'->(fun w'=>Hid (Bl ((w.alloc (oD 2 3 ((n:Int)+1))).alloc iJ) w')/\w'.cell? ⟨w.heap.size,0,none⟩=some (int i64 2)/\w'.cell? ⟨w.heap.size,1,none⟩=some (int i64 3)/\w'.cell? ⟨w.heap.size,2,none⟩=some (int i64 ((n:Int)+1))/\w'.cell? ⟨g.r,0,none⟩=some (.pointer (some ⟨g.hb,0,none⟩))/\w'.cell? ⟨g.r,6,none⟩=some (int i64 h.sh.steps)/\w'.cell? ⟨g.r,7,none⟩=some (int i64 h.sh.used)/\w'.cell? ⟨g.r,8,none⟩=some (.slice Ax nx cx)) w'):=fun w' hb=>by
  have dB:=cE.out.trans hb
  have mP:Bl (w.alloc (oD 2 3 ((n:Int)+1))) w':=((Bl.refl _).alloc _).trans hb
  exact ⟨hb,mP.cell (ak rfl),mP.cell (ak rfl),mP.cell (ak rfl),dB.cell r0,dB.cell r6,dB.cell r7,dB.cell r8⟩
 have SH:Hid (∀w',Bl (w.alloc (oD 2 3 ((n:Int)+1))) w'->(fun w'=>Hid (Bl (w.alloc (oD 2 3 ((n:Int)+1))) w')/\w'.cell? ⟨w.heap.size,1,none⟩=some (int i64 3)/\w'.cell? ⟨w.heap.size,2,none⟩=some (int i64 ((n:Int)+1))/\w'.cell? ⟨g.r,0,none⟩=some (.pointer (some ⟨g.hb,0,none⟩))) w'):=fun w' hb =>
  ⟨hb,hb.cell (ak rfl),hb.cell (ak rfl),(((Bl.refl w).alloc _).trans hb).cell r0⟩
 have nu:Hid (∀w',Bl (w.alloc (oD 2 3 ((n:Int)+1))) w'->Calls Tryz.prog 103 #[.pointer (some ⟨g.hb,0,none⟩),cn ⟨3,(n:Int)+1⟩] w' fun e w2=>e=.returned (int i64 CL)/\Bl w' w2):=fun w' hb=>by
  have:=oY g h n w' (R.bl (((Bl.refl w).alloc _).trans hb)) hn
  rw [hC] at this
  exact this
 clear r0 r6 r7 r8 R hC hn
 go_enter Tryz.func47,Tryz.ntmps47
 go_wp2
 refine wp_region_held_drew (S:=fun w'=>Hid (Bl ((w.alloc (oD 2 3 ((n:Int)+1))).alloc iJ) w')/\w'.cell? ⟨w.heap.size,0,none⟩=some (int i64 2)/\w'.cell? ⟨w.heap.size,1,none⟩=some (int i64 3)/\w'.cell? ⟨w.heap.size,2,none⟩=some (int i64 ((n:Int)+1))/\w'.cell? ⟨g.r,0,none⟩=some (.pointer (some ⟨g.hb,0,none⟩))/\w'.cell? ⟨g.r,6,none⟩=some (int i64 h.sh.steps)/\w'.cell? ⟨g.r,7,none⟩=some (int i64 h.sh.used)/\w'.cell? ⟨g.r,8,none⟩=some (.slice Ax nx cx)) (by kernel_rfl) ?_ (fun ae=>?_)
 ·exact HT.out _ (Bl.refl _).drew
 iterate 15 (refine tn rfl (by kernel_rfl) (fun _ _ _ h=>h) (by intro _ h;go_split_ands;go_simp<;>with_reducible rfl) ae ?_;try simp only [aS,aN,aT,a0,a1])
 refine bI (i:=15) (by kernel_rfl) rfl fun K hK=>?_
 go_simp
 refine hK.out _ _ (HT.out _ (ae.1.out.alloc _)) (fun ah=>?_)
 try simp only [aS,aN,aT,a0,a1]
 refine bI (i:=16) (by kernel_rfl) rfl fun K hK=>?_
 go_simp
 refine hK.out _ _ (HT.out _ ((Bl.refl _).alloc _).drew) (fun aX=>?_)
 try simp only [aS,aN,aT,a0,a1]
 refine wpAnyH_done (by kernel_rfl) ?_ _
 obtain ⟨V,hV⟩:∃V,V=(((w.alloc (oD 2 3 ((n:Int)+1))).alloc iJ).alloc (.cells #[int i64 2,int i64 0,int i64 0,.slice Ax nx cx,int i64 h.sh.used,int i64 h.sh.steps] 28)).drew:=⟨_,rfl⟩
 have mm:Bl w V:=by rw [hV];exact (cE.out.alloc _).drew
 obtain ⟨L0,L1⟩:=bD (w.alloc (oD 2 3 ((n:Int)+1))) #[int i64 0,int i64 0,int i64 0,.slice none 0 0,int i64 0,int i64 0] #[int i64 2,int i64 0,int i64 0,.slice Ax nx cx,int i64 h.sh.used,int i64 h.sh.steps] 28 28
 rw [World.size_alloc] at L0 L1
 have qz:V.heap[w.heap.size+1]?=some (.cells #[int i64 0,int i64 0,int i64 0,.slice none 0 0,int i64 0,int i64 0] 28 (0,0)):=by rw [hV];exact L0
 have qv:V.heap[w.heap.size+1+1]?=some (.cells #[int i64 2,int i64 0,int i64 0,.slice Ax nx cx,int i64 h.sh.used,int i64 h.sh.steps] 28 (0,0)):=by rw [hV];exact L1
 have qs:V.heap[w.heap.size]?=some (.cells #[int i64 2,int i64 3,int i64 ((n:Int)+1)] 102 (0,0)):=by rw [hV];exact ai ((((Bl.refl _).alloc _).alloc _).drew) (aD w _ _)
 have Pp:Bl (w.alloc (oD 2 3 ((n:Int)+1))) V:=by rw [hV];exact (((Bl.refl _).alloc _).alloc _).drew
 rw [<-hV]
 clear hV L0 L1 aX ae ah
 have s0:V.cell? ⟨w.heap.size,0,none⟩=some (int i64 2):=(aa qs).trans rfl
 have s1:V.cell? ⟨w.heap.size,1,none⟩=some (int i64 3):=(aa qs).trans rfl
 have s2:V.cell? ⟨w.heap.size,2,none⟩=some (int i64 ((n:Int)+1)):=(aa qs).trans rfl
 have Kc:Hid (Bl (w.alloc (oD 2 3 ((n:Int)+1))) V):=Pp
 replace qz:=ab qz
 replace qv:=ab qv
 replace qs:=ab qs
 replace mm:=ab mm
 clear Pp
 go_wp2
 refine wp_region_held_drew (S:=fun w'=>Hid (Bl (w.alloc (oD 2 3 ((n:Int)+1))) w')/\w'.cell? ⟨w.heap.size,1,none⟩=some (int i64 3)/\w'.cell? ⟨w.heap.size,2,none⟩=some (int i64 ((n:Int)+1))/\w'.cell? ⟨g.r,0,none⟩=some (.pointer (some ⟨g.hb,0,none⟩))) (by kernel_rfl) ?_ (fun ae=>?_)
 ·exact SH.out _ Kc.out.drew
 iterate 6 (refine tn rfl (by kernel_rfl) (fun _ _ _ h=>h) (by intro _ h;go_split_ands;go_simp<;>with_reducible rfl) ae ?_;try simp only [aS,aN,aT,a0,a1])
 refine bI (i:=6) (by kernel_rfl) rfl fun K hK=>?_
 go_simp
 go_at_call 103
 refine (nu.out _ Kc.out.drew).mono ?_
 rintro e w3 ⟨rfl,b3⟩
 have B3:Hid (Bl V w3):=(Bl.refl V).drew.trans b3
 have kX:=ai B3.out qv.out
 have YM:=ay kX
 have YN:w3.cell? ⟨w.heap.size+1+1,2,none⟩=some (int i64 0):=(aa kX).trans rfl
 replace kX:=ab kX
 clear b3
 go_wp2_with fail
 refine hK.out _ _ (SH.out _ (Kc.out.trans B3.out)) (fun ah=>?_)
 try simp only [aS,aN,aT,a0,a1]
 refine tn rfl (by kernel_rfl) (fun _ _ _ h=>h) (by intro _ h;go_split_ands;go_simp<;>with_reducible rfl) ah ?_
 try simp only [aS,aN,aT,a0,a1]
 refine bI (i:=8) (by kernel_rfl) rfl fun K hK=>?_
 go_simp
 refine hK.out _ _ (SH.out _ ((Kc.out.trans B3.out).setCell (p:=⟨w.heap.size+1+1,2,none⟩) (by simp) _)) (fun aX=>?_)
 try simp only [aS,aN,aT,a0,a1]
 refine wpAnyH_done (by kernel_rfl) ?_ _
 obtain ⟨V2,Pq⟩:∃V2,V2=w3.setCell ⟨w.heap.size+1+1,2,none⟩ (int i64 CL):=⟨_,rfl⟩
 have Kd:V2.heap[w.heap.size+1+1]?=some (.cells #[int i64 2,int i64 0,int i64 CL,.slice Ax nx cx,int i64 h.sh.used,int i64 h.sh.steps] 28 (0,0)):=by rw [Pq,ax kX.out];rfl
 have G9:V2.heap[w.heap.size+1]?=some (.cells #[int i64 0,int i64 0,int i64 0,.slice none 0 0,int i64 0,int i64 0] 28 (0,0)):=by rw [Pq,aA (by omega)];exact ai B3.out qz.out
 have dB:Bl w V2:=by rw [Pq];exact (mm.out.trans B3.out).setCell (p:=⟨w.heap.size+1+1,2,none⟩) (by show w.heap.size<=w.heap.size+1+1;omega) _
 rw [<-Pq]
 clear Pq ae ah aX
 have y0:V2.cell? ⟨w.heap.size+1+1,0,none⟩=some (int i64 2):=(aa Kd).trans rfl
 have y1:V2.cell? ⟨w.heap.size+1+1,1,none⟩=some (int i64 0):=(aa Kd).trans rfl
 have y2:V2.cell? ⟨w.heap.size+1+1,2,none⟩=some (int i64 CL):=(aa Kd).trans rfl
 have y3:V2.cell? ⟨w.heap.size+1+1,3,none⟩=some (.slice Ax nx cx):=(aa Kd).trans rfl
 have y4:V2.cell? ⟨w.heap.size+1+1,4,none⟩=some (int i64 h.sh.used):=(aa Kd).trans rfl
 have y5:V2.cell? ⟨w.heap.size+1+1,5,none⟩=some (int i64 h.sh.steps):=(aa Kd).trans rfl
 have z0:V2.cell? ⟨w.heap.size+1,0,none⟩=some (int i64 0):=(aa G9).trans rfl
 have z1:V2.cell? ⟨w.heap.size+1,1,none⟩=some (int i64 0):=(aa G9).trans rfl
 have z2:V2.cell? ⟨w.heap.size+1,2,none⟩=some (int i64 0):=(aa G9).trans rfl
 have z3:V2.cell? ⟨w.heap.size+1,3,none⟩=some (.slice none 0 0):=(aa G9).trans rfl
 have z4:V2.cell? ⟨w.heap.size+1,4,none⟩=some (int i64 0):=(aa G9).trans rfl
 have z5:V2.cell? ⟨w.heap.size+1,5,none⟩=some (int i64 0):=(aa G9).trans rfl
 have fv:=ay Kd
 have fr:=ay G9
 have n1:w.heap.size+1+1≠w.heap.size+1:=by omega
 have n2:w.heap.size+1≠w.heap.size+1+1:=by omega
 replace G9:=ab G9
 replace Kd:=ab Kd
 replace dB:=ab dB
 go_wp2
 refine bodyPost_ret (results_cell_row rfl _ _ (w.heap.size+1) _ _ _ _ rfl (jv G9.out _ _ _ _ _ _) Tryz.underlying28 rfl jw) rfl ?_
 exact ⟨rfl,kO dB.out (Nat.le_succ _) _ _ _ _ _ _⟩
theorem RX.c0910 {s:Nat} {X:Nat->Prop} {wx w0:World} {g:Mg} {h:Hp} {qs:List Nat} {a:Mc} {c:aH} (H:RX s X wx w0 g w h qs a c):w.cell? ⟨a.q,0,none⟩=some (.pointer (some ⟨g.hb,0,none⟩))/\w.cell? ⟨a.q,9,none⟩=some (.slice a.K c.m.hands.length a.k)/\w.cell? ⟨a.q,10,none⟩=some (int i64 c.pc):=by
 obtain ⟨vc,vo,vx,vs,l,H⟩:=H
 refine ⟨?_,?_,?_⟩<;>(rw [aa H.ca.blk];rfl)
section
variable {s:Nat} {X Y:Nat->Prop} {wx w0 w:World} {g:Mg} {h:Hp} {qs:List Nat} {a:Mc} {c:aH}
theorem cK.clrs (H:cK s X Y wx w0 g w h qs a c):cK s X Y wx w0 g (w.setCell ⟨a.q,12,none⟩ (.slice none 0 0)) h qs a { c with stk:=[] }:=by
 obtain ⟨vc,vo,vx,vs,l,H,F⟩:=H
 refine ⟨vc,vo,vx,.slice none 0 0,l,H.setq (c':={ c with stk:=[] }) rfl rfl rfl ⟨rfl,Or.inl ⟨rfl,rfl⟩⟩ (fun b e=>by simp [Value.ownBlock] at e) (fun v hv=>by cases hv),fun b hy=>?_⟩
 obtain ⟨h1,h2,h3,h4,h5⟩:=F b hy
 exact ⟨by simpa [World.setCell] using h1,h2,h3,h4,h5.q,h5.l,fun e=>by simp [Value.ownBlock] at e⟩
theorem cK.c12 (H:cK s X Y wx w0 g w h qs a c):∃vs,w.cell? ⟨a.q,12,none⟩=some vs/\∀i,w.frozen? ⟨a.q,i,none⟩=false:=by
 obtain ⟨vc,vo,vx,vs,l,H,F⟩:=H
 exact ⟨vs,H.ca.cells.c12,H.ca.free⟩
end
section
variable (s:Nat) (X:Nat->Prop) (wx w0:World) (g:Mg) (h:Hp) (qs:List Nat) (a:Mc) (c:aH) (v:Va) (w:World)
theorem Gr (H:RX s X wx w0 g w h qs a c) (F:Fix w0 g h) (hf:h.objs.length<=100) (hv:v.kind=3) (h0:0<=v.n) (hn:v.n<h.objs.length) (ht:h.thrown=v.n) (hok:∀q,q<c.m.hands.length->0<=(nth eD c.m.hands q).fr/\(nth eD c.m.hands q).til<=1000/\0<=(nth eD c.m.hands q).til/\0<=(nth eD c.m.hands q).pc) (oV:0<=c.pc/\c.pc<=1000) (hcl:h.caughtL c.pc c.m.hands<0) :
  Calls Tryz.prog 42 #[.pointer (some ⟨a.q,0,none⟩),cn (im v)] w fun e w'=>e=.returned (.bool false)/\RX s X wx w0 g w' h qs a c:=by
 have HH:=ab H
 have cE:Hid (Bl w (w.alloc (dL (im v)))):=(Bl.refl w).alloc _
 have Lv:Hid (∀w',Bl w w'->Calls Tryz.prog 96 #[.pointer (some ⟨g.hb,0,none⟩),.slice a.K c.m.hands.length a.k,int i64 c.pc,cn (im v)] w' fun e w2=>Qg h c.pc c.m.hands w' e w2):=fun w' hb=>by
  have H':=H.bl hb
  obtain ⟨vc,vo,vx,vs,l,HA⟩:=H'
  exact lC g h v c.m.hands a.K a.k c.pc w' (HA.rh.rd F hf) (HA.ca.me.2.2.1.bl HA.rh.bl) hv h0 hn ht hok oV
 obtain ⟨k0,k9,Gk⟩:=H.c0910
 have HT:Hid (∀w',Bl (w.alloc (dL (im v))) w'->(fun w'=>Hid (Bl (w.alloc (dL (im v))) w')/\w'.cell? ⟨a.q,0,none⟩=some (.pointer (some ⟨g.hb,0,none⟩))/\w'.cell? ⟨a.q,9,none⟩=some (.slice a.K c.m.hands.length a.k)/\w'.cell? ⟨a.q,10,none⟩=some (int i64 c.pc)/\w'.cell? ⟨w.heap.size,0,none⟩=some (int i64 (im v).kind)/\w'.cell? ⟨w.heap.size,1,none⟩=some (int i64 (im v).n)) w'):=fun w' hb=>by
  have dB:=cE.out.trans hb
  exact ⟨hb,dB.cell k0,dB.cell k9,dB.cell Gk,hb.cell (ak rfl),hb.cell (ak rfl)⟩
 have nu:=ab hcl
 have HZ:Hid (((w.alloc (dL (im v))).alloc yA).heap[w.heap.size+1]?=some (.cells #[int i64 0,int i64 0,int i64 0,int i64 0] 108 (0,0))):=by
  have:=aD (w.alloc (dL (im v))) #[int i64 0,int i64 0,int i64 0,int i64 0] 108
  rwa [World.size_alloc] at this
 have hq:=H.qlt
 clear H F hf hv h0 hn ht hok oV hcl k0 k9 Gk
 go_enter Tryz.func42,Tryz.ntmps42
 go_wp2
 refine wp_region_held_drew (S:=fun w'=>Hid (Bl (w.alloc (dL (im v))) w')/\w'.cell? ⟨a.q,0,none⟩=some (.pointer (some ⟨g.hb,0,none⟩))/\w'.cell? ⟨a.q,9,none⟩=some (.slice a.K c.m.hands.length a.k)/\w'.cell? ⟨a.q,10,none⟩=some (int i64 c.pc)/\w'.cell? ⟨w.heap.size,0,none⟩=some (int i64 (im v).kind)/\w'.cell? ⟨w.heap.size,1,none⟩=some (int i64 (im v).n)) (by kernel_rfl) ?_ (fun ae=>?_)
 ·exact HT.out _ (Bl.refl _).drew
 iterate 14 (refine tn rfl (by kernel_rfl) (fun _ _ _ h=>h) (by intro _ h;go_split_ands;go_simp<;>with_reducible rfl) ae ?_;try simp only [aS,aN,aT,a0,a1])
 refine wpAnyH_ready (rs:=[14,18]) (by kernel_rfl) (by simp) ?_
 refine AllReadyH.cons rfl (fun K hK=>?_) (AllReadyH.cons rfl (fun K hK=>?_) (AllReadyH.nil))
 ·go_simp
  go_at_call 96
  refine (Lv.out _ (cE.out.trans ae.1.out)).mono ?_
  rintro e w1 ⟨b1,x,hx⟩
  have he:∃x:Hd,e=.returned (.tuple #[.agg (zW x),.bool false]):=by
   rcases hx with ⟨z,-⟩|⟨-,z⟩
   ·exact absurd z (by have:=nu.out;omega)
   ·exact ⟨x,z⟩
  obtain ⟨y,rfl⟩:=he
  clear hx
  unfold zW
  have hb1:=ab (ae.1.out.trans b1)
  clear b1
  go_wp2_with fail
  refine hK.out _ _ (HT.out _ hb1.out) (fun ah=>?_)
  try simp only [aS,aN,aT,a0,a1]
  iterate 3 (refine tn rfl (by kernel_rfl) (fun _ _ _ h=>h) (by intro _ h;go_split_ands;go_simp<;>with_reducible rfl) ah ?_;try simp only [aS,aN,aT,a0,a1])
  refine bI (i:=18) (by kernel_rfl) rfl fun K hK=>?_
  go_simp
  have mm:=ab (hb1.out.alloc yA)
  have cV:(w1.alloc yA).heap[w1.heap.size]?=some (.cells #[int i64 0,int i64 0,int i64 0,int i64 0] 108 (0,0)):=aD _ _ _
  have vP:=hb1.out.size
  obtain ⟨B,dQ⟩:∃B,B=w1.heap.size:=⟨_,rfl⟩
  rw [<-dQ] at cV vP
  simp only [<-dQ]
  have hB:=ab vP
  clear dQ vP
  replace cV:=ab cV
  generalize w1.alloc yA=V at *
  refine hK.out _ _ (HT.out _ mm.out) (fun aX=>?_)
  try simp only [aS,aN,aT,a0,a1]
  refine bI (i:=19) (by kernel_rfl) rfl fun K hK=>?_
  have y0:V.cell? ⟨B,0,none⟩=some (int i64 0):=(aa cV.out).trans rfl
  have y1:V.cell? ⟨B,1,none⟩=some (int i64 0):=(aa cV.out).trans rfl
  have y2:V.cell? ⟨B,2,none⟩=some (int i64 0):=(aa cV.out).trans rfl
  have y3:V.cell? ⟨B,3,none⟩=some (int i64 0):=(aa cV.out).trans rfl
  have fz:=ay cV.out
  have Ke:=ab aX
  clear aX
  go_simp
  have ri:=ab (jO mm.out hB.out (int i64 y.fr) (int i64 y.til) (int i64 y.pc) (int i64 y.cls))
  have CV:=ab (iv cV.out (int i64 y.fr) (int i64 y.til) (int i64 y.pc) (int i64 y.cls))
  clear y0 y1 y2 y3 fz
  refine hK.out _ _ (HT.out _ ri.out) (fun dh=>?_)
  try simp only [aS,aN,aT,a0,a1]
  refine tn rfl (by kernel_rfl) (fun _ _ _ h=>h) (by intro _ h;go_split_ands;go_simp<;>with_reducible rfl) dh ?_
  try simp only [aS,aN,aT,a0,a1]
  refine wpAnyH_done (by kernel_rfl) ?_ _
  go_wp2
  go_ret
  exact ⟨rfl,HH.out.bl (cE.out.trans dh.1.out)⟩
 ·go_simp
  refine hK.out _ _ (HT.out _ (ae.1.out.alloc _)) (fun dm=>?_)
  try simp only [aS,aN,aT,a0,a1]
  refine bI (i:=14) (by kernel_rfl) rfl fun K hK=>?_
  go_simp
  go_at_call 96
  refine (Lv.out _ (cE.out.trans dm.1.out)).mono ?_
  rintro e V ⟨b1,x,hx⟩
  have he:∃x:Hd,e=.returned (.tuple #[.agg (zW x),.bool false]):=by
   rcases hx with ⟨z,-⟩|⟨-,z⟩
   ·exact absurd z (by have:=nu.out;omega)
   ·exact ⟨x,z⟩
  obtain ⟨y,rfl⟩:=he
  clear hx
  unfold zW
  have mm:=ab (dm.1.out.trans b1)
  have cV:V.heap[w.heap.size+1]?=some (.cells #[int i64 0,int i64 0,int i64 0,int i64 0] 108 (0,0)):=ai b1 (show _=_ from HZ.out)
  obtain ⟨B,dQ⟩:∃B,B=w.heap.size+1:=⟨_,rfl⟩
  rw [<-dQ] at cV
  simp only [<-dQ]
  have hB:Hid ((w.alloc (dL (im v))).heap.size<=B):=by show (w.alloc (dL (im v))).heap.size<=B;rw [dQ,World.size_alloc];exact Nat.le_refl _
  clear dQ b1
  replace cV:=ab cV
  go_wp2_with fail
  refine hK.out _ _ (HT.out _ mm.out) (fun eL=>?_)
  try simp only [aS,aN,aT,a0,a1]
  iterate 3 (refine tn rfl (by kernel_rfl) (fun _ _ _ h=>h) (by intro _ h;go_split_ands;go_simp<;>with_reducible rfl) eL ?_;try simp only [aS,aN,aT,a0,a1])
  refine bI (i:=19) (by kernel_rfl) rfl fun K hK=>?_
  have y0:V.cell? ⟨B,0,none⟩=some (int i64 0):=(aa cV.out).trans rfl
  have y1:V.cell? ⟨B,1,none⟩=some (int i64 0):=(aa cV.out).trans rfl
  have y2:V.cell? ⟨B,2,none⟩=some (int i64 0):=(aa cV.out).trans rfl
  have y3:V.cell? ⟨B,3,none⟩=some (int i64 0):=(aa cV.out).trans rfl
  have fz:=ay cV.out
  have Ke:=ab eL
  clear eL
  go_simp
  have ri:=ab (jO mm.out hB.out (int i64 y.fr) (int i64 y.til) (int i64 y.pc) (int i64 y.cls))
  have CV:=ab (iv cV.out (int i64 y.fr) (int i64 y.til) (int i64 y.pc) (int i64 y.cls))
  clear y0 y1 y2 y3 fz
  refine hK.out _ _ (HT.out _ ri.out) (fun fp=>?_)
  try simp only [aS,aN,aT,a0,a1]
  refine tn rfl (by kernel_rfl) (fun _ _ _ h=>h) (by intro _ h;go_split_ands;go_simp<;>with_reducible rfl) fp ?_
  try simp only [aS,aN,aT,a0,a1]
  refine wpAnyH_done (by kernel_rfl) ?_ _
  go_wp2
  go_ret
  exact ⟨rfl,HH.out.bl (cE.out.trans fp.1.out)⟩
theorem xC (H:RX s X wx w0 g w h qs a c) (hv:1<=v.kind/\v.kind<=3) (hs:c.stk.length<=1000) (hr:(aQ (c.stk++[v]):Int)<=c.m.stack) :
  Calls Tryz.prog 95 #[.pointer (some ⟨a.q,0,none⟩),cn (im v)] w fun e w'=>e=.returned (.tuple #[])/\RX s X wx w0 g w' h qs a (c.put v) :=
 (cM s X wx w0 g h qs a c v w H hv hs).mono fun e w' ⟨he,H'⟩=>⟨by rw [he,if_pos hr],H'⟩
theorem Ay (H:RX s X wx w0 g w h qs a c) (hv:1<=v.kind/\v.kind<=3) (hs:c.stk.length<=1000) (hr:¬(aQ (c.stk++[v]):Int)<=c.m.stack) :
  Calls Tryz.prog 95 #[.pointer (some ⟨a.q,0,none⟩),cn (im v)] w fun e w'=>e=aV 6 0 0/\RS s X wx w0 g w' h qs a c :=
 (cM s X wx w0 g h qs a c v w H hv hs).mono fun e w' ⟨he,H'⟩=>⟨by rw [he,if_neg hr],c.put v,rfl,⟨rfl,rfl⟩,H'⟩
theorem CW (H:RX s X wx w0 g w h qs a c) (F:Fix w0 g h) (hf:h.objs.length<=100) (hv:v.kind=3) (h0:0<=v.n) (hn:v.n<h.objs.length) (ht:h.thrown=v.n) (hok:∀q,q<c.m.hands.length->0<=(nth eD c.m.hands q).fr/\(nth eD c.m.hands q).til<=1000/\0<=(nth eD c.m.hands q).til/\0<=(nth eD c.m.hands q).pc) (oV:0<=c.pc/\c.pc<=1000) (hcl:0<=h.caughtL c.pc c.m.hands) (hr:(aQ [v]:Int)<=c.m.stack) :
  Calls Tryz.prog 42 #[.pointer (some ⟨a.q,0,none⟩),cn (im v)] w fun e w'=>e=.returned (.bool true)/\RX s X wx w0 g w' h qs a { c with stk:=[v],pc:=h.caughtL c.pc c.m.hands }:=by
 have HH:=ab H
 have cE:Hid (Bl w (w.alloc (dL (im v)))):=(Bl.refl w).alloc _
 have Lv:Hid (∀w',Bl w w'->Calls Tryz.prog 96 #[.pointer (some ⟨g.hb,0,none⟩),.slice a.K c.m.hands.length a.k,int i64 c.pc,cn (im v)] w' fun e w2=>Qg h c.pc c.m.hands w' e w2):=fun w' hb=>by
  have H':=H.bl hb
  obtain ⟨vc,vo,vx,vs,l,HA⟩:=H'
  exact lC g h v c.m.hands a.K a.k c.pc w' (HA.rh.rd F hf) (HA.ca.me.2.2.1.bl HA.rh.bl) hv h0 hn ht hok oV
 obtain ⟨k0,k9,Gk⟩:=H.c0910
 have HT:Hid (∀w',Bl (w.alloc (dL (im v))) w'->(fun w'=>Hid (Bl (w.alloc (dL (im v))) w')/\w'.cell? ⟨a.q,0,none⟩=some (.pointer (some ⟨g.hb,0,none⟩))/\w'.cell? ⟨a.q,9,none⟩=some (.slice a.K c.m.hands.length a.k)/\w'.cell? ⟨a.q,10,none⟩=some (int i64 c.pc)/\w'.cell? ⟨w.heap.size,0,none⟩=some (int i64 (im v).kind)/\w'.cell? ⟨w.heap.size,1,none⟩=some (int i64 (im v).n)) w'):=fun w' hb=>by
  have dB:=cE.out.trans hb
  exact ⟨hb,dB.cell k0,dB.cell k9,dB.cell Gk,hb.cell (ak rfl),hb.cell (ak rfl)⟩
 have nu:=ab hcl
 have HZ:Hid (((w.alloc (dL (im v))).alloc yA).heap[w.heap.size+1]?=some (.cells #[int i64 0,int i64 0,int i64 0,int i64 0] 108 (0,0))):=by
  have:=aD (w.alloc (dL (im v))) #[int i64 0,int i64 0,int i64 0,int i64 0] 108
  rwa [World.size_alloc] at this
 have hq:=H.qlt
 have EY:=ab hr
 have M9:Hid (1<=v.kind/\v.kind<=3):=by show 1<=v.kind/\v.kind<=3;omega
 clear H F hf hv h0 hn ht hok oV hcl k0 k9 Gk hr
 go_enter Tryz.func42,Tryz.ntmps42
 go_wp2
 refine wp_region_held_drew (S:=fun w'=>Hid (Bl (w.alloc (dL (im v))) w')/\w'.cell? ⟨a.q,0,none⟩=some (.pointer (some ⟨g.hb,0,none⟩))/\w'.cell? ⟨a.q,9,none⟩=some (.slice a.K c.m.hands.length a.k)/\w'.cell? ⟨a.q,10,none⟩=some (int i64 c.pc)/\w'.cell? ⟨w.heap.size,0,none⟩=some (int i64 (im v).kind)/\w'.cell? ⟨w.heap.size,1,none⟩=some (int i64 (im v).n)) (by kernel_rfl) ?_ (fun ae=>?_)
 ·exact HT.out _ (Bl.refl _).drew
 iterate 14 (refine tn rfl (by kernel_rfl) (fun _ _ _ h=>h) (by intro _ h;go_split_ands;go_simp<;>with_reducible rfl) ae ?_;try simp only [aS,aN,aT,a0,a1])
 refine wpAnyH_ready (rs:=[14,18]) (by kernel_rfl) (by simp) ?_
 refine AllReadyH.cons rfl (fun K hK=>?_) (AllReadyH.cons rfl (fun K hK=>?_) (AllReadyH.nil))
 ·go_simp
  go_at_call 96
  refine (Lv.out _ (cE.out.trans ae.1.out)).mono ?_
  rintro e w1 ⟨b1,x,hx⟩
  have he:∃x:Hd,x.pc=h.caughtL c.pc c.m.hands/\e=.returned (.tuple #[.agg (zW x),.bool true]):=by
   rcases hx with ⟨-,z,z2⟩|⟨z,-⟩
   ·exact ⟨x,z,z2⟩
   ·exact absurd z (by have:=nu.out;omega)
  obtain ⟨y,hy,rfl⟩:=he
  replace hy:=ab hy
  clear hx
  unfold zW
  have hb1:=ab (ae.1.out.trans b1)
  clear b1
  go_wp2_with fail
  refine hK.out _ _ (HT.out _ hb1.out) (fun ah=>?_)
  try simp only [aS,aN,aT,a0,a1]
  iterate 3 (refine tn rfl (by kernel_rfl) (fun _ _ _ h=>h) (by intro _ h;go_split_ands;go_simp<;>with_reducible rfl) ah ?_;try simp only [aS,aN,aT,a0,a1])
  refine bI (i:=18) (by kernel_rfl) rfl fun K hK=>?_
  go_simp
  have mm:=ab (hb1.out.alloc yA)
  have cV:(w1.alloc yA).heap[w1.heap.size]?=some (.cells #[int i64 0,int i64 0,int i64 0,int i64 0] 108 (0,0)):=aD _ _ _
  have vP:=hb1.out.size
  obtain ⟨B,dQ⟩:∃B,B=w1.heap.size:=⟨_,rfl⟩
  rw [<-dQ] at cV vP
  simp only [<-dQ]
  have hB:=ab vP
  clear dQ vP
  replace cV:=ab cV
  generalize w1.alloc yA=V at *
  refine hK.out _ _ (HT.out _ mm.out) (fun aX=>?_)
  try simp only [aS,aN,aT,a0,a1]
  refine bI (i:=19) (by kernel_rfl) rfl fun K hK=>?_
  have y0:V.cell? ⟨B,0,none⟩=some (int i64 0):=(aa cV.out).trans rfl
  have y1:V.cell? ⟨B,1,none⟩=some (int i64 0):=(aa cV.out).trans rfl
  have y2:V.cell? ⟨B,2,none⟩=some (int i64 0):=(aa cV.out).trans rfl
  have y3:V.cell? ⟨B,3,none⟩=some (int i64 0):=(aa cV.out).trans rfl
  have fz:=ay cV.out
  have Ke:=ab aX
  clear aX
  go_simp
  have ri:=ab (jO mm.out hB.out (int i64 y.fr) (int i64 y.til) (int i64 y.pc) (int i64 y.cls))
  have CV:=ab (iv cV.out (int i64 y.fr) (int i64 y.til) (int i64 y.pc) (int i64 y.cls))
  clear y0 y1 y2 y3 fz
  refine hK.out _ _ (HT.out _ ri.out) (fun dh=>?_)
  try simp only [aS,aN,aT,a0,a1]
  refine tn rfl (by kernel_rfl) (fun _ _ _ h=>h) (by intro _ h;go_split_ands;go_simp<;>with_reducible rfl) dh ?_
  try simp only [aS,aN,aT,a0,a1]
  refine wpAnyH_done (by kernel_rfl) ?_ _
  obtain ⟨W4,rj⟩:∃W4,W4=(((V.setCell ⟨B,0,none⟩ (int i64 y.fr)).setCell ⟨B,1,none⟩ (int i64 y.til)).setCell ⟨B,2,none⟩ (int i64 y.pc)).setCell ⟨B,3,none⟩ (int i64 y.cls):=⟨_,rfl⟩
  have hbw:Bl w W4:=by rw [rj];exact cE.out.trans ri.out
  have mU:W4.heap[B]?=some (.cells #[int i64 y.fr,int i64 y.til,int i64 y.pc,int i64 y.cls] 108 (0,0)):=by rw [rj];exact CV.out
  have rm:W4.heap[w.heap.size]?=some (.cells #[int i64 (im v).kind,int i64 (im v).n] 100 (0,0)):=ai (by rw [rj];exact ri.out) (aD w _ _)
  have Kf:Hid (w.heap.size<=B):=Nat.le_trans cE.out.size hB.out
  rw [<-rj]
  clear rj dh ri CV Ke mm cV
  clear V
  have HY:=HH.out.y.bl hbw
  obtain ⟨vs,c12,fz⟩:=HY.c12
  have Na:=ab HY.clrs
  have e0:=aK rm
  have e1:=aI rm
  have Gs:=af mU
  have Gt:=af rm
  have Gv:B≠a.q:=by have:=Kf.out;omega
  have Nb:w.heap.size≠a.q:=by omega
  have Pr:=ab mU
  have SI:=ab rm
  have o5:=ab Gs
  have SJ:=ab Gt
  clear HY mU rm Gs Gt hbw
  go_wp2_with fail
  go_at_call 95
  refine (Na.out.useY (Bl.refl _) (fun X wx w H=>xC s X wx w0 g h qs a { c with stk:=[] } v w H M9.out (Nat.zero_le _) EY.out)).mono ?_
  rintro e w6 ⟨rfl,H6,K6⟩
  have q6:=K6.at (Xp.old (Xp.new Kf.out o5.out)) ((aA Gv _).trans Pr.out)
  have p2:w6.cell? ⟨B,2,none⟩=some (int i64 y.pc):=(aa q6).trans rfl
  have Nc:=H6.x
  obtain ⟨Ih,xu,-⟩:=Nc.c10
  have wW:=ab (Nc.setpc y.pc)
  clear H6 K6 q6 Nc
  go_wp2
  go_ret
  have oA:=wW.out
  rw [hy.out] at oA ⊢
  exact ⟨rfl,oA⟩
 ·go_simp
  refine hK.out _ _ (HT.out _ (ae.1.out.alloc _)) (fun dm=>?_)
  try simp only [aS,aN,aT,a0,a1]
  refine bI (i:=14) (by kernel_rfl) rfl fun K hK=>?_
  go_simp
  go_at_call 96
  refine (Lv.out _ (cE.out.trans dm.1.out)).mono ?_
  rintro e V ⟨b1,x,hx⟩
  have he:∃x:Hd,x.pc=h.caughtL c.pc c.m.hands/\e=.returned (.tuple #[.agg (zW x),.bool true]):=by
   rcases hx with ⟨-,z,z2⟩|⟨z,-⟩
   ·exact ⟨x,z,z2⟩
   ·exact absurd z (by have:=nu.out;omega)
  obtain ⟨y,hy,rfl⟩:=he
  replace hy:=ab hy
  clear hx
  unfold zW
  have mm:=ab (dm.1.out.trans b1)
  have cV:V.heap[w.heap.size+1]?=some (.cells #[int i64 0,int i64 0,int i64 0,int i64 0] 108 (0,0)):=ai b1 (show _=_ from HZ.out)
  obtain ⟨B,dQ⟩:∃B,B=w.heap.size+1:=⟨_,rfl⟩
  rw [<-dQ] at cV
  simp only [<-dQ]
  have hB:Hid ((w.alloc (dL (im v))).heap.size<=B):=by show (w.alloc (dL (im v))).heap.size<=B;rw [dQ,World.size_alloc];exact Nat.le_refl _
  clear dQ b1
  replace cV:=ab cV
  go_wp2_with fail
  refine hK.out _ _ (HT.out _ mm.out) (fun eL=>?_)
  try simp only [aS,aN,aT,a0,a1]
  iterate 3 (refine tn rfl (by kernel_rfl) (fun _ _ _ h=>h) (by intro _ h;go_split_ands;go_simp<;>with_reducible rfl) eL ?_;try simp only [aS,aN,aT,a0,a1])
  refine bI (i:=19) (by kernel_rfl) rfl fun K hK=>?_
  have y0:V.cell? ⟨B,0,none⟩=some (int i64 0):=(aa cV.out).trans rfl
  have y1:V.cell? ⟨B,1,none⟩=some (int i64 0):=(aa cV.out).trans rfl
  have y2:V.cell? ⟨B,2,none⟩=some (int i64 0):=(aa cV.out).trans rfl
  have y3:V.cell? ⟨B,3,none⟩=some (int i64 0):=(aa cV.out).trans rfl
  have fz:=ay cV.out
  have Ke:=ab eL
  clear eL
  go_simp
  have ri:=ab (jO mm.out hB.out (int i64 y.fr) (int i64 y.til) (int i64 y.pc) (int i64 y.cls))
  have CV:=ab (iv cV.out (int i64 y.fr) (int i64 y.til) (int i64 y.pc) (int i64 y.cls))
  clear y0 y1 y2 y3 fz
  refine hK.out _ _ (HT.out _ ri.out) (fun fp=>?_)
  try simp only [aS,aN,aT,a0,a1]
  refine tn rfl (by kernel_rfl) (fun _ _ _ h=>h) (by intro _ h;go_split_ands;go_simp<;>with_reducible rfl) fp ?_
  try simp only [aS,aN,aT,a0,a1]
  refine wpAnyH_done (by kernel_rfl) ?_ _
  obtain ⟨W4,rj⟩:∃W4,W4=(((V.setCell ⟨B,0,none⟩ (int i64 y.fr)).setCell ⟨B,1,none⟩ (int i64 y.til)).setCell ⟨B,2,none⟩ (int i64 y.pc)).setCell ⟨B,3,none⟩ (int i64 y.cls):=⟨_,rfl⟩
  have hbw:Bl w W4:=by rw [rj];exact cE.out.trans ri.out
  have mU:W4.heap[B]?=some (.cells #[int i64 y.fr,int i64 y.til,int i64 y.pc,int i64 y.cls] 108 (0,0)):=by rw [rj];exact CV.out
  have rm:W4.heap[w.heap.size]?=some (.cells #[int i64 (im v).kind,int i64 (im v).n] 100 (0,0)):=ai (by rw [rj];exact ri.out) (aD w _ _)
  have Kf:Hid (w.heap.size<=B):=Nat.le_trans cE.out.size hB.out
  rw [<-rj]
  clear rj fp ri CV Ke mm cV
  clear V
  have HY:=HH.out.y.bl hbw
  obtain ⟨vs,c12,fz⟩:=HY.c12
  have Na:=ab HY.clrs
  have e0:=aK rm
  have e1:=aI rm
  have Gs:=af mU
  have Gt:=af rm
  have Gv:B≠a.q:=by have:=Kf.out;omega
  have Nb:w.heap.size≠a.q:=by omega
  have Pr:=ab mU
  have SI:=ab rm
  have o5:=ab Gs
  have SJ:=ab Gt
  clear HY mU rm Gs Gt hbw
  go_wp2_with fail
  go_at_call 95
  refine (Na.out.useY (Bl.refl _) (fun X wx w H=>xC s X wx w0 g h qs a { c with stk:=[] } v w H M9.out (Nat.zero_le _) EY.out)).mono ?_
  rintro e w6 ⟨rfl,H6,K6⟩
  have q6:=K6.at (Xp.old (Xp.new Kf.out o5.out)) ((aA Gv _).trans Pr.out)
  have p2:w6.cell? ⟨B,2,none⟩=some (int i64 y.pc):=(aa q6).trans rfl
  have Nc:=H6.x
  obtain ⟨Ih,xu,-⟩:=Nc.c10
  have wW:=ab (Nc.setpc y.pc)
  clear H6 K6 q6 Nc
  go_wp2
  go_ret
  have oA:=wW.out
  rw [hy.out] at oA ⊢
  exact ⟨rfl,oA⟩
theorem zg (H:RX s X wx w0 g w h qs a c) (F:Fix w0 g h) (hf:h.objs.length<=100) (hv:v.kind=3) (h0:0<=v.n) (hn:v.n<h.objs.length) (ht:h.thrown=v.n) (hok:∀q,q<c.m.hands.length->0<=(nth eD c.m.hands q).fr/\(nth eD c.m.hands q).til<=1000/\0<=(nth eD c.m.hands q).til/\0<=(nth eD c.m.hands q).pc) (oV:0<=c.pc/\c.pc<=1000) (hcl:0<=h.caughtL c.pc c.m.hands) (hr:¬(aQ [v]:Int)<=c.m.stack) :
  Calls Tryz.prog 42 #[.pointer (some ⟨a.q,0,none⟩),cn (im v)] w fun e w'=>e=aV 6 0 0/\RS s X wx w0 g w' h qs a c:=by
 have HH:=ab H
 have cE:Hid (Bl w (w.alloc (dL (im v)))):=(Bl.refl w).alloc _
 have Lv:Hid (∀w',Bl w w'->Calls Tryz.prog 96 #[.pointer (some ⟨g.hb,0,none⟩),.slice a.K c.m.hands.length a.k,int i64 c.pc,cn (im v)] w' fun e w2=>Qg h c.pc c.m.hands w' e w2):=fun w' hb=>by
  have H':=H.bl hb
  obtain ⟨vc,vo,vx,vs,l,HA⟩:=H'
  exact lC g h v c.m.hands a.K a.k c.pc w' (HA.rh.rd F hf) (HA.ca.me.2.2.1.bl HA.rh.bl) hv h0 hn ht hok oV
 obtain ⟨k0,k9,Gk⟩:=H.c0910
 have HT:Hid (∀w',Bl (w.alloc (dL (im v))) w'->(fun w'=>Hid (Bl (w.alloc (dL (im v))) w')/\w'.cell? ⟨a.q,0,none⟩=some (.pointer (some ⟨g.hb,0,none⟩))/\w'.cell? ⟨a.q,9,none⟩=some (.slice a.K c.m.hands.length a.k)/\w'.cell? ⟨a.q,10,none⟩=some (int i64 c.pc)/\w'.cell? ⟨w.heap.size,0,none⟩=some (int i64 (im v).kind)/\w'.cell? ⟨w.heap.size,1,none⟩=some (int i64 (im v).n)) w'):=fun w' hb=>by
  have dB:=cE.out.trans hb
  exact ⟨hb,dB.cell k0,dB.cell k9,dB.cell Gk,hb.cell (ak rfl),hb.cell (ak rfl)⟩
 have nu:=ab hcl
 have HZ:Hid (((w.alloc (dL (im v))).alloc yA).heap[w.heap.size+1]?=some (.cells #[int i64 0,int i64 0,int i64 0,int i64 0] 108 (0,0))):=by
  have:=aD (w.alloc (dL (im v))) #[int i64 0,int i64 0,int i64 0,int i64 0] 108
  rwa [World.size_alloc] at this
 have hq:=H.qlt
 have EY:=ab hr
 have M9:Hid (1<=v.kind/\v.kind<=3):=by show 1<=v.kind/\v.kind<=3;omega
 clear H F hf hv h0 hn ht hok oV hcl k0 k9 Gk hr
 go_enter Tryz.func42,Tryz.ntmps42
 go_wp2
 refine wp_region_held_drew (S:=fun w'=>Hid (Bl (w.alloc (dL (im v))) w')/\w'.cell? ⟨a.q,0,none⟩=some (.pointer (some ⟨g.hb,0,none⟩))/\w'.cell? ⟨a.q,9,none⟩=some (.slice a.K c.m.hands.length a.k)/\w'.cell? ⟨a.q,10,none⟩=some (int i64 c.pc)/\w'.cell? ⟨w.heap.size,0,none⟩=some (int i64 (im v).kind)/\w'.cell? ⟨w.heap.size,1,none⟩=some (int i64 (im v).n)) (by kernel_rfl) ?_ (fun ae=>?_)
 ·exact HT.out _ (Bl.refl _).drew
 iterate 14 (refine tn rfl (by kernel_rfl) (fun _ _ _ h=>h) (by intro _ h;go_split_ands;go_simp<;>with_reducible rfl) ae ?_;try simp only [aS,aN,aT,a0,a1])
 refine wpAnyH_ready (rs:=[14,18]) (by kernel_rfl) (by simp) ?_
 refine AllReadyH.cons rfl (fun K hK=>?_) (AllReadyH.cons rfl (fun K hK=>?_) (AllReadyH.nil))
 ·go_simp
  go_at_call 96
  refine (Lv.out _ (cE.out.trans ae.1.out)).mono ?_
  rintro e w1 ⟨b1,x,hx⟩
  have he:∃x:Hd,x.pc=h.caughtL c.pc c.m.hands/\e=.returned (.tuple #[.agg (zW x),.bool true]):=by
   rcases hx with ⟨-,z,z2⟩|⟨z,-⟩
   ·exact ⟨x,z,z2⟩
   ·exact absurd z (by have:=nu.out;omega)
  obtain ⟨y,hy,rfl⟩:=he
  replace hy:=ab hy
  clear hx
  unfold zW
  have hb1:=ab (ae.1.out.trans b1)
  clear b1
  go_wp2_with fail
  refine hK.out _ _ (HT.out _ hb1.out) (fun ah=>?_)
  try simp only [aS,aN,aT,a0,a1]
  iterate 3 (refine tn rfl (by kernel_rfl) (fun _ _ _ h=>h) (by intro _ h;go_split_ands;go_simp<;>with_reducible rfl) ah ?_;try simp only [aS,aN,aT,a0,a1])
  refine bI (i:=18) (by kernel_rfl) rfl fun K hK=>?_
  go_simp
  have mm:=ab (hb1.out.alloc yA)
  have cV:(w1.alloc yA).heap[w1.heap.size]?=some (.cells #[int i64 0,int i64 0,int i64 0,int i64 0] 108 (0,0)):=aD _ _ _
  have vP:=hb1.out.size
  obtain ⟨B,dQ⟩:∃B,B=w1.heap.size:=⟨_,rfl⟩
  rw [<-dQ] at cV vP
  simp only [<-dQ]
  have hB:=ab vP
  clear dQ vP
  replace cV:=ab cV
  generalize w1.alloc yA=V at *
  refine hK.out _ _ (HT.out _ mm.out) (fun aX=>?_)
  try simp only [aS,aN,aT,a0,a1]
  refine bI (i:=19) (by kernel_rfl) rfl fun K hK=>?_
  have y0:V.cell? ⟨B,0,none⟩=some (int i64 0):=(aa cV.out).trans rfl
  have y1:V.cell? ⟨B,1,none⟩=some (int i64 0):=(aa cV.out).trans rfl
  have y2:V.cell? ⟨B,2,none⟩=some (int i64 0):=(aa cV.out).trans rfl
  have y3:V.cell? ⟨B,3,none⟩=some (int i64 0):=(aa cV.out).trans rfl
  have fz:=ay cV.out
  have Ke:=ab aX
  clear aX
  go_simp
  have ri:=ab (jO mm.out hB.out (int i64 y.fr) (int i64 y.til) (int i64 y.pc) (int i64 y.cls))
  have CV:=ab (iv cV.out (int i64 y.fr) (int i64 y.til) (int i64 y.pc) (int i64 y.cls))
  clear y0 y1 y2 y3 fz
  refine hK.out _ _ (HT.out _ ri.out) (fun dh=>?_)
  try simp only [aS,aN,aT,a0,a1]
  refine tn rfl (by kernel_rfl) (fun _ _ _ h=>h) (by intro _ h;go_split_ands;go_simp<;>with_reducible rfl) dh ?_
  try simp only [aS,aN,aT,a0,a1]
  refine wpAnyH_done (by kernel_rfl) ?_ _
  obtain ⟨W4,rj⟩:∃W4,W4=(((V.setCell ⟨B,0,none⟩ (int i64 y.fr)).setCell ⟨B,1,none⟩ (int i64 y.til)).setCell ⟨B,2,none⟩ (int i64 y.pc)).setCell ⟨B,3,none⟩ (int i64 y.cls):=⟨_,rfl⟩
  have hbw:Bl w W4:=by rw [rj];exact cE.out.trans ri.out
  have mU:W4.heap[B]?=some (.cells #[int i64 y.fr,int i64 y.til,int i64 y.pc,int i64 y.cls] 108 (0,0)):=by rw [rj];exact CV.out
  have rm:W4.heap[w.heap.size]?=some (.cells #[int i64 (im v).kind,int i64 (im v).n] 100 (0,0)):=ai (by rw [rj];exact ri.out) (aD w _ _)
  have Kf:Hid (w.heap.size<=B):=Nat.le_trans cE.out.size hB.out
  rw [<-rj]
  clear rj dh ri CV Ke mm cV
  clear V
  have HY:=HH.out.y.bl hbw
  obtain ⟨vs,c12,fz⟩:=HY.c12
  have Na:=ab HY.clrs
  have e0:=aK rm
  have e1:=aI rm
  have Gs:=af mU
  have Gt:=af rm
  have Gv:B≠a.q:=by have:=Kf.out;omega
  have Nb:w.heap.size≠a.q:=by omega
  have Pr:=ab mU
  have SI:=ab rm
  have o5:=ab Gs
  have SJ:=ab Gt
  clear HY mU rm Gs Gt hbw
  go_wp2_with fail
  go_at_call 95
  refine (Na.out.useN (Bl.refl _) (fun X wx w H=>Ay s X wx w0 g h qs a { c with stk:=[] } v w H M9.out (Nat.zero_le _) (by have:=EY.out;show ¬(aQ [v]:Int)<=c.m.stack;omega))).mono ?_
  rintro e w6 ⟨rfl,H6⟩
  exact ⟨rfl,rfl,H6.of rfl ⟨rfl,rfl⟩⟩
 ·go_simp
  refine hK.out _ _ (HT.out _ (ae.1.out.alloc _)) (fun dm=>?_)
  try simp only [aS,aN,aT,a0,a1]
  refine bI (i:=14) (by kernel_rfl) rfl fun K hK=>?_
  go_simp
  go_at_call 96
  refine (Lv.out _ (cE.out.trans dm.1.out)).mono ?_
  rintro e V ⟨b1,x,hx⟩
  have he:∃x:Hd,x.pc=h.caughtL c.pc c.m.hands/\e=.returned (.tuple #[.agg (zW x),.bool true]):=by
   rcases hx with ⟨-,z,z2⟩|⟨z,-⟩
   ·exact ⟨x,z,z2⟩
   ·exact absurd z (by have:=nu.out;omega)
  obtain ⟨y,hy,rfl⟩:=he
  replace hy:=ab hy
  clear hx
  unfold zW
  have mm:=ab (dm.1.out.trans b1)
  have cV:V.heap[w.heap.size+1]?=some (.cells #[int i64 0,int i64 0,int i64 0,int i64 0] 108 (0,0)):=ai b1 (show _=_ from HZ.out)
  obtain ⟨B,dQ⟩:∃B,B=w.heap.size+1:=⟨_,rfl⟩
  rw [<-dQ] at cV
  simp only [<-dQ]
  have hB:Hid ((w.alloc (dL (im v))).heap.size<=B):=by show (w.alloc (dL (im v))).heap.size<=B;rw [dQ,World.size_alloc];exact Nat.le_refl _
  clear dQ b1
  replace cV:=ab cV
  go_wp2_with fail
  refine hK.out _ _ (HT.out _ mm.out) (fun eL=>?_)
  try simp only [aS,aN,aT,a0,a1]
  iterate 3 (refine tn rfl (by kernel_rfl) (fun _ _ _ h=>h) (by intro _ h;go_split_ands;go_simp<;>with_reducible rfl) eL ?_;try simp only [aS,aN,aT,a0,a1])
  refine bI (i:=19) (by kernel_rfl) rfl fun K hK=>?_
  have y0:V.cell? ⟨B,0,none⟩=some (int i64 0):=(aa cV.out).trans rfl
  have y1:V.cell? ⟨B,1,none⟩=some (int i64 0):=(aa cV.out).trans rfl
  have y2:V.cell? ⟨B,2,none⟩=some (int i64 0):=(aa cV.out).trans rfl
  have y3:V.cell? ⟨B,3,none⟩=some (int i64 0):=(aa cV.out).trans rfl
  have fz:=ay cV.out
  have Ke:=ab eL
  clear eL
  go_simp
  have ri:=ab (jO mm.out hB.out (int i64 y.fr) (int i64 y.til) (int i64 y.pc) (int i64 y.cls))
  have CV:=ab (iv cV.out (int i64 y.fr) (int i64 y.til) (int i64 y.pc) (int i64 y.cls))
  clear y0 y1 y2 y3 fz
  refine hK.out _ _ (HT.out _ ri.out) (fun fp=>?_)
  try simp only [aS,aN,aT,a0,a1]
  refine tn rfl (by kernel_rfl) (fun _ _ _ h=>h) (by intro _ h;go_split_ands;go_simp<;>with_reducible rfl) fp ?_
  try simp only [aS,aN,aT,a0,a1]
  refine wpAnyH_done (by kernel_rfl) ?_ _
  obtain ⟨W4,rj⟩:∃W4,W4=(((V.setCell ⟨B,0,none⟩ (int i64 y.fr)).setCell ⟨B,1,none⟩ (int i64 y.til)).setCell ⟨B,2,none⟩ (int i64 y.pc)).setCell ⟨B,3,none⟩ (int i64 y.cls):=⟨_,rfl⟩
  have hbw:Bl w W4:=by rw [rj];exact cE.out.trans ri.out
  have mU:W4.heap[B]?=some (.cells #[int i64 y.fr,int i64 y.til,int i64 y.pc,int i64 y.cls] 108 (0,0)):=by rw [rj];exact CV.out
  have rm:W4.heap[w.heap.size]?=some (.cells #[int i64 (im v).kind,int i64 (im v).n] 100 (0,0)):=ai (by rw [rj];exact ri.out) (aD w _ _)
  have Kf:Hid (w.heap.size<=B):=Nat.le_trans cE.out.size hB.out
  rw [<-rj]
  clear rj fp ri CV Ke mm cV
  clear V
  have HY:=HH.out.y.bl hbw
  obtain ⟨vs,c12,fz⟩:=HY.c12
  have Na:=ab HY.clrs
  have e0:=aK rm
  have e1:=aI rm
  have Gs:=af mU
  have Gt:=af rm
  have Gv:B≠a.q:=by have:=Kf.out;omega
  have Nb:w.heap.size≠a.q:=by omega
  have Pr:=ab mU
  have SI:=ab rm
  have o5:=ab Gs
  have SJ:=ab Gt
  clear HY mU rm Gs Gt hbw
  go_wp2_with fail
  go_at_call 95
  refine (Na.out.useN (Bl.refl _) (fun X wx w H=>Ay s X wx w0 g h qs a { c with stk:=[] } v w H M9.out (Nat.zero_le _) (by have:=EY.out;show ¬(aQ [v]:Int)<=c.m.stack;omega))).mono ?_
  rintro e w6 ⟨rfl,H6⟩
  exact ⟨rfl,rfl,H6.of rfl ⟨rfl,rfl⟩⟩
end
def eX (l:List Va) (fG:Nat):List Va->List Va
 | []=>l
 | v::k=>eX (jT l fG v) (fG+aQ [v]) k
theorem rp:∀(l:List Va) (l0:List Va) (fG:Nat) (v:Va),eX l0 fG (l++[v])=jT (eX l0 fG l) (fG+aQ l) v
 | [],l0,fG,v=>by simp [eX,aQ]
 | x::l,l0,fG,v=>by
  show eX (jT l0 fG x) (fG+aQ [x]) (l++[v])=jT (eX (jT l0 fG x) (fG+aQ [x]) l) (fG+aQ (x::l)) v
  rw [rp l,kH,Nat.add_assoc]
  rfl
theorem nW:∀(l:List Va) (l0:List Va) (fG:Nat),(eX l0 fG l).length=l0.length
 | [],l0,fG=>rfl
 | x::l,l0,fG=>by
  show (eX (jT l0 fG x) (fG+aQ [x]) l).length=_
  rw [nW l,vM]
theorem CX {l:List Va} {k:Nat} (h:k<l.length):l.take (k+1)=l.take k++[nth ag l k]:=by
 rw [List.take_add_one,bU h];simp [List.getElem?_eq_getElem h]
theorem Gw:∀(l:List Va),aQ (l.map im)=aQ l
 | []=>rfl
 | x::l=>by show (if (im x).kind=2 then 2 else 1)+aQ (l.map im)=_;rw [Gw l,zA];rfl
theorem xD:∀(vs:List Va) (l k:List Va) (fG:Nat),mI l k->(∀v∈vs,1<=v.kind/\v.kind<=3)->fG+aQ vs<=l.length->mI (dT l fG vs) (eX k fG (vs.map im))
 | [],l,k,fG,h,_,_=>h
 | v::vs,l,k,fG,h,hk,hs=>by
  have es:aQ (v::vs)=(if v.kind=2 then 2 else 1)+aQ vs:=rfl
  have hv:=hk v (List.mem_cons_self ..)
  show mI (dT (eZ l fG v) (fG+aQ [v]) vs) (eX (jT k fG (im v)) (fG+aQ [im v]) (vs.map im))
  have e1:aQ [im v]=aQ [v]:=by rw [kH,kH,zA]
  rw [e1]
  refine xD vs _ _ _ (h.sto (by rw [es] at hs;split at hs<;>omega) v hv (fun e=>by rw [es,if_pos e] at hs;omega)) (fun x hx=>hk x (List.mem_cons_of_mem _ hx)) ?_
  rw [kC,kH]
  rw [es] at hs
  omega
theorem Nd (lb lc n N:Nat) (l:List Va) (v:Va) (w:World) (B:cu w lb l) (hN:l.length=N) (hn:n<N) (hl:N<=1000) (h2:v.kind=2->n+1<N) :
  Calls Tryz.prog 84 #[.slice (some ⟨lb,0,none⟩) N lc,int i64 (n:Int),cn v] w fun e w'=>e=.returned (.tuple #[])/\cu w' lb (jT l n v)/\w.grownBy w' (some lb):=by
 subst hN
 by_cases hk:v.kind=2
 ·unfold jT;rw [if_pos hk];exact qw lb lc n l v w B (h2 hk) hl hk
 ·unfold jT;rw [if_neg hk];exact sr lb lc n l v w B hn hl hk
theorem tT (N:Nat) (us:List Va) (b cap:Nat) (w:World) (B:cu w b us) (hN:N<=1000) (mV:aQ us<=N) (hk:∀v∈us,1<=v.kind/\v.kind<=3) :
  Calls Tryz.prog 39 #[int i64 (N:Int),.slice (some ⟨b,0,none⟩) us.length cap] w fun e w'=>e=.returned (.slice (some ⟨w.heap.size,0,none⟩) N N)/\cu w' w.heap.size (eX (List.replicate N ag) 0 us)/\Bl w w':=by
 have hlen:us.length<=N:=by have:=zE us;omega
 have KP:=IG N (by omega)
 have HB:=ab B
 have HK:=ab hk
 have SK:=ab mV
 have HS:Hid (Bl w (w.alloc (.cells (aL (List.replicate N ag)).toArray 100))/\cu (w.alloc (.cells (aL (List.replicate N ag)).toArray 100)) w.heap.size (eX (List.replicate N ag) 0 (us.take 0))) :=
  ⟨(Bl.refl w).alloc _,cu.new w _⟩
 clear B hk mV
 go_enter Tryz.func39,Tryz.ntmps39
 go_wp2
 go_loopw [6,13] (fun fG i wr=>∃j:Nat,j<=us.length/\i=int i64 j/\fG=int i64 ((aQ (us.take j):Nat):Int)/\Hid (Bl w wr/\cu wr w.heap.size (eX (List.replicate N ag) 0 (us.take j)))) (fun _ i _=>us.length-(intOf i).toNat)
 case atStart=>exact ⟨0,Nat.zero_le _,rfl,by simp [aQ],HS.out⟩
 case round =>
  clear HS KP
  obtain ⟨j,hj,rfl,rfl,HR⟩:=hrel
  by_cases NL:j<us.length
  ·have hB:=HB.out.bl HR.out.1
   have x0:=hB.c0 NL
   have x1:=hB.c1 NL
   have SL:=CX NL
   have hv:=HK.out _ (bJ (d:=ag) NL)
   generalize hV:nth ag us j=v at *
   have hsz:aQ (us.take (j+1))=aQ (us.take j)+(if v.kind=2 then 2 else 1):=by rw [SL,jJ,kH]
   have hle:aQ (us.take (j+1))<=N:=Nat.le_trans (jK us _) SK.out
   have hwd:jq v.kind=(if v.kind=2 then 2 else 1:Nat):=by unfold jq;rw [if_neg (by omega)];split<;>rfl
   have SE:=ab hsz
   have hlt:aQ (us.take j)<N:=by split at hsz<;>omega
   have h2:v.kind=2->aQ (us.take j)+1<N:=fun e=>by rw [if_pos e] at hsz;omega
   have SM:=ab SL
   have HV:=ab hv
   have H2:=ab h2
   obtain ⟨S,hS⟩:∃S,aQ (us.take j)=S:=⟨_,rfl⟩
   have UF:=ab hS
   obtain ⟨W,hW⟩:∃W,jq v.kind=W:=⟨_,rfl⟩
   have HW:=ab (hW.symm.trans hwd)
   have YO:0<=W/\W<=2:=by rw [<-hW];exact lI _
   rw [hS]
   rw [hS] at hlt
   clear hB hsz hle hwd h2 SL hv hV
   have bn:=aD wr #[int i64 v.kind,int i64 v.n] 100
   have Ow:=ab bn
   have Xn:Hid (w.heap.size<wr.heap.size):=af HR.out.2.blk
   clear bn hS
   go_wp2_with (first
    | (go_at_call 84;refine (Nd w.heap.size N S N (eX (List.replicate N ag) 0 (us.take j)) v _ (HR.out.2.bl ((Bl.refl wr).alloc _)) (by rw [nW];simp) hlt hN (by rw [<-UF.out];exact H2.out)).mono ?_;rintro e w1 ⟨rfl,L1,G1⟩;have y0:=aK (au G1 Ow.out (fun e=>by have:=Xn.out;have:=Option.some.inj e;omega));have L1:=ab L1;have G1:=ab G1)
    | (go_at_call 85;refine (mc _ _).mono ?_;rintro e w2 ⟨he,eK⟩;rw [hW] at he;subst he;rw [eK];clear eK w2))
   go_roundw
   case rel =>
    have hS:=UF.out
    have hsz:=SE.out
    have Xo:=HW.out
    refine ⟨j+1,by omega,by go_num,?_,?_,?_⟩
    ·rw [hsz,hS,Xo];simp
    ·refine Below.grown (HR.out.1.trans ((Bl.refl wr).alloc _)) G1.out ?_ (fun k hk=>?_)
     ·exact (HR.out.1.trans ((Bl.refl wr).alloc _)).size
     ·cases hk;exact Nat.le_refl _
    ·rw [SM.out,rp,Nat.zero_add,hS];exact L1.out
   case measure=>simp [intOf];omega
  ·obtain rfl:j=us.length:=by omega
   go_wp2
   go_ret
   have:=HR.out.2
   rw [List.take_length] at this
   exact ⟨rfl,this,HR.out.1⟩
section
variable {w:World} {base:Nat} {e:TypeId}
theorem oG {vs:Value} {l:List Nat} {v:Nat} (h:w.ownsRow base e 3 vs (l.length+1) (cj (l++[v]))):∃gb cap,vs=.slice (some ⟨gb,0,none⟩) (l.length+1) cap/\l.length+1<=cap/\cap<=maxLen/\gb<w.heap.size
  /\ w.cell? ⟨gb,l.length*3,none⟩=some (.func (.func 40) #[.pointer (some ⟨v,0,none⟩)] #[])/\w.cell? ⟨gb,l.length*3+1,none⟩=some (.func (.func 41) #[.pointer (some ⟨v,0,none⟩)] #[])/\w.cell? ⟨gb,l.length*3+2,none⟩=some (.func (.func 42) #[.pointer (some ⟨v,0,none⟩)] #[]):=by
 rcases h.2 with ⟨_,h0⟩|⟨gb,cap,cur,rfl,hg,hh,hn,mJ,hsz,nI⟩
 ·omega
 ·have hl:=gN l
  have hx:∀i,i<3->(cj (l++[v]))[l.length*3+i]?=(fD v)[i]?:=by
   intro i hi
   rw [gO,List.getElem?_append_right (by omega),hl]
   simp [cj]
  have hy:∀i,i<3->w.cell? ⟨gb,l.length*3+i,none⟩=(fD v)[i]?:=by
   intro i hi
   rw [<-hx i hi,<-nI,List.getElem?_take,if_pos (by omega),aa hh]
   simp
  exact ⟨gb,cap,rfl,hn,mJ,af hh,hy 0 (by decide),hy 1 (by decide),hy 2 (by decide)⟩
theorem Gx {gb cap:Nat} {l:List Nat} {v:Nat} (h:w.ownsRow base e 3 (.slice (some ⟨gb,0,none⟩) (l.length+1) cap) (l.length+1) (cj (l++[v]))) :
  w.ownsRow base e 3 (.slice (some ⟨gb,0,none⟩) l.length cap) l.length (cj l):=by
 obtain ⟨h1,h2⟩:=h
 rcases h2 with ⟨h0,_⟩|⟨g',cap',cur,hv,hg,hh,hn,mJ,hsz,nI⟩
 ·cases h0
 ·cases hv
  refine ⟨gN l,.inr ⟨gb,cap,cur,rfl,hg,hh,by omega,mJ,hsz,?_⟩⟩
  have h3:(cur.toList.take ((l.length+1)*3)).take (l.length*3)=(cj (l++[v])).take (l.length*3):=by rw [nI]
  rw [List.take_take,Nat.min_eq_left (by omega)] at h3
  rw [h3,gO,<-gN l]
  simp
end
theorem HX.setc {s:Nat} {X:Nat->Prop} {wx w0:World} {g:Mg} {h:Hp} {qs vw:List Nat} {vc vo vx rK:Value} (R:RH s w0 g w h qs vc vo vx) (hf:∀b,X b->lv g vc vo vx b) (hK:jj X wx w) (ho:w.ownsRow w0.heap.size 85 3 rK vw.length (cj vw)) (hb:rK.ownBlock=vc.ownBlock):HX s X wx w0 g (w.setCell ⟨g.r,3,none⟩ rK) h vw:=by
 have hg:=cQ (w:=w) g.r 3 rK
 obtain ⟨n,D,F⟩:=R.fld
 have Ha:g.r≠g.mp:=iC R.run F.own
 have hne:∀v:Value,v.ownBlock≠some g.r->(v.ownBlock=none∨v.ownBlock≠some g.r):=fun v hv=>Or.inr hv
 refine ⟨rK,vo,vx,⟨R.ownr,R.ownh,R.ownm,Below.grown R.bl hg R.bl.size (fun k hk=>by cases hk;exact R.ownr),?_,?_,?_,?_,?_,n,D,?_,F.few,F.hit,F.miss,F.new,F.ks,F.kd⟩,fun b hx=>?_,hK.kept hg (fun b e hx=>?_)⟩
 ·rw [ax R.run];rfl
 ·exact au hg R.hp (fun e=>dN R.run R.hp (by decide) (Option.some.inj e))
 ·exact R.out.kept hg (Or.inr (bc R.out R.run (by decide)))
 ·exact R.obs.kept hg (Or.inr (bc R.obs R.run (by decide)))
 ·exact ho.kept hg (Or.inr (bc ho R.run (by decide)))
 ·exact F.own.kept hg (fun e=>Ha (Option.some.inj e.symm))
 ·have:=hf b hx
  exact ⟨this.r,this.h,this.m,by rw [hb];exact this.c,this.o,this.x⟩
 ·cases e;exact (hf g.r hx).r rfl
theorem nX (s:Nat) (X:Nat->Prop) (wx w0:World) (g:Mg) (h:Hp) (qs:List Nat) (q:Nat) (w:World) (H:HX s X wx w0 g w h (qs++[q])) :
  Calls Tryz.prog 147 #[.pointer (some ⟨g.r,0,none⟩)] w fun e w'=>e=.returned (.tuple #[])/\HX s X wx w0 g w' h qs:=by
 obtain ⟨vc,vo,vx,R,hf,hK⟩:=H
 have hk:=R.calls
 have e1:(qs++[q]).length=qs.length+1:=by simp
 rw [e1] at hk
 obtain ⟨gb,cap,rfl,h1,h2,h3,h4,h5,h6⟩:=oG hk
 have HP:=ab (Gx hk)
 have hr:w.cell? ⟨g.r,3,none⟩=some (.slice (some ⟨gb,0,none⟩) (qs.length+1) cap):=by rw [aa R.run];rfl
 have fz:∀i,w.frozen? ⟨g.r,i,none⟩=false:=ay R.run
 have HE:Hid (HX s X wx w0 g (w.setCell ⟨g.r,3,none⟩ (.slice (some ⟨gb,0,none⟩) qs.length cap)) h qs):=HX.setc R hf hK HP.out rfl
 clear hk R hf hK h4 h5 h6 e1
 unfold maxLen at h2
 have kg:((qs.length:Int)+1-1)=(qs.length:Int):=by omega
 have hw:IntKind.i64.wrap (qs.length:Int)=(qs.length:Int):=by rw [IntKind.wrap_i64];omega
 go_enter Tryz.func147,Tryz.ntmps147
 go_wp2
 go_region
 all_goals go_wp2
 all_goals go_end0
 all_goals exact ⟨rfl,HE.out.bl (Bl.refl _).drew⟩
theorem sS:(Tryz.prog.info? 85).map (·.size)=some 3:=by kernel_rfl
theorem kP (s:Nat) (X:Nat->Prop) (wx w0:World) (g:Mg) (h:Hp) (qs:List Nat) (q:Nat) (w:World) (H:HX s X wx w0 g w h (qs++[q])) :
  Calls Tryz.prog 148 #[.pointer (some ⟨g.r,0,none⟩)] w fun e w'=>e=.returned (.agg (fD q).toArray)/\Bl w w':=by
 obtain ⟨vc,vo,vx,R,hf,hK⟩:=H
 have hk:=R.calls
 have e1:(qs++[q]).length=qs.length+1:=by simp
 rw [e1] at hk
 obtain ⟨gb,cap,rfl,h1,h2,h3,h4,h5,h6⟩:=oG hk
 have hr:w.cell? ⟨g.r,3,none⟩=some (.slice (some ⟨gb,0,none⟩) (qs.length+1) cap):=by rw [aa R.run];rfl
 have NI:=af R.run
 clear hk R hf hK e1
 unfold maxLen at h2
 have kg:((qs.length:Int)+1-1)=(qs.length:Int):=by omega
 have hw:IntKind.i64.wrap (qs.length:Int)=(qs.length:Int):=by rw [IntKind.wrap_i64];omega
 go_enter Tryz.func148,Tryz.ntmps148
 go_wp2
 have iQ:Hid (Bl w (w.alloc (.cells #[.nilFunc,.nilFunc,.nilFunc] 85))):=(Bl.refl w).alloc _
 have q0:=aD w #[.nilFunc,.nilFunc,.nilFunc] 85
 have k3:=iQ.out.cell hr
 have k4:=iQ.out.cell h4
 have k5:=iQ.out.cell h5
 have k6:=iQ.out.cell h6
 obtain ⟨B,dQ⟩:∃B,B=w.heap.size:=⟨_,rfl⟩
 rw [<-dQ] at q0
 simp only [<-dQ]
 have hB:Hid (w.heap.size<=B):=Nat.le_of_eq dQ.symm
 have hne:B≠g.r:=by omega
 have BG:B≠gb:=by omega
 have hlt:(qs.length:Int)<(qs.length:Int)+1:=by omega
 have m3:=ab hr
 have m4:=ab h4
 have m5:=ab h5
 have m6:=ab h6
 clear dQ
 generalize w.alloc (.cells #[.nilFunc,.nilFunc,.nilFunc] 85)=V at *
 have v0:V.cell? ⟨B,0,none⟩=some .nilFunc:=by rw [aa q0];rfl
 have v1:V.cell? ⟨B,1,none⟩=some .nilFunc:=by rw [aa q0];rfl
 have v2:V.cell? ⟨B,2,none⟩=some .nilFunc:=by rw [aa q0];rfl
 have fz:=ay q0
 replace q0:=ab q0
 clear hr h4 h5 h6
 refine wp_region_held_drew (S:=fun w'=>w'.cell? ⟨g.r,3,none⟩=some (.slice (some ⟨gb,0,none⟩) (qs.length+1) cap)/\w'.cell? ⟨gb,qs.length*3,none⟩=some (.func (.func 40) #[.pointer (some ⟨q,0,none⟩)] #[])/\w'.cell? ⟨gb,qs.length*3+1,none⟩=some (.func (.func 41) #[.pointer (some ⟨q,0,none⟩)] #[])/\w'.cell? ⟨gb,qs.length*3+2,none⟩=some (.func (.func 42) #[.pointer (some ⟨q,0,none⟩)] #[])) (by kernel_rfl) ?_ (fun ae=>?_)
 ·exact ⟨k3,k4,k5,k6⟩
 refine tk (i:=0) (d:=some 3) rfl rfl (by kernel_rfl) (fun _ _ _ h=>h) (by rfl) (by intro _ h;(try dsimp only at h);go_split_ands;go_simp<;>with_reducible rfl) ae ?_
 try simp only [aS,aN,aT,a0,a1]
 refine tk (i:=1) (d:=some 4) rfl rfl (by kernel_rfl) (fun _ _ _ h=>h) (by rfl) (by intro _ h;(try dsimp only at h);go_split_ands;go_simp<;>with_reducible rfl) ae ?_
 try simp only [aS,aN,aT,a0,a1]
 refine tk (i:=2) (d:=some 5) rfl rfl (by kernel_rfl) (fun _ _ _ h=>h) (by rfl) (by intro _ h;(try dsimp only at h);go_split_ands;go_simp<;>with_reducible rfl) ae ?_
 try simp only [aS,aN,aT,a0,a1]
 refine tk (i:=3) (d:=some 6) rfl rfl (by kernel_rfl) (fun _ _ _ h=>h) (by rfl) (by intro _ h;(try dsimp only at h);go_split_ands;go_simp<;>with_reducible rfl) ae ?_
 try simp only [aS,aN,aT,a0,a1]
 refine tk (i:=4) (d:=some 7) rfl rfl (by kernel_rfl) (fun _ _ _ h=>h) (by rfl) (by intro _ h;(try dsimp only at h);go_split_ands;go_simp<;>with_reducible rfl) ae ?_
 try simp only [aS,aN,aT,a0,a1]
 refine tk (i:=5) (d:=some 8) rfl rfl (by kernel_rfl) (fun _ _ _ h=>h) (by rfl) (by intro _ h;(try dsimp only at h);go_split_ands;go_simp<;>with_reducible rfl) ae ?_
 try simp only [aS,aN,aT,a0,a1]
 refine tk (i:=6) (d:=some 9) rfl rfl (by kernel_rfl) (fun _ _ _ h=>h) (by rfl) (by intro _ h;(try dsimp only at h);go_split_ands;go_simp<;>with_reducible rfl) ae ?_
 try simp only [aS,aN,aT,a0,a1]
 refine tk (i:=7) (d:=some 10) rfl rfl (by kernel_rfl) (fun _ _ _ h=>h) (by rfl) (by intro _ h;(try dsimp only at h);go_split_ands;go_simp<;>with_reducible rfl) ae ?_
 try simp only [aS,aN,aT,a0,a1]
 refine tk (i:=8) (d:=some 11) rfl rfl (by kernel_rfl) (fun _ _ _ h=>h) (by rfl) (by intro _ h;(try dsimp only at h);go_split_ands;go_simp<;>with_reducible rfl) ae ?_
 try simp only [aS,aN,aT,a0,a1]
 refine tk (i:=9) (d:=some 12) rfl rfl (by kernel_rfl) (fun _ _ _ h=>h) (by rfl) (by intro _ h;(try dsimp only at h);go_split_ands;go_simp<;>with_reducible rfl) ae ?_
 try simp only [aS,aN,aT,a0,a1]
 refine tk (i:=10) (d:=some 13) rfl rfl (by kernel_rfl) (fun _ _ _ h=>h) (by rfl) (by intro _ h;(try dsimp only at h);go_split_ands;go_simp<;>with_reducible rfl) ae ?_
 try simp only [aS,aN,aT,a0,a1]
 refine tk (i:=11) (d:=some 14) rfl rfl (by kernel_rfl) (fun _ _ _ h=>h) (by rfl) (by intro _ h;(try dsimp only at h);go_split_ands;go_simp<;>with_reducible rfl) ae ?_
 try simp only [aS,aN,aT,a0,a1]
 refine bI (i:=12) (by kernel_rfl) rfl fun K hK=>?_
 go_wp2_with fail
 have Fw:Bl w (((V.setCell ⟨B,0,none⟩ (.func (.func 40) #[.pointer (some ⟨q,0,none⟩)] #[])).setCell ⟨B,1,none⟩ (.func (.func 41) #[.pointer (some ⟨q,0,none⟩)] #[])).setCell ⟨B,2,none⟩ (.func (.func 42) #[.pointer (some ⟨q,0,none⟩)] #[])):=((iQ.out.setCell (p:=⟨B,0,none⟩) hB.out _).setCell (p:=⟨B,1,none⟩) hB.out _).setCell (p:=⟨B,2,none⟩) hB.out _
 have q3:(((V.setCell ⟨B,0,none⟩ (.func (.func 40) #[.pointer (some ⟨q,0,none⟩)] #[])).setCell ⟨B,1,none⟩ (.func (.func 41) #[.pointer (some ⟨q,0,none⟩)] #[])).setCell ⟨B,2,none⟩ (.func (.func 42) #[.pointer (some ⟨q,0,none⟩)] #[])).heap[B]?=some (.cells (fD q).toArray 85 (0,0)):=by rw [ax (ax (ax q0.out _) _) _];rfl
 refine hK.out _ _ ⟨Fw.cell m3.out,Fw.cell m4.out,Fw.cell m5.out,Fw.cell m6.out⟩ (fun ah=>?_)
 try simp only [aS,aN,aT,a0,a1]
 refine wpAnyH_done (by kernel_rfl) ?_ _
 replace Fw:=ab Fw
 replace q3:=ab q3
 go_wp2
 refine bodyPost_ret (results_cell_row rfl _ _ B _ _ _ _ rfl q3.out Tryz.underlying85 rfl sS) rfl ?_
 exact ⟨rfl,Fw.out.drew⟩
end Go.Proofs.YtgiiapenmjollaaGreat
