import Derived.Test.YtimjmdfokicbkaaGreatSras
import Derived.Laws.EntriesVeiled
namespace Go.Proofs.YtimjmdfokicbkaaGreat
set_option linter.unusedVariables false
set_option linter.unusedSimpArgs false
set_option maxHeartbeats 40000000
set_option maxRecDepth 100000
open Go.RowKit
open Go.Value (int)
open Go.IntKind (i64)
variable {w:World}
def lO (B:Bool) (ms:List Me) (entry fuel:Int) (na ni:Nat):Int :=
 if B=false then 2
 else if ¬(0≤entry/\entry<(ms.length:Int))∨¬(0≤fuel/\fuel≤60000) then 4
 else if 1000<ni then 1
 else if (!(mg (nth bM ms entry.toNat).params)&&decide (na=(nth bM ms entry.toNat).params.length))=true then 0 else 3
abbrev qZ:Value:=.agg #[.func (.func 16) #[] #[],.func (.func 17) #[] #[]]
abbrev qu (nc nm:Nat) (A B:Option Addr) (a b:Nat):Value:=.agg #[.slice A nc a,.slice B nm b]
abbrev lP:Obj:=.cells #[.func (.func 16) #[] #[],.func (.func 17) #[] #[]] 40
abbrev oA (nc nm:Nat) (A B:Option Addr) (a b:Nat):Obj:=.cells #[.slice A nc a,.slice B nm b] 25
theorem o9 (T:Bool) (nc:Nat) (ms:List Me) (A B R I:Option Addr) (a b rc ic na ni:Nat) (entry fuel:Int) (w:World) (hB:eD w B ms) (hn:na≤maxLen) (hi:ni≤maxLen) (hM:∀w',Bl w w'->Calls Tryz.prog 16 #[qu nc ms.length A B a b] w' fun e w2=>e=.returned (.bool T)/\Bl w' w2) :
  Calls Tryz.prog 44 #[qZ,qu nc ms.length A B a b,int i64 entry,.slice R na rc,.slice I ni ic,int i64 fuel] w fun e w'=>e=.returned (int i64 (lO T ms entry fuel na ni))/\Bl w w':=by
 have HB:=ab hB
 have jy:=hB.1
 unfold maxLen at jy hi
 have HN:=ab hn
 have HM:=ab hM
 have cD:Hid (Bl w ((w.alloc lP).alloc (oA nc ms.length A B a b))):=((Bl.refl w).alloc _).alloc _
 obtain ⟨L0,L1⟩:=bC w #[.func (.func 16) #[] #[],.func (.func 17) #[] #[]] #[.slice A nc a,.slice B ms.length b] 40 25
 have gz:=ab L1
 clear hB hn hM L0 L1
 unfold lO
 cases T with
 | false =>
  rw [if_pos rfl]
  go_enter Tryz.func44,Tryz.ntmps44
  go_wp2_with (go_at_call 16;refine (HM.out _ cD.out).mono ?_;rintro e w1 ⟨rfl,b1⟩;replace b1:=ab b1)
  go_ret
  exact ⟨rfl,cD.out.trans b1.out⟩
 | true =>
  rw [if_neg (by decide)]
  have Vg:True:=trivial
  by_cases he:0≤entry/\entry<(ms.length:Int)
  ·have d1:decide (0≤entry/\entry<(ms.length:Int))=true:=decide_eq_true he
   by_cases hf:0≤fuel/\fuel≤60000
   ·have d2:decide (0≤fuel/\fuel≤60000)=true:=decide_eq_true hf
    rw [if_neg (by simp [he,hf])]
    by_cases hs:1000<ni
    ·rw [if_pos hs]
     have OK:(1000:Int)<(ni:Int):=by omega
     go_enter Tryz.func44,Tryz.ntmps44
     go_wp2_with (first
      | (go_at_call 16;refine (HM.out _ cD.out).mono ?_;rintro e w1 ⟨rfl,b1⟩;have q1:=ai b1 gz.out;have y1:w1.cell? ⟨w.heap.size+1,1,none⟩=some (.slice B ms.length b):=(aa q1).trans rfl;replace b1:=ab b1;replace q1:=ab q1)
      | (go_at_call 99;refine (bd _ _ _).mono ?_;rintro e w5 ⟨he,kR⟩;rw [d1] at he;subst he;rw [kR];clear kR w5)
      | (go_at_call 36;refine (bh _ _ _ _).mono ?_;rintro e w5 ⟨he,kR⟩;rw [d2] at he;subst he;rw [kR];clear kR w5))
     go_ret
     exact ⟨rfl,cD.out.trans b1.out⟩
    ·rw [if_neg hs]
     have OK:¬(1000:Int)<(ni:Int):=by omega
     obtain ⟨e0,X2⟩:∃e0:Nat,entry=e0:=⟨entry.toNat,by omega⟩
     subst X2
     rcases HB.out.2 with z0|⟨mb,mo,rfl,hcell⟩
     ·omega
     obtain ⟨P,C,J,p,c,k,m0,-,-,-,-,-,-,-,hme⟩:=hcell e0 (by omega)
     rw [Int.toNat_natCast]
     obtain ⟨U,hU⟩:∃U,(!(mg (nth bM ms e0).params)&&decide (na=(nth bM ms e0).params.length))=U:=⟨_,rfl⟩
     have HU:=ab hU
     have HP:=ab hme.1
     rw [hU]
     generalize (nth bM ms e0).params=PL at *
     clear hcell hme hU
     cases U
     all_goals
      go_enter Tryz.func44,Tryz.ntmps44
      go_wp2_with (first
       | (go_at_call 16;refine (HM.out _ cD.out).mono ?_;rintro e w1 ⟨rfl,b1⟩;have q1:=ai b1 gz.out;have y1:w1.cell? ⟨w.heap.size+1,1,none⟩=some (.slice (some ⟨mb,mo,none⟩) ms.length b):=(aa q1).trans rfl;have m1:=(cD.out.trans b1).cell m0;replace b1:=ab b1;replace q1:=ab q1)
       | (go_at_call 99;refine (bd _ _ _).mono ?_;rintro e w5 ⟨he,kR⟩;rw [d1] at he;subst he;rw [kR];clear kR w5)
       | (go_at_call 36;refine (bh _ _ _ _).mono ?_;rintro e w5 ⟨he,kR⟩;rw [d2] at he;subst he;rw [kR];clear kR w5)
       | (go_at_call 100;refine (BI _ _ _ _ _ PL _ (HP.out.bl (cD.out.trans b1.out)) HN.out).mono ?_;rintro e w6 ⟨he,b6⟩;rw [HU.out] at he;subst he;replace b6:=ab b6))
      go_ret
      exact ⟨rfl,(cD.out.trans b1.out).trans b6.out⟩
   ·have d2:decide (0≤fuel/\fuel≤60000)=false:=decide_eq_false hf
    rw [if_pos (Or.inr hf)]
    go_enter Tryz.func44,Tryz.ntmps44
    go_wp2_with (first
     | (go_at_call 16;refine (HM.out _ cD.out).mono ?_;rintro e w1 ⟨rfl,b1⟩;have q1:=ai b1 gz.out;have y1:w1.cell? ⟨w.heap.size+1,1,none⟩=some (.slice B ms.length b):=(aa q1).trans rfl;replace b1:=ab b1;replace q1:=ab q1)
     | (go_at_call 99;refine (bd _ _ _).mono ?_;rintro e w5 ⟨he,kR⟩;rw [d1] at he;subst he;rw [kR];clear kR w5)
     | (go_at_call 36;refine (bh _ _ _ _).mono ?_;rintro e w5 ⟨he,kR⟩;rw [d2] at he;subst he;rw [kR];clear kR w5))
    go_ret
    exact ⟨rfl,cD.out.trans b1.out⟩
  ·have d1:decide (0≤entry/\entry<(ms.length:Int))=false:=decide_eq_false he
   rw [if_pos (Or.inl he)]
   go_enter Tryz.func44,Tryz.ntmps44
   go_wp2_with (first
    | (go_at_call 16;refine (HM.out _ cD.out).mono ?_;rintro e w1 ⟨rfl,b1⟩;have q1:=ai b1 gz.out;have y1:w1.cell? ⟨w.heap.size+1,1,none⟩=some (.slice B ms.length b):=(aa q1).trans rfl;replace b1:=ab b1;replace q1:=ab q1)
    | (go_at_call 99;refine (bd _ _ _).mono ?_;rintro e w5 ⟨he,kR⟩;rw [d1] at he;subst he;rw [kR];clear kR w5))
   go_ret
   exact ⟨rfl,cD.out.trans b1.out⟩
abbrev oB (how k n:Int):Obj:=.cells #[int i64 how,int i64 k,int i64 n] 100
abbrev iE:Obj:=.cells #[int i64 0,int i64 0,int i64 0,.slice none 0 0,int i64 0,int i64 0] 28
theorem js {b:Nat} {u0 u1 u2 u3 u4 u5:Value} {t:TypeId} (h:w.heap[b]?=some (.cells #[u0,u1,u2,u3,u4,u5] t (0,0))) (v0 v1 v2 v3 v4 v5:Value):((((((w.setCell ⟨b,0,none⟩ v0).setCell ⟨b,1,none⟩ v1).setCell ⟨b,2,none⟩ v2).setCell ⟨b,3,none⟩ v3).setCell ⟨b,4,none⟩ v4).setCell ⟨b,5,none⟩ v5).heap[b]?=some (.cells #[v0,v1,v2,v3,v4,v5] t (0,0)):=by
 rw [ax (ax (ax (ax (ax (ax h _) _) _) _) _) _];rfl
theorem kN {v:World} (h:Bl w v) {b:Nat} (hb:w.heap.size≤b) (y0 y1 y2 y3 y4 y5:Value):Bl w ((((((v.setCell ⟨b,0,none⟩ y0).setCell ⟨b,1,none⟩ y1).setCell ⟨b,2,none⟩ y2).setCell ⟨b,3,none⟩ y3).setCell ⟨b,4,none⟩ y4).setCell ⟨b,5,none⟩ y5) :=
 (((((h.setCell (p:=⟨b,0,none⟩) hb _).setCell (p:=⟨b,1,none⟩) hb _).setCell (p:=⟨b,2,none⟩) hb _).setCell (p:=⟨b,3,none⟩) hb _).setCell (p:=⟨b,4,none⟩) hb _).setCell (p:=⟨b,5,none⟩) hb _
theorem jt:(Tryz.prog.info? 28).map (·.size)=some 6:=by kernel_rfl
section
variable (how k n:Int) (g:Mg) (h:Hp) (Ax:Option Addr) (nx cx:Nat) (w:World)
theorem CT (r0:w.cell? ⟨g.r,0,none⟩=some (.pointer (some ⟨g.hb,0,none⟩))) (r6:w.cell? ⟨g.r,6,none⟩=some (int i64 h.sh.steps)) (r7:w.cell? ⟨g.r,7,none⟩=some (int i64 h.sh.used)) (r8:w.cell? ⟨g.r,8,none⟩=some (.slice Ax nx cx)) (hh:how≠2) (hk:k≠3) :
  Calls Tryz.prog 48 #[.pointer (some ⟨g.r,0,none⟩),.agg #[int i64 how,int i64 k,int i64 n]] w fun e w'=>e=.returned (.agg #[int i64 how,int i64 n,int i64 0,.slice Ax nx cx,int i64 h.sh.used,int i64 h.sh.steps])/\Bl w w':=by
 have cD:Hid (Bl w ((w.alloc (oB how k n)).alloc iE)):=((Bl.refl w).alloc _).alloc _
 have HT:Hid (∀w',Bl ((w.alloc (oB how k n)).alloc iE) w'->(fun w'=>Hid (Bl ((w.alloc (oB how k n)).alloc iE) w')/\w'.cell? ⟨w.heap.size,0,none⟩=some (int i64 how)/\w'.cell? ⟨w.heap.size,1,none⟩=some (int i64 k)/\w'.cell? ⟨w.heap.size,2,none⟩=some (int i64 n)/\w'.cell? ⟨g.r,0,none⟩=some (.pointer (some ⟨g.hb,0,none⟩))/\w'.cell? ⟨g.r,6,none⟩=some (int i64 h.sh.steps)/\w'.cell? ⟨g.r,7,none⟩=some (int i64 h.sh.used)/\w'.cell? ⟨g.r,8,none⟩=some (.slice Ax nx cx)) w'):=fun w' hb=>by
  have dA:=cD.out.trans hb
  have mN:Bl (w.alloc (oB how k n)) w':=((Bl.refl _).alloc _).trans hb
  exact ⟨hb,mN.cell (ak rfl),mN.cell (ak rfl),mN.cell (ak rfl),dA.cell r0,dA.cell r6,dA.cell r7,dA.cell r8⟩
 have Lv:(how==2)=false:=by simpa using hh
 have Hw:(k !=3)=true:=by simpa using hk
 clear r0 r6 r7 r8 hh hk
 go_enter Tryz.func48,Tryz.ntmps48
 go_wp2
 refine wp_region_held_drew (S:=fun w'=>Hid (Bl ((w.alloc (oB how k n)).alloc iE) w')/\w'.cell? ⟨w.heap.size,0,none⟩=some (int i64 how)/\w'.cell? ⟨w.heap.size,1,none⟩=some (int i64 k)/\w'.cell? ⟨w.heap.size,2,none⟩=some (int i64 n)/\w'.cell? ⟨g.r,0,none⟩=some (.pointer (some ⟨g.hb,0,none⟩))/\w'.cell? ⟨g.r,6,none⟩=some (int i64 h.sh.steps)/\w'.cell? ⟨g.r,7,none⟩=some (int i64 h.sh.used)/\w'.cell? ⟨g.r,8,none⟩=some (.slice Ax nx cx)) (by kernel_rfl) ?_ (fun ae=>?_)
 ·exact HT.out _ (Bl.refl _).drew
 iterate 15 (refine tn rfl rfl rfl (by kernel_rfl) (fun _ _ _ h=>h) (by rfl) (by intro _ h;(try dsimp only at h);go_split_ands;go_simp<;>with_reducible rfl) ae ?_;try simp only [aS,aN,aT,a0,a1])
 refine bJ (i:=15) (by kernel_rfl) rfl fun K hK=>?_
 go_simp
 refine hK.out _ _ (HT.out _ (ae.1.out.alloc _)) (fun ah=>?_)
 try simp only [aS,aN,aT,a0,a1]
 refine bJ (i:=16) (by kernel_rfl) rfl fun K hK=>?_
 go_simp
 refine hK.out _ _ (HT.out _ ((Bl.refl _).alloc _).drew) (fun aX=>?_)
 try simp only [aS,aN,aT,a0,a1]
 refine wpAnyH_done (by kernel_rfl) ?_ _
 obtain ⟨V,hV⟩:∃V,V=(((w.alloc (oB how k n)).alloc iE).alloc (.cells #[int i64 how,int i64 0,int i64 0,.slice Ax nx cx,int i64 h.sh.used,int i64 h.sh.steps] 28)).drew:=⟨_,rfl⟩
 have mj:Bl w V:=by rw [hV];exact (cD.out.alloc _).drew
 obtain ⟨L0,L1⟩:=bC (w.alloc (oB how k n)) #[int i64 0,int i64 0,int i64 0,.slice none 0 0,int i64 0,int i64 0] #[int i64 how,int i64 0,int i64 0,.slice Ax nx cx,int i64 h.sh.used,int i64 h.sh.steps] 28 28
 rw [World.size_alloc] at L0 L1
 have qz:V.heap[w.heap.size+1]?=some (.cells #[int i64 0,int i64 0,int i64 0,.slice none 0 0,int i64 0,int i64 0] 28 (0,0)):=by rw [hV];exact L0
 have qv:V.heap[w.heap.size+1+1]?=some (.cells #[int i64 how,int i64 0,int i64 0,.slice Ax nx cx,int i64 h.sh.used,int i64 h.sh.steps] 28 (0,0)):=by rw [hV];exact L1
 have qs:V.heap[w.heap.size]?=some (.cells #[int i64 how,int i64 k,int i64 n] 100 (0,0)):=by rw [hV];exact ai ((((Bl.refl _).alloc _).alloc _).drew) (aD w _ _)
 rw [<-hV]
 clear hV L0 L1 aX ae ah
 have s0:V.cell? ⟨w.heap.size,0,none⟩=some (int i64 how):=(aa qs).trans rfl
 have s1:V.cell? ⟨w.heap.size,1,none⟩=some (int i64 k):=(aa qs).trans rfl
 have s2:V.cell? ⟨w.heap.size,2,none⟩=some (int i64 n):=(aa qs).trans rfl
 have y0:V.cell? ⟨w.heap.size+1+1,0,none⟩=some (int i64 how):=(aa qv).trans rfl
 have y1:V.cell? ⟨w.heap.size+1+1,1,none⟩=some (int i64 0):=(aa qv).trans rfl
 have y2:V.cell? ⟨w.heap.size+1+1,2,none⟩=some (int i64 0):=(aa qv).trans rfl
 have y3:V.cell? ⟨w.heap.size+1+1,3,none⟩=some (.slice Ax nx cx):=(aa qv).trans rfl
 have y4:V.cell? ⟨w.heap.size+1+1,4,none⟩=some (int i64 h.sh.used):=(aa qv).trans rfl
 have y5:V.cell? ⟨w.heap.size+1+1,5,none⟩=some (int i64 h.sh.steps):=(aa qv).trans rfl
 have z0:V.cell? ⟨w.heap.size+1,0,none⟩=some (int i64 0):=(aa qz).trans rfl
 have z1:V.cell? ⟨w.heap.size+1,1,none⟩=some (int i64 0):=(aa qz).trans rfl
 have z2:V.cell? ⟨w.heap.size+1,2,none⟩=some (int i64 0):=(aa qz).trans rfl
 have z3:V.cell? ⟨w.heap.size+1,3,none⟩=some (.slice none 0 0):=(aa qz).trans rfl
 have z4:V.cell? ⟨w.heap.size+1,4,none⟩=some (int i64 0):=(aa qz).trans rfl
 have z5:V.cell? ⟨w.heap.size+1,5,none⟩=some (int i64 0):=(aa qz).trans rfl
 have fv:=ay qv
 have fr:=ay qz
 have n1:w.heap.size+1+1≠w.heap.size+1:=by omega
 have n2:w.heap.size+1≠w.heap.size+1+1:=by omega
 replace qz:=ab qz
 replace qv:=ab qv
 replace qs:=ab qs
 replace mj:=ab mj
 go_wp2
 have q3:(V.setCell ⟨w.heap.size+1+1,1,none⟩ (int i64 n)).heap[w.heap.size+1]?=some (.cells #[int i64 0,int i64 0,int i64 0,.slice none 0 0,int i64 0,int i64 0] 28 (0,0)):=by rw [aA (by omega)];exact qz.out
 refine bodyPost_ret (results_cell_row rfl _ _ (w.heap.size+1) _ _ _ _ rfl (js q3 _ _ _ _ _ _) Tryz.underlying28 rfl jt) rfl ?_
 exact ⟨rfl,kN (mj.out.setCell (p:=⟨w.heap.size+1+1,1,none⟩) (by show w.heap.size≤w.heap.size+1+1;omega) _) (Nat.le_succ _) _ _ _ _ _ _⟩
theorem CU (r0:w.cell? ⟨g.r,0,none⟩=some (.pointer (some ⟨g.hb,0,none⟩))) (r6:w.cell? ⟨g.r,6,none⟩=some (int i64 h.sh.steps)) (r7:w.cell? ⟨g.r,7,none⟩=some (int i64 h.sh.used)) (r8:w.cell? ⟨g.r,8,none⟩=some (.slice Ax nx cx)) (hh:how≠2) (hk:k=3) :
  Calls Tryz.prog 48 #[.pointer (some ⟨g.r,0,none⟩),.agg #[int i64 how,int i64 k,int i64 n]] w fun e w'=>e=.returned (.agg #[int i64 how,int i64 0,int i64 0,.slice Ax nx cx,int i64 h.sh.used,int i64 h.sh.steps])/\Bl w w':=by
 have cD:Hid (Bl w ((w.alloc (oB how k n)).alloc iE)):=((Bl.refl w).alloc _).alloc _
 have HT:Hid (∀w',Bl ((w.alloc (oB how k n)).alloc iE) w'->(fun w'=>Hid (Bl ((w.alloc (oB how k n)).alloc iE) w')/\w'.cell? ⟨w.heap.size,0,none⟩=some (int i64 how)/\w'.cell? ⟨w.heap.size,1,none⟩=some (int i64 k)/\w'.cell? ⟨w.heap.size,2,none⟩=some (int i64 n)/\w'.cell? ⟨g.r,0,none⟩=some (.pointer (some ⟨g.hb,0,none⟩))/\w'.cell? ⟨g.r,6,none⟩=some (int i64 h.sh.steps)/\w'.cell? ⟨g.r,7,none⟩=some (int i64 h.sh.used)/\w'.cell? ⟨g.r,8,none⟩=some (.slice Ax nx cx)) w'):=fun w' hb=>by
  have dA:=cD.out.trans hb
  have mN:Bl (w.alloc (oB how k n)) w':=((Bl.refl _).alloc _).trans hb
  exact ⟨hb,mN.cell (ak rfl),mN.cell (ak rfl),mN.cell (ak rfl),dA.cell r0,dA.cell r6,dA.cell r7,dA.cell r8⟩
 have Lv:(how==2)=false:=by simpa using hh
 have Hw:(k !=3)=false:=by simp [hk]
 clear r0 r6 r7 r8 hh hk
 go_enter Tryz.func48,Tryz.ntmps48
 go_wp2
 refine wp_region_held_drew (S:=fun w'=>Hid (Bl ((w.alloc (oB how k n)).alloc iE) w')/\w'.cell? ⟨w.heap.size,0,none⟩=some (int i64 how)/\w'.cell? ⟨w.heap.size,1,none⟩=some (int i64 k)/\w'.cell? ⟨w.heap.size,2,none⟩=some (int i64 n)/\w'.cell? ⟨g.r,0,none⟩=some (.pointer (some ⟨g.hb,0,none⟩))/\w'.cell? ⟨g.r,6,none⟩=some (int i64 h.sh.steps)/\w'.cell? ⟨g.r,7,none⟩=some (int i64 h.sh.used)/\w'.cell? ⟨g.r,8,none⟩=some (.slice Ax nx cx)) (by kernel_rfl) ?_ (fun ae=>?_)
 ·exact HT.out _ (Bl.refl _).drew
 iterate 15 (refine tn rfl rfl rfl (by kernel_rfl) (fun _ _ _ h=>h) (by rfl) (by intro _ h;(try dsimp only at h);go_split_ands;go_simp<;>with_reducible rfl) ae ?_;try simp only [aS,aN,aT,a0,a1])
 refine bJ (i:=15) (by kernel_rfl) rfl fun K hK=>?_
 go_simp
 refine hK.out _ _ (HT.out _ (ae.1.out.alloc _)) (fun ah=>?_)
 try simp only [aS,aN,aT,a0,a1]
 refine bJ (i:=16) (by kernel_rfl) rfl fun K hK=>?_
 go_simp
 refine hK.out _ _ (HT.out _ ((Bl.refl _).alloc _).drew) (fun aX=>?_)
 try simp only [aS,aN,aT,a0,a1]
 refine wpAnyH_done (by kernel_rfl) ?_ _
 obtain ⟨V,hV⟩:∃V,V=(((w.alloc (oB how k n)).alloc iE).alloc (.cells #[int i64 how,int i64 0,int i64 0,.slice Ax nx cx,int i64 h.sh.used,int i64 h.sh.steps] 28)).drew:=⟨_,rfl⟩
 have mj:Bl w V:=by rw [hV];exact (cD.out.alloc _).drew
 obtain ⟨L0,L1⟩:=bC (w.alloc (oB how k n)) #[int i64 0,int i64 0,int i64 0,.slice none 0 0,int i64 0,int i64 0] #[int i64 how,int i64 0,int i64 0,.slice Ax nx cx,int i64 h.sh.used,int i64 h.sh.steps] 28 28
 rw [World.size_alloc] at L0 L1
 have qz:V.heap[w.heap.size+1]?=some (.cells #[int i64 0,int i64 0,int i64 0,.slice none 0 0,int i64 0,int i64 0] 28 (0,0)):=by rw [hV];exact L0
 have qv:V.heap[w.heap.size+1+1]?=some (.cells #[int i64 how,int i64 0,int i64 0,.slice Ax nx cx,int i64 h.sh.used,int i64 h.sh.steps] 28 (0,0)):=by rw [hV];exact L1
 have qs:V.heap[w.heap.size]?=some (.cells #[int i64 how,int i64 k,int i64 n] 100 (0,0)):=by rw [hV];exact ai ((((Bl.refl _).alloc _).alloc _).drew) (aD w _ _)
 rw [<-hV]
 clear hV L0 L1 aX ae ah
 have s0:V.cell? ⟨w.heap.size,0,none⟩=some (int i64 how):=(aa qs).trans rfl
 have s1:V.cell? ⟨w.heap.size,1,none⟩=some (int i64 k):=(aa qs).trans rfl
 have s2:V.cell? ⟨w.heap.size,2,none⟩=some (int i64 n):=(aa qs).trans rfl
 have y0:V.cell? ⟨w.heap.size+1+1,0,none⟩=some (int i64 how):=(aa qv).trans rfl
 have y1:V.cell? ⟨w.heap.size+1+1,1,none⟩=some (int i64 0):=(aa qv).trans rfl
 have y2:V.cell? ⟨w.heap.size+1+1,2,none⟩=some (int i64 0):=(aa qv).trans rfl
 have y3:V.cell? ⟨w.heap.size+1+1,3,none⟩=some (.slice Ax nx cx):=(aa qv).trans rfl
 have y4:V.cell? ⟨w.heap.size+1+1,4,none⟩=some (int i64 h.sh.used):=(aa qv).trans rfl
 have y5:V.cell? ⟨w.heap.size+1+1,5,none⟩=some (int i64 h.sh.steps):=(aa qv).trans rfl
 have z0:V.cell? ⟨w.heap.size+1,0,none⟩=some (int i64 0):=(aa qz).trans rfl
 have z1:V.cell? ⟨w.heap.size+1,1,none⟩=some (int i64 0):=(aa qz).trans rfl
 have z2:V.cell? ⟨w.heap.size+1,2,none⟩=some (int i64 0):=(aa qz).trans rfl
 have z3:V.cell? ⟨w.heap.size+1,3,none⟩=some (.slice none 0 0):=(aa qz).trans rfl
 have z4:V.cell? ⟨w.heap.size+1,4,none⟩=some (int i64 0):=(aa qz).trans rfl
 have z5:V.cell? ⟨w.heap.size+1,5,none⟩=some (int i64 0):=(aa qz).trans rfl
 have fv:=ay qv
 have fr:=ay qz
 have n1:w.heap.size+1+1≠w.heap.size+1:=by omega
 have n2:w.heap.size+1≠w.heap.size+1+1:=by omega
 replace qz:=ab qz
 replace qv:=ab qv
 replace qs:=ab qs
 replace mj:=ab mj
 go_wp2
 refine bodyPost_ret (results_cell_row rfl _ _ (w.heap.size+1) _ _ _ _ rfl (js qz.out _ _ _ _ _ _) Tryz.underlying28 rfl jt) rfl ?_
 exact ⟨rfl,kN mj.out (Nat.le_succ _) _ _ _ _ _ _⟩
end
theorem CV (n:Nat) (CL:Int) (g:Mg) (h:Hp) (Ax:Option Addr) (nx cx:Nat) (w:World) (R:oW w g h) (hn:n<h.objs.length) (hC:(nth cA h.objs n).cls=CL) (r0:w.cell? ⟨g.r,0,none⟩=some (.pointer (some ⟨g.hb,0,none⟩))) (r6:w.cell? ⟨g.r,6,none⟩=some (int i64 h.sh.steps)) (r7:w.cell? ⟨g.r,7,none⟩=some (int i64 h.sh.used)) (r8:w.cell? ⟨g.r,8,none⟩=some (.slice Ax nx cx)) :
  Calls Tryz.prog 48 #[.pointer (some ⟨g.r,0,none⟩),.agg #[int i64 2,int i64 3,int i64 ((n:Int)+1)]] w fun e w'=>e=.returned (.agg #[int i64 2,int i64 0,int i64 CL,.slice Ax nx cx,int i64 h.sh.used,int i64 h.sh.steps])/\Bl w w':=by
 have cD:Hid (Bl w ((w.alloc (oB 2 3 ((n:Int)+1))).alloc iE)):=((Bl.refl w).alloc _).alloc _
 have HT:Hid (∀w',Bl ((w.alloc (oB 2 3 ((n:Int)+1))).alloc iE) w'->(fun w'=>Hid (Bl ((w.alloc (oB 2 3 ((n:Int)+1))).alloc iE) w')/\w'.cell? ⟨w.heap.size,0,none⟩=some (int i64 2)/\w'.cell? ⟨w.heap.size,1,none⟩=some (int i64 3)/\w'.cell? ⟨w.heap.size,2,none⟩=some (int i64 ((n:Int)+1))/\w'.cell? ⟨g.r,0,none⟩=some (.pointer (some ⟨g.hb,0,none⟩))/\w'.cell? ⟨g.r,6,none⟩=some (int i64 h.sh.steps)/\w'.cell? ⟨g.r,7,none⟩=some (int i64 h.sh.used)/\w'.cell? ⟨g.r,8,none⟩=some (.slice Ax nx cx)) w'):=fun w' hb=>by
  have dA:=cD.out.trans hb
  have mN:Bl (w.alloc (oB 2 3 ((n:Int)+1))) w':=((Bl.refl _).alloc _).trans hb
  exact ⟨hb,mN.cell (ak rfl),mN.cell (ak rfl),mN.cell (ak rfl),dA.cell r0,dA.cell r6,dA.cell r7,dA.cell r8⟩
 have Td:Hid (∀w',Bl (w.alloc (oB 2 3 ((n:Int)+1))) w'->(fun w'=>Hid (Bl (w.alloc (oB 2 3 ((n:Int)+1))) w')/\w'.cell? ⟨w.heap.size,1,none⟩=some (int i64 3)/\w'.cell? ⟨w.heap.size,2,none⟩=some (int i64 ((n:Int)+1))/\w'.cell? ⟨g.r,0,none⟩=some (.pointer (some ⟨g.hb,0,none⟩))) w'):=fun w' hb =>
  ⟨hb,hb.cell (ak rfl),hb.cell (ak rfl),(((Bl.refl w).alloc _).trans hb).cell r0⟩
 have nY:Hid (∀w',Bl (w.alloc (oB 2 3 ((n:Int)+1))) w'->Calls Tryz.prog 105 #[.pointer (some ⟨g.hb,0,none⟩),cn ⟨3,(n:Int)+1⟩] w' fun e w2=>e=.returned (int i64 CL)/\Bl w' w2):=fun w' hb=>by
  have:=oX g h n w' (R.bl (((Bl.refl w).alloc _).trans hb)) hn
  rw [hC] at this
  exact this
 clear r0 r6 r7 r8 R hC hn
 go_enter Tryz.func48,Tryz.ntmps48
 go_wp2
 refine wp_region_held_drew (S:=fun w'=>Hid (Bl ((w.alloc (oB 2 3 ((n:Int)+1))).alloc iE) w')/\w'.cell? ⟨w.heap.size,0,none⟩=some (int i64 2)/\w'.cell? ⟨w.heap.size,1,none⟩=some (int i64 3)/\w'.cell? ⟨w.heap.size,2,none⟩=some (int i64 ((n:Int)+1))/\w'.cell? ⟨g.r,0,none⟩=some (.pointer (some ⟨g.hb,0,none⟩))/\w'.cell? ⟨g.r,6,none⟩=some (int i64 h.sh.steps)/\w'.cell? ⟨g.r,7,none⟩=some (int i64 h.sh.used)/\w'.cell? ⟨g.r,8,none⟩=some (.slice Ax nx cx)) (by kernel_rfl) ?_ (fun ae=>?_)
 ·exact HT.out _ (Bl.refl _).drew
 iterate 15 (refine tn rfl rfl rfl (by kernel_rfl) (fun _ _ _ h=>h) (by rfl) (by intro _ h;(try dsimp only at h);go_split_ands;go_simp<;>with_reducible rfl) ae ?_;try simp only [aS,aN,aT,a0,a1])
 refine bJ (i:=15) (by kernel_rfl) rfl fun K hK=>?_
 go_simp
 refine hK.out _ _ (HT.out _ (ae.1.out.alloc _)) (fun ah=>?_)
 try simp only [aS,aN,aT,a0,a1]
 refine bJ (i:=16) (by kernel_rfl) rfl fun K hK=>?_
 go_simp
 refine hK.out _ _ (HT.out _ ((Bl.refl _).alloc _).drew) (fun aX=>?_)
 try simp only [aS,aN,aT,a0,a1]
 refine wpAnyH_done (by kernel_rfl) ?_ _
 obtain ⟨V,hV⟩:∃V,V=(((w.alloc (oB 2 3 ((n:Int)+1))).alloc iE).alloc (.cells #[int i64 2,int i64 0,int i64 0,.slice Ax nx cx,int i64 h.sh.used,int i64 h.sh.steps] 28)).drew:=⟨_,rfl⟩
 have mj:Bl w V:=by rw [hV];exact (cD.out.alloc _).drew
 obtain ⟨L0,L1⟩:=bC (w.alloc (oB 2 3 ((n:Int)+1))) #[int i64 0,int i64 0,int i64 0,.slice none 0 0,int i64 0,int i64 0] #[int i64 2,int i64 0,int i64 0,.slice Ax nx cx,int i64 h.sh.used,int i64 h.sh.steps] 28 28
 rw [World.size_alloc] at L0 L1
 have qz:V.heap[w.heap.size+1]?=some (.cells #[int i64 0,int i64 0,int i64 0,.slice none 0 0,int i64 0,int i64 0] 28 (0,0)):=by rw [hV];exact L0
 have qv:V.heap[w.heap.size+1+1]?=some (.cells #[int i64 2,int i64 0,int i64 0,.slice Ax nx cx,int i64 h.sh.used,int i64 h.sh.steps] 28 (0,0)):=by rw [hV];exact L1
 have qs:V.heap[w.heap.size]?=some (.cells #[int i64 2,int i64 3,int i64 ((n:Int)+1)] 100 (0,0)):=by rw [hV];exact ai ((((Bl.refl _).alloc _).alloc _).drew) (aD w _ _)
 have PN:Bl (w.alloc (oB 2 3 ((n:Int)+1))) V:=by rw [hV];exact (((Bl.refl _).alloc _).alloc _).drew
 rw [<-hV]
 clear hV L0 L1 aX ae ah
 have s0:V.cell? ⟨w.heap.size,0,none⟩=some (int i64 2):=(aa qs).trans rfl
 have s1:V.cell? ⟨w.heap.size,1,none⟩=some (int i64 3):=(aa qs).trans rfl
 have s2:V.cell? ⟨w.heap.size,2,none⟩=some (int i64 ((n:Int)+1)):=(aa qs).trans rfl
 have Ki:Hid (Bl (w.alloc (oB 2 3 ((n:Int)+1))) V):=PN
 replace qz:=ab qz
 replace qv:=ab qv
 replace qs:=ab qs
 replace mj:=ab mj
 clear PN
 go_wp2
 refine wp_region_held_drew (S:=fun w'=>Hid (Bl (w.alloc (oB 2 3 ((n:Int)+1))) w')/\w'.cell? ⟨w.heap.size,1,none⟩=some (int i64 3)/\w'.cell? ⟨w.heap.size,2,none⟩=some (int i64 ((n:Int)+1))/\w'.cell? ⟨g.r,0,none⟩=some (.pointer (some ⟨g.hb,0,none⟩))) (by kernel_rfl) ?_ (fun ae=>?_)
 ·exact Td.out _ Ki.out.drew
 iterate 6 (refine tn rfl rfl rfl (by kernel_rfl) (fun _ _ _ h=>h) (by rfl) (by intro _ h;(try dsimp only at h);go_split_ands;go_simp<;>with_reducible rfl) ae ?_;try simp only [aS,aN,aT,a0,a1])
 refine bJ (i:=6) (by kernel_rfl) rfl fun K hK=>?_
 go_simp
 go_at_call 105
 refine (nY.out _ Ki.out.drew).mono ?_
 rintro e w3 ⟨rfl,b3⟩
 have B3:Hid (Bl V w3):=(Bl.refl V).drew.trans b3
 have kV:=ai B3.out qv.out
 have Zo:=ay kV
 have Zp:w3.cell? ⟨w.heap.size+1+1,2,none⟩=some (int i64 0):=(aa kV).trans rfl
 replace kV:=ab kV
 clear b3
 go_wp2_with fail
 refine hK.out _ _ (Td.out _ (Ki.out.trans B3.out)) (fun ah=>?_)
 try simp only [aS,aN,aT,a0,a1]
 refine tn rfl rfl rfl (by kernel_rfl) (fun _ _ _ h=>h) (by rfl) (by intro _ h;(try dsimp only at h);go_split_ands;go_simp<;>with_reducible rfl) ah ?_
 try simp only [aS,aN,aT,a0,a1]
 refine bJ (i:=8) (by kernel_rfl) rfl fun K hK=>?_
 go_simp
 refine hK.out _ _ (Td.out _ ((Ki.out.trans B3.out).setCell (p:=⟨w.heap.size+1+1,2,none⟩) (by simp) _)) (fun aX=>?_)
 try simp only [aS,aN,aT,a0,a1]
 refine wpAnyH_done (by kernel_rfl) ?_ _
 obtain ⟨V2,PO⟩:∃V2,V2=w3.setCell ⟨w.heap.size+1+1,2,none⟩ (int i64 CL):=⟨_,rfl⟩
 have Kj:V2.heap[w.heap.size+1+1]?=some (.cells #[int i64 2,int i64 0,int i64 CL,.slice Ax nx cx,int i64 h.sh.used,int i64 h.sh.steps] 28 (0,0)):=by rw [PO,ax kV.out];rfl
 have Hf:V2.heap[w.heap.size+1]?=some (.cells #[int i64 0,int i64 0,int i64 0,.slice none 0 0,int i64 0,int i64 0] 28 (0,0)):=by rw [PO,aA (by omega)];exact ai B3.out qz.out
 have dA:Bl w V2:=by rw [PO];exact (mj.out.trans B3.out).setCell (p:=⟨w.heap.size+1+1,2,none⟩) (by show w.heap.size≤w.heap.size+1+1;omega) _
 rw [<-PO]
 clear PO ae ah aX
 have y0:V2.cell? ⟨w.heap.size+1+1,0,none⟩=some (int i64 2):=(aa Kj).trans rfl
 have y1:V2.cell? ⟨w.heap.size+1+1,1,none⟩=some (int i64 0):=(aa Kj).trans rfl
 have y2:V2.cell? ⟨w.heap.size+1+1,2,none⟩=some (int i64 CL):=(aa Kj).trans rfl
 have y3:V2.cell? ⟨w.heap.size+1+1,3,none⟩=some (.slice Ax nx cx):=(aa Kj).trans rfl
 have y4:V2.cell? ⟨w.heap.size+1+1,4,none⟩=some (int i64 h.sh.used):=(aa Kj).trans rfl
 have y5:V2.cell? ⟨w.heap.size+1+1,5,none⟩=some (int i64 h.sh.steps):=(aa Kj).trans rfl
 have z0:V2.cell? ⟨w.heap.size+1,0,none⟩=some (int i64 0):=(aa Hf).trans rfl
 have z1:V2.cell? ⟨w.heap.size+1,1,none⟩=some (int i64 0):=(aa Hf).trans rfl
 have z2:V2.cell? ⟨w.heap.size+1,2,none⟩=some (int i64 0):=(aa Hf).trans rfl
 have z3:V2.cell? ⟨w.heap.size+1,3,none⟩=some (.slice none 0 0):=(aa Hf).trans rfl
 have z4:V2.cell? ⟨w.heap.size+1,4,none⟩=some (int i64 0):=(aa Hf).trans rfl
 have z5:V2.cell? ⟨w.heap.size+1,5,none⟩=some (int i64 0):=(aa Hf).trans rfl
 have fv:=ay Kj
 have fr:=ay Hf
 have n1:w.heap.size+1+1≠w.heap.size+1:=by omega
 have n2:w.heap.size+1≠w.heap.size+1+1:=by omega
 replace Hf:=ab Hf
 replace Kj:=ab Kj
 replace dA:=ab dA
 go_wp2
 refine bodyPost_ret (results_cell_row rfl _ _ (w.heap.size+1) _ _ _ _ rfl (js Hf.out _ _ _ _ _ _) Tryz.underlying28 rfl jt) rfl ?_
 exact ⟨rfl,kN dA.out (Nat.le_succ _) _ _ _ _ _ _⟩
theorem RX.c0910 {s:Nat} {X:Nat->Prop} {wx w0:World} {g:Mg} {h:Hp} {qs:List Nat} {a:Mc} {c:aH} (H:RX s X wx w0 g w h qs a c):w.cell? ⟨a.q,0,none⟩=some (.pointer (some ⟨g.hb,0,none⟩))/\w.cell? ⟨a.q,9,none⟩=some (.slice a.K c.m.hands.length a.k)/\w.cell? ⟨a.q,10,none⟩=some (int i64 c.pc):=by
 obtain ⟨vc,vo,vx,vs,l,H⟩:=H
 refine ⟨?_,?_,?_⟩<;>(rw [aa H.ca.blk];rfl)
section
variable {s:Nat} {X Y:Nat->Prop} {wx w0 w:World} {g:Mg} {h:Hp} {qs:List Nat} {a:Mc} {c:aH}
theorem cJ.clrs (H:cJ s X Y wx w0 g w h qs a c):cJ s X Y wx w0 g (w.setCell ⟨a.q,12,none⟩ (.slice none 0 0)) h qs a { c with stk:=[] }:=by
 obtain ⟨vc,vo,vx,vs,l,H,F⟩:=H
 refine ⟨vc,vo,vx,.slice none 0 0,l,H.setq (c':={ c with stk:=[] }) rfl rfl rfl ⟨rfl,Or.inl ⟨rfl,rfl⟩⟩ (fun b e=>by simp [Value.ownBlock] at e) (fun v hv=>by cases hv),fun b hy=>?_⟩
 obtain ⟨h1,h2,h3,h4,h5⟩:=F b hy
 exact ⟨by simpa [World.setCell] using h1,h2,h3,h4,h5.q,h5.l,fun e=>by simp [Value.ownBlock] at e⟩
theorem cJ.c12 (H:cJ s X Y wx w0 g w h qs a c):∃vs,w.cell? ⟨a.q,12,none⟩=some vs/\∀i,w.frozen? ⟨a.q,i,none⟩=false:=by
 obtain ⟨vc,vo,vx,vs,l,H,F⟩:=H
 exact ⟨vs,H.ca.cells.c12,H.ca.free⟩
end
section
variable (s:Nat) (X:Nat->Prop) (wx w0:World) (g:Mg) (h:Hp) (qs:List Nat) (a:Mc) (c:aH) (v:Va) (w:World)
theorem Gx (H:RX s X wx w0 g w h qs a c) (F:Fix w0 g h) (hf:h.objs.length≤100) (hv:v.kind=3) (h0:0≤v.n) (hn:v.n<h.objs.length) (ht:h.thrown=v.n) (hok:∀q,q<c.m.hands.length->0≤(nth eB c.m.hands q).fr/\(nth eB c.m.hands q).til≤1000/\0≤(nth eB c.m.hands q).til/\0≤(nth eB c.m.hands q).pc) (oU:0≤c.pc/\c.pc≤1000) (hcl:h.caughtL c.pc c.m.hands<0) :
  Calls Tryz.prog 43 #[.pointer (some ⟨a.q,0,none⟩),cn (im v)] w fun e w'=>e=.returned (.bool false)/\RX s X wx w0 g w' h qs a c:=by
 have HH:=ab H
 have cD:Hid (Bl w (w.alloc (dL (im v)))):=(Bl.refl w).alloc _
 have LG:Hid (∀w',Bl w w'->Calls Tryz.prog 98 #[.pointer (some ⟨g.hb,0,none⟩),.slice a.K c.m.hands.length a.k,int i64 c.pc,cn (im v)] w' fun e w2=>QF h c.pc c.m.hands w' e w2):=fun w' hb=>by
  have H':=H.bl hb
  obtain ⟨vc,vo,vx,vs,l,HA⟩:=H'
  exact lA g h v c.m.hands a.K a.k c.pc w' (HA.rh.rd F hf) (HA.ca.me.2.2.1.bl HA.rh.bl) hv h0 hn ht hok oU
 obtain ⟨k0,k9,Gq⟩:=H.c0910
 have HT:Hid (∀w',Bl (w.alloc (dL (im v))) w'->(fun w'=>Hid (Bl (w.alloc (dL (im v))) w')/\w'.cell? ⟨a.q,0,none⟩=some (.pointer (some ⟨g.hb,0,none⟩))/\w'.cell? ⟨a.q,9,none⟩=some (.slice a.K c.m.hands.length a.k)/\w'.cell? ⟨a.q,10,none⟩=some (int i64 c.pc)/\w'.cell? ⟨w.heap.size,0,none⟩=some (int i64 (im v).kind)/\w'.cell? ⟨w.heap.size,1,none⟩=some (int i64 (im v).n)) w'):=fun w' hb=>by
  have dA:=cD.out.trans hb
  exact ⟨hb,dA.cell k0,dA.cell k9,dA.cell Gq,hb.cell (ak rfl),hb.cell (ak rfl)⟩
 have nY:=ab hcl
 have HZ:Hid (((w.alloc (dL (im v))).alloc yy).heap[w.heap.size+1]?=some (.cells #[int i64 0,int i64 0,int i64 0,int i64 0] 106 (0,0))):=by
  have:=aD (w.alloc (dL (im v))) #[int i64 0,int i64 0,int i64 0,int i64 0] 106
  rwa [World.size_alloc] at this
 have hq:=H.qlt
 clear H F hf hv h0 hn ht hok oU hcl k0 k9 Gq
 go_enter Tryz.func43,Tryz.ntmps43
 go_wp2
 refine wp_region_held_drew (S:=fun w'=>Hid (Bl (w.alloc (dL (im v))) w')/\w'.cell? ⟨a.q,0,none⟩=some (.pointer (some ⟨g.hb,0,none⟩))/\w'.cell? ⟨a.q,9,none⟩=some (.slice a.K c.m.hands.length a.k)/\w'.cell? ⟨a.q,10,none⟩=some (int i64 c.pc)/\w'.cell? ⟨w.heap.size,0,none⟩=some (int i64 (im v).kind)/\w'.cell? ⟨w.heap.size,1,none⟩=some (int i64 (im v).n)) (by kernel_rfl) ?_ (fun ae=>?_)
 ·exact HT.out _ (Bl.refl _).drew
 iterate 14 (refine tn rfl rfl rfl (by kernel_rfl) (fun _ _ _ h=>h) (by rfl) (by intro _ h;(try dsimp only at h);go_split_ands;go_simp<;>with_reducible rfl) ae ?_;try simp only [aS,aN,aT,a0,a1])
 refine wpAnyH_ready (rs:=[14,18]) (by kernel_rfl) (by simp) ?_
 refine AllReadyH.cons rfl (fun K hK=>?_) (AllReadyH.cons rfl (fun K hK=>?_) (AllReadyH.nil))
 ·go_simp
  go_at_call 98
  refine (LG.out _ (cD.out.trans ae.1.out)).mono ?_
  rintro e w1 ⟨b1,x,hx⟩
  have he:∃x:Hd,e=.returned (.tuple #[.agg (zX x),.bool false]):=by
   rcases hx with ⟨z,-⟩|⟨-,z⟩
   ·exact absurd z (by have:=nY.out;omega)
   ·exact ⟨x,z⟩
  obtain ⟨y,rfl⟩:=he
  clear hx
  unfold zX
  have hb1:=ab (ae.1.out.trans b1)
  clear b1
  go_wp2_with fail
  refine hK.out _ _ (HT.out _ hb1.out) (fun ah=>?_)
  try simp only [aS,aN,aT,a0,a1]
  iterate 3 (refine tn rfl rfl rfl (by kernel_rfl) (fun _ _ _ h=>h) (by rfl) (by intro _ h;(try dsimp only at h);go_split_ands;go_simp<;>with_reducible rfl) ah ?_;try simp only [aS,aN,aT,a0,a1])
  refine bJ (i:=18) (by kernel_rfl) rfl fun K hK=>?_
  go_simp
  have mj:=ab (hb1.out.alloc yy)
  have cU:(w1.alloc yy).heap[w1.heap.size]?=some (.cells #[int i64 0,int i64 0,int i64 0,int i64 0] 106 (0,0)):=aD _ _ _
  have vN:=hb1.out.size
  obtain ⟨B,dP⟩:∃B,B=w1.heap.size:=⟨_,rfl⟩
  rw [<-dP] at cU vN
  simp only [<-dP]
  have hB:=ab vN
  clear dP vN
  replace cU:=ab cU
  generalize w1.alloc yy=V at *
  refine hK.out _ _ (HT.out _ mj.out) (fun aX=>?_)
  try simp only [aS,aN,aT,a0,a1]
  refine bJ (i:=19) (by kernel_rfl) rfl fun K hK=>?_
  have y0:V.cell? ⟨B,0,none⟩=some (int i64 0):=(aa cU.out).trans rfl
  have y1:V.cell? ⟨B,1,none⟩=some (int i64 0):=(aa cU.out).trans rfl
  have y2:V.cell? ⟨B,2,none⟩=some (int i64 0):=(aa cU.out).trans rfl
  have y3:V.cell? ⟨B,3,none⟩=some (int i64 0):=(aa cU.out).trans rfl
  have fz:=ay cU.out
  have Kk:=ab aX
  clear aX
  go_simp
  have ra:=ab (jN mj.out hB.out (int i64 y.fr) (int i64 y.til) (int i64 y.pc) (int i64 y.cls))
  have CW:=ab (hJ cU.out (int i64 y.fr) (int i64 y.til) (int i64 y.pc) (int i64 y.cls))
  clear y0 y1 y2 y3 fz
  refine hK.out _ _ (HT.out _ ra.out) (fun dg=>?_)
  try simp only [aS,aN,aT,a0,a1]
  refine tn rfl rfl rfl (by kernel_rfl) (fun _ _ _ h=>h) (by rfl) (by intro _ h;(try dsimp only at h);go_split_ands;go_simp<;>with_reducible rfl) dg ?_
  try simp only [aS,aN,aT,a0,a1]
  refine wpAnyH_done (by kernel_rfl) ?_ _
  go_wp2
  go_ret
  exact ⟨rfl,HH.out.bl (cD.out.trans dg.1.out)⟩
 ·go_simp
  refine hK.out _ _ (HT.out _ (ae.1.out.alloc _)) (fun dk=>?_)
  try simp only [aS,aN,aT,a0,a1]
  refine bJ (i:=14) (by kernel_rfl) rfl fun K hK=>?_
  go_simp
  go_at_call 98
  refine (LG.out _ (cD.out.trans dk.1.out)).mono ?_
  rintro e V ⟨b1,x,hx⟩
  have he:∃x:Hd,e=.returned (.tuple #[.agg (zX x),.bool false]):=by
   rcases hx with ⟨z,-⟩|⟨-,z⟩
   ·exact absurd z (by have:=nY.out;omega)
   ·exact ⟨x,z⟩
  obtain ⟨y,rfl⟩:=he
  clear hx
  unfold zX
  have mj:=ab (dk.1.out.trans b1)
  have cU:V.heap[w.heap.size+1]?=some (.cells #[int i64 0,int i64 0,int i64 0,int i64 0] 106 (0,0)):=ai b1 (show _=_ from HZ.out)
  obtain ⟨B,dP⟩:∃B,B=w.heap.size+1:=⟨_,rfl⟩
  rw [<-dP] at cU
  simp only [<-dP]
  have hB:Hid ((w.alloc (dL (im v))).heap.size≤B):=by show (w.alloc (dL (im v))).heap.size≤B;rw [dP,World.size_alloc];exact Nat.le_refl _
  clear dP b1
  replace cU:=ab cU
  go_wp2_with fail
  refine hK.out _ _ (HT.out _ mj.out) (fun eL=>?_)
  try simp only [aS,aN,aT,a0,a1]
  iterate 3 (refine tn rfl rfl rfl (by kernel_rfl) (fun _ _ _ h=>h) (by rfl) (by intro _ h;(try dsimp only at h);go_split_ands;go_simp<;>with_reducible rfl) eL ?_;try simp only [aS,aN,aT,a0,a1])
  refine bJ (i:=19) (by kernel_rfl) rfl fun K hK=>?_
  have y0:V.cell? ⟨B,0,none⟩=some (int i64 0):=(aa cU.out).trans rfl
  have y1:V.cell? ⟨B,1,none⟩=some (int i64 0):=(aa cU.out).trans rfl
  have y2:V.cell? ⟨B,2,none⟩=some (int i64 0):=(aa cU.out).trans rfl
  have y3:V.cell? ⟨B,3,none⟩=some (int i64 0):=(aa cU.out).trans rfl
  have fz:=ay cU.out
  have Kk:=ab eL
  clear eL
  go_simp
  have ra:=ab (jN mj.out hB.out (int i64 y.fr) (int i64 y.til) (int i64 y.pc) (int i64 y.cls))
  have CW:=ab (hJ cU.out (int i64 y.fr) (int i64 y.til) (int i64 y.pc) (int i64 y.cls))
  clear y0 y1 y2 y3 fz
  refine hK.out _ _ (HT.out _ ra.out) (fun fw=>?_)
  try simp only [aS,aN,aT,a0,a1]
  refine tn rfl rfl rfl (by kernel_rfl) (fun _ _ _ h=>h) (by rfl) (by intro _ h;(try dsimp only at h);go_split_ands;go_simp<;>with_reducible rfl) fw ?_
  try simp only [aS,aN,aT,a0,a1]
  refine wpAnyH_done (by kernel_rfl) ?_ _
  go_wp2
  go_ret
  exact ⟨rfl,HH.out.bl (cD.out.trans fw.1.out)⟩
theorem xA (H:RX s X wx w0 g w h qs a c) (hv:1≤v.kind/\v.kind≤3) (hs:c.stk.length≤1000) (hr:(aP (c.stk++[v]):Int)≤c.m.stack) :
  Calls Tryz.prog 97 #[.pointer (some ⟨a.q,0,none⟩),cn (im v)] w fun e w'=>e=.returned (.tuple #[])/\RX s X wx w0 g w' h qs a (c.put v) :=
 (cN s X wx w0 g h qs a c v w H hv hs).mono fun e w' ⟨he,H'⟩=>⟨by rw [he,if_pos hr],H'⟩
theorem Az (H:RX s X wx w0 g w h qs a c) (hv:1≤v.kind/\v.kind≤3) (hs:c.stk.length≤1000) (hr:¬(aP (c.stk++[v]):Int)≤c.m.stack) :
  Calls Tryz.prog 97 #[.pointer (some ⟨a.q,0,none⟩),cn (im v)] w fun e w'=>e=aV 6 0 0/\RS s X wx w0 g w' h qs a c :=
 (cN s X wx w0 g h qs a c v w H hv hs).mono fun e w' ⟨he,H'⟩=>⟨by rw [he,if_neg hr],c.put v,rfl,⟨rfl,rfl⟩,H'⟩
theorem CX (H:RX s X wx w0 g w h qs a c) (F:Fix w0 g h) (hf:h.objs.length≤100) (hv:v.kind=3) (h0:0≤v.n) (hn:v.n<h.objs.length) (ht:h.thrown=v.n) (hok:∀q,q<c.m.hands.length->0≤(nth eB c.m.hands q).fr/\(nth eB c.m.hands q).til≤1000/\0≤(nth eB c.m.hands q).til/\0≤(nth eB c.m.hands q).pc) (oU:0≤c.pc/\c.pc≤1000) (hcl:0≤h.caughtL c.pc c.m.hands) (hr:(aP [v]:Int)≤c.m.stack) :
  Calls Tryz.prog 43 #[.pointer (some ⟨a.q,0,none⟩),cn (im v)] w fun e w'=>e=.returned (.bool true)/\RX s X wx w0 g w' h qs a { c with stk:=[v],pc:=h.caughtL c.pc c.m.hands }:=by
 have HH:=ab H
 have cD:Hid (Bl w (w.alloc (dL (im v)))):=(Bl.refl w).alloc _
 have LG:Hid (∀w',Bl w w'->Calls Tryz.prog 98 #[.pointer (some ⟨g.hb,0,none⟩),.slice a.K c.m.hands.length a.k,int i64 c.pc,cn (im v)] w' fun e w2=>QF h c.pc c.m.hands w' e w2):=fun w' hb=>by
  have H':=H.bl hb
  obtain ⟨vc,vo,vx,vs,l,HA⟩:=H'
  exact lA g h v c.m.hands a.K a.k c.pc w' (HA.rh.rd F hf) (HA.ca.me.2.2.1.bl HA.rh.bl) hv h0 hn ht hok oU
 obtain ⟨k0,k9,Gq⟩:=H.c0910
 have HT:Hid (∀w',Bl (w.alloc (dL (im v))) w'->(fun w'=>Hid (Bl (w.alloc (dL (im v))) w')/\w'.cell? ⟨a.q,0,none⟩=some (.pointer (some ⟨g.hb,0,none⟩))/\w'.cell? ⟨a.q,9,none⟩=some (.slice a.K c.m.hands.length a.k)/\w'.cell? ⟨a.q,10,none⟩=some (int i64 c.pc)/\w'.cell? ⟨w.heap.size,0,none⟩=some (int i64 (im v).kind)/\w'.cell? ⟨w.heap.size,1,none⟩=some (int i64 (im v).n)) w'):=fun w' hb=>by
  have dA:=cD.out.trans hb
  exact ⟨hb,dA.cell k0,dA.cell k9,dA.cell Gq,hb.cell (ak rfl),hb.cell (ak rfl)⟩
 have nY:=ab hcl
 have HZ:Hid (((w.alloc (dL (im v))).alloc yy).heap[w.heap.size+1]?=some (.cells #[int i64 0,int i64 0,int i64 0,int i64 0] 106 (0,0))):=by
  have:=aD (w.alloc (dL (im v))) #[int i64 0,int i64 0,int i64 0,int i64 0] 106
  rwa [World.size_alloc] at this
 have hq:=H.qlt
 have E2:=ab hr
 have Nl:Hid (1≤v.kind/\v.kind≤3):=by show 1≤v.kind/\v.kind≤3;omega
 clear H F hf hv h0 hn ht hok oU hcl k0 k9 Gq hr
 go_enter Tryz.func43,Tryz.ntmps43
 go_wp2
 refine wp_region_held_drew (S:=fun w'=>Hid (Bl (w.alloc (dL (im v))) w')/\w'.cell? ⟨a.q,0,none⟩=some (.pointer (some ⟨g.hb,0,none⟩))/\w'.cell? ⟨a.q,9,none⟩=some (.slice a.K c.m.hands.length a.k)/\w'.cell? ⟨a.q,10,none⟩=some (int i64 c.pc)/\w'.cell? ⟨w.heap.size,0,none⟩=some (int i64 (im v).kind)/\w'.cell? ⟨w.heap.size,1,none⟩=some (int i64 (im v).n)) (by kernel_rfl) ?_ (fun ae=>?_)
 ·exact HT.out _ (Bl.refl _).drew
 iterate 14 (refine tn rfl rfl rfl (by kernel_rfl) (fun _ _ _ h=>h) (by rfl) (by intro _ h;(try dsimp only at h);go_split_ands;go_simp<;>with_reducible rfl) ae ?_;try simp only [aS,aN,aT,a0,a1])
 refine wpAnyH_ready (rs:=[14,18]) (by kernel_rfl) (by simp) ?_
 refine AllReadyH.cons rfl (fun K hK=>?_) (AllReadyH.cons rfl (fun K hK=>?_) (AllReadyH.nil))
 ·go_simp
  go_at_call 98
  refine (LG.out _ (cD.out.trans ae.1.out)).mono ?_
  rintro e w1 ⟨b1,x,hx⟩
  have he:∃x:Hd,x.pc=h.caughtL c.pc c.m.hands/\e=.returned (.tuple #[.agg (zX x),.bool true]):=by
   rcases hx with ⟨-,z,z2⟩|⟨z,-⟩
   ·exact ⟨x,z,z2⟩
   ·exact absurd z (by have:=nY.out;omega)
  obtain ⟨y,hy,rfl⟩:=he
  replace hy:=ab hy
  clear hx
  unfold zX
  have hb1:=ab (ae.1.out.trans b1)
  clear b1
  go_wp2_with fail
  refine hK.out _ _ (HT.out _ hb1.out) (fun ah=>?_)
  try simp only [aS,aN,aT,a0,a1]
  iterate 3 (refine tn rfl rfl rfl (by kernel_rfl) (fun _ _ _ h=>h) (by rfl) (by intro _ h;(try dsimp only at h);go_split_ands;go_simp<;>with_reducible rfl) ah ?_;try simp only [aS,aN,aT,a0,a1])
  refine bJ (i:=18) (by kernel_rfl) rfl fun K hK=>?_
  go_simp
  have mj:=ab (hb1.out.alloc yy)
  have cU:(w1.alloc yy).heap[w1.heap.size]?=some (.cells #[int i64 0,int i64 0,int i64 0,int i64 0] 106 (0,0)):=aD _ _ _
  have vN:=hb1.out.size
  obtain ⟨B,dP⟩:∃B,B=w1.heap.size:=⟨_,rfl⟩
  rw [<-dP] at cU vN
  simp only [<-dP]
  have hB:=ab vN
  clear dP vN
  replace cU:=ab cU
  generalize w1.alloc yy=V at *
  refine hK.out _ _ (HT.out _ mj.out) (fun aX=>?_)
  try simp only [aS,aN,aT,a0,a1]
  refine bJ (i:=19) (by kernel_rfl) rfl fun K hK=>?_
  have y0:V.cell? ⟨B,0,none⟩=some (int i64 0):=(aa cU.out).trans rfl
  have y1:V.cell? ⟨B,1,none⟩=some (int i64 0):=(aa cU.out).trans rfl
  have y2:V.cell? ⟨B,2,none⟩=some (int i64 0):=(aa cU.out).trans rfl
  have y3:V.cell? ⟨B,3,none⟩=some (int i64 0):=(aa cU.out).trans rfl
  have fz:=ay cU.out
  have Kk:=ab aX
  clear aX
  go_simp
  have ra:=ab (jN mj.out hB.out (int i64 y.fr) (int i64 y.til) (int i64 y.pc) (int i64 y.cls))
  have CW:=ab (hJ cU.out (int i64 y.fr) (int i64 y.til) (int i64 y.pc) (int i64 y.cls))
  clear y0 y1 y2 y3 fz
  refine hK.out _ _ (HT.out _ ra.out) (fun dg=>?_)
  try simp only [aS,aN,aT,a0,a1]
  refine tn rfl rfl rfl (by kernel_rfl) (fun _ _ _ h=>h) (by rfl) (by intro _ h;(try dsimp only at h);go_split_ands;go_simp<;>with_reducible rfl) dg ?_
  try simp only [aS,aN,aT,a0,a1]
  refine wpAnyH_done (by kernel_rfl) ?_ _
  obtain ⟨W4,re⟩:∃W4,W4=(((V.setCell ⟨B,0,none⟩ (int i64 y.fr)).setCell ⟨B,1,none⟩ (int i64 y.til)).setCell ⟨B,2,none⟩ (int i64 y.pc)).setCell ⟨B,3,none⟩ (int i64 y.cls):=⟨_,rfl⟩
  have hbw:Bl w W4:=by rw [re];exact cD.out.trans ra.out
  have mS:W4.heap[B]?=some (.cells #[int i64 y.fr,int i64 y.til,int i64 y.pc,int i64 y.cls] 106 (0,0)):=by rw [re];exact CW.out
  have rf:W4.heap[w.heap.size]?=some (.cells #[int i64 (im v).kind,int i64 (im v).n] 98 (0,0)):=ai (by rw [re];exact ra.out) (aD w _ _)
  have Km:Hid (w.heap.size≤B):=Nat.le_trans cD.out.size hB.out
  rw [<-re]
  clear re dg ra CW Kk mj cU
  clear V
  have HY:=HH.out.y.bl hbw
  obtain ⟨vs,c12,fz⟩:=HY.c12
  have Nn:=ab HY.clrs
  have e0:=aK rf
  have e1:=aI rf
  have Gy:=af mS
  have Gz:=af rf
  have GA:B≠a.q:=by have:=Km.out;omega
  have Np:w.heap.size≠a.q:=by omega
  have PQ:=ab mS
  have Te:=ab rf
  have ou:=ab Gy
  have Tf:=ab Gz
  clear HY mS rf Gy Gz hbw
  go_wp2_with fail
  go_at_call 97
  refine (Nn.out.useY (Bl.refl _) (fun X wx w H=>xA s X wx w0 g h qs a { c with stk:=[] } v w H Nl.out (Nat.zero_le _) E2.out)).mono ?_
  rintro e w6 ⟨rfl,H6,K6⟩
  have q6:=K6.at (Xp.old (Xp.new Km.out ou.out)) ((aA GA _).trans PQ.out)
  have p2:w6.cell? ⟨B,2,none⟩=some (int i64 y.pc):=(aa q6).trans rfl
  have Nq:=H6.x
  obtain ⟨Io,xY,-⟩:=Nq.c10
  have wV:=ab (Nq.setpc y.pc)
  clear H6 K6 q6 Nq
  go_wp2
  go_ret
  have ox:=wV.out
  rw [hy.out] at ox ⊢
  exact ⟨rfl,ox⟩
 ·go_simp
  refine hK.out _ _ (HT.out _ (ae.1.out.alloc _)) (fun dk=>?_)
  try simp only [aS,aN,aT,a0,a1]
  refine bJ (i:=14) (by kernel_rfl) rfl fun K hK=>?_
  go_simp
  go_at_call 98
  refine (LG.out _ (cD.out.trans dk.1.out)).mono ?_
  rintro e V ⟨b1,x,hx⟩
  have he:∃x:Hd,x.pc=h.caughtL c.pc c.m.hands/\e=.returned (.tuple #[.agg (zX x),.bool true]):=by
   rcases hx with ⟨-,z,z2⟩|⟨z,-⟩
   ·exact ⟨x,z,z2⟩
   ·exact absurd z (by have:=nY.out;omega)
  obtain ⟨y,hy,rfl⟩:=he
  replace hy:=ab hy
  clear hx
  unfold zX
  have mj:=ab (dk.1.out.trans b1)
  have cU:V.heap[w.heap.size+1]?=some (.cells #[int i64 0,int i64 0,int i64 0,int i64 0] 106 (0,0)):=ai b1 (show _=_ from HZ.out)
  obtain ⟨B,dP⟩:∃B,B=w.heap.size+1:=⟨_,rfl⟩
  rw [<-dP] at cU
  simp only [<-dP]
  have hB:Hid ((w.alloc (dL (im v))).heap.size≤B):=by show (w.alloc (dL (im v))).heap.size≤B;rw [dP,World.size_alloc];exact Nat.le_refl _
  clear dP b1
  replace cU:=ab cU
  go_wp2_with fail
  refine hK.out _ _ (HT.out _ mj.out) (fun eL=>?_)
  try simp only [aS,aN,aT,a0,a1]
  iterate 3 (refine tn rfl rfl rfl (by kernel_rfl) (fun _ _ _ h=>h) (by rfl) (by intro _ h;(try dsimp only at h);go_split_ands;go_simp<;>with_reducible rfl) eL ?_;try simp only [aS,aN,aT,a0,a1])
  refine bJ (i:=19) (by kernel_rfl) rfl fun K hK=>?_
  have y0:V.cell? ⟨B,0,none⟩=some (int i64 0):=(aa cU.out).trans rfl
  have y1:V.cell? ⟨B,1,none⟩=some (int i64 0):=(aa cU.out).trans rfl
  have y2:V.cell? ⟨B,2,none⟩=some (int i64 0):=(aa cU.out).trans rfl
  have y3:V.cell? ⟨B,3,none⟩=some (int i64 0):=(aa cU.out).trans rfl
  have fz:=ay cU.out
  have Kk:=ab eL
  clear eL
  go_simp
  have ra:=ab (jN mj.out hB.out (int i64 y.fr) (int i64 y.til) (int i64 y.pc) (int i64 y.cls))
  have CW:=ab (hJ cU.out (int i64 y.fr) (int i64 y.til) (int i64 y.pc) (int i64 y.cls))
  clear y0 y1 y2 y3 fz
  refine hK.out _ _ (HT.out _ ra.out) (fun fw=>?_)
  try simp only [aS,aN,aT,a0,a1]
  refine tn rfl rfl rfl (by kernel_rfl) (fun _ _ _ h=>h) (by rfl) (by intro _ h;(try dsimp only at h);go_split_ands;go_simp<;>with_reducible rfl) fw ?_
  try simp only [aS,aN,aT,a0,a1]
  refine wpAnyH_done (by kernel_rfl) ?_ _
  obtain ⟨W4,re⟩:∃W4,W4=(((V.setCell ⟨B,0,none⟩ (int i64 y.fr)).setCell ⟨B,1,none⟩ (int i64 y.til)).setCell ⟨B,2,none⟩ (int i64 y.pc)).setCell ⟨B,3,none⟩ (int i64 y.cls):=⟨_,rfl⟩
  have hbw:Bl w W4:=by rw [re];exact cD.out.trans ra.out
  have mS:W4.heap[B]?=some (.cells #[int i64 y.fr,int i64 y.til,int i64 y.pc,int i64 y.cls] 106 (0,0)):=by rw [re];exact CW.out
  have rf:W4.heap[w.heap.size]?=some (.cells #[int i64 (im v).kind,int i64 (im v).n] 98 (0,0)):=ai (by rw [re];exact ra.out) (aD w _ _)
  have Km:Hid (w.heap.size≤B):=Nat.le_trans cD.out.size hB.out
  rw [<-re]
  clear re fw ra CW Kk mj cU
  clear V
  have HY:=HH.out.y.bl hbw
  obtain ⟨vs,c12,fz⟩:=HY.c12
  have Nn:=ab HY.clrs
  have e0:=aK rf
  have e1:=aI rf
  have Gy:=af mS
  have Gz:=af rf
  have GA:B≠a.q:=by have:=Km.out;omega
  have Np:w.heap.size≠a.q:=by omega
  have PQ:=ab mS
  have Te:=ab rf
  have ou:=ab Gy
  have Tf:=ab Gz
  clear HY mS rf Gy Gz hbw
  go_wp2_with fail
  go_at_call 97
  refine (Nn.out.useY (Bl.refl _) (fun X wx w H=>xA s X wx w0 g h qs a { c with stk:=[] } v w H Nl.out (Nat.zero_le _) E2.out)).mono ?_
  rintro e w6 ⟨rfl,H6,K6⟩
  have q6:=K6.at (Xp.old (Xp.new Km.out ou.out)) ((aA GA _).trans PQ.out)
  have p2:w6.cell? ⟨B,2,none⟩=some (int i64 y.pc):=(aa q6).trans rfl
  have Nq:=H6.x
  obtain ⟨Io,xY,-⟩:=Nq.c10
  have wV:=ab (Nq.setpc y.pc)
  clear H6 K6 q6 Nq
  go_wp2
  go_ret
  have ox:=wV.out
  rw [hy.out] at ox ⊢
  exact ⟨rfl,ox⟩
theorem ze (H:RX s X wx w0 g w h qs a c) (F:Fix w0 g h) (hf:h.objs.length≤100) (hv:v.kind=3) (h0:0≤v.n) (hn:v.n<h.objs.length) (ht:h.thrown=v.n) (hok:∀q,q<c.m.hands.length->0≤(nth eB c.m.hands q).fr/\(nth eB c.m.hands q).til≤1000/\0≤(nth eB c.m.hands q).til/\0≤(nth eB c.m.hands q).pc) (oU:0≤c.pc/\c.pc≤1000) (hcl:0≤h.caughtL c.pc c.m.hands) (hr:¬(aP [v]:Int)≤c.m.stack) :
  Calls Tryz.prog 43 #[.pointer (some ⟨a.q,0,none⟩),cn (im v)] w fun e w'=>e=aV 6 0 0/\RS s X wx w0 g w' h qs a c:=by
 have HH:=ab H
 have cD:Hid (Bl w (w.alloc (dL (im v)))):=(Bl.refl w).alloc _
 have LG:Hid (∀w',Bl w w'->Calls Tryz.prog 98 #[.pointer (some ⟨g.hb,0,none⟩),.slice a.K c.m.hands.length a.k,int i64 c.pc,cn (im v)] w' fun e w2=>QF h c.pc c.m.hands w' e w2):=fun w' hb=>by
  have H':=H.bl hb
  obtain ⟨vc,vo,vx,vs,l,HA⟩:=H'
  exact lA g h v c.m.hands a.K a.k c.pc w' (HA.rh.rd F hf) (HA.ca.me.2.2.1.bl HA.rh.bl) hv h0 hn ht hok oU
 obtain ⟨k0,k9,Gq⟩:=H.c0910
 have HT:Hid (∀w',Bl (w.alloc (dL (im v))) w'->(fun w'=>Hid (Bl (w.alloc (dL (im v))) w')/\w'.cell? ⟨a.q,0,none⟩=some (.pointer (some ⟨g.hb,0,none⟩))/\w'.cell? ⟨a.q,9,none⟩=some (.slice a.K c.m.hands.length a.k)/\w'.cell? ⟨a.q,10,none⟩=some (int i64 c.pc)/\w'.cell? ⟨w.heap.size,0,none⟩=some (int i64 (im v).kind)/\w'.cell? ⟨w.heap.size,1,none⟩=some (int i64 (im v).n)) w'):=fun w' hb=>by
  have dA:=cD.out.trans hb
  exact ⟨hb,dA.cell k0,dA.cell k9,dA.cell Gq,hb.cell (ak rfl),hb.cell (ak rfl)⟩
 have nY:=ab hcl
 have HZ:Hid (((w.alloc (dL (im v))).alloc yy).heap[w.heap.size+1]?=some (.cells #[int i64 0,int i64 0,int i64 0,int i64 0] 106 (0,0))):=by
  have:=aD (w.alloc (dL (im v))) #[int i64 0,int i64 0,int i64 0,int i64 0] 106
  rwa [World.size_alloc] at this
 have hq:=H.qlt
 have E2:=ab hr
 have Nl:Hid (1≤v.kind/\v.kind≤3):=by show 1≤v.kind/\v.kind≤3;omega
 clear H F hf hv h0 hn ht hok oU hcl k0 k9 Gq hr
 go_enter Tryz.func43,Tryz.ntmps43
 go_wp2
 refine wp_region_held_drew (S:=fun w'=>Hid (Bl (w.alloc (dL (im v))) w')/\w'.cell? ⟨a.q,0,none⟩=some (.pointer (some ⟨g.hb,0,none⟩))/\w'.cell? ⟨a.q,9,none⟩=some (.slice a.K c.m.hands.length a.k)/\w'.cell? ⟨a.q,10,none⟩=some (int i64 c.pc)/\w'.cell? ⟨w.heap.size,0,none⟩=some (int i64 (im v).kind)/\w'.cell? ⟨w.heap.size,1,none⟩=some (int i64 (im v).n)) (by kernel_rfl) ?_ (fun ae=>?_)
 ·exact HT.out _ (Bl.refl _).drew
 iterate 14 (refine tn rfl rfl rfl (by kernel_rfl) (fun _ _ _ h=>h) (by rfl) (by intro _ h;(try dsimp only at h);go_split_ands;go_simp<;>with_reducible rfl) ae ?_;try simp only [aS,aN,aT,a0,a1])
 refine wpAnyH_ready (rs:=[14,18]) (by kernel_rfl) (by simp) ?_
 refine AllReadyH.cons rfl (fun K hK=>?_) (AllReadyH.cons rfl (fun K hK=>?_) (AllReadyH.nil))
 ·go_simp
  go_at_call 98
  refine (LG.out _ (cD.out.trans ae.1.out)).mono ?_
  rintro e w1 ⟨b1,x,hx⟩
  have he:∃x:Hd,x.pc=h.caughtL c.pc c.m.hands/\e=.returned (.tuple #[.agg (zX x),.bool true]):=by
   rcases hx with ⟨-,z,z2⟩|⟨z,-⟩
   ·exact ⟨x,z,z2⟩
   ·exact absurd z (by have:=nY.out;omega)
  obtain ⟨y,hy,rfl⟩:=he
  replace hy:=ab hy
  clear hx
  unfold zX
  have hb1:=ab (ae.1.out.trans b1)
  clear b1
  go_wp2_with fail
  refine hK.out _ _ (HT.out _ hb1.out) (fun ah=>?_)
  try simp only [aS,aN,aT,a0,a1]
  iterate 3 (refine tn rfl rfl rfl (by kernel_rfl) (fun _ _ _ h=>h) (by rfl) (by intro _ h;(try dsimp only at h);go_split_ands;go_simp<;>with_reducible rfl) ah ?_;try simp only [aS,aN,aT,a0,a1])
  refine bJ (i:=18) (by kernel_rfl) rfl fun K hK=>?_
  go_simp
  have mj:=ab (hb1.out.alloc yy)
  have cU:(w1.alloc yy).heap[w1.heap.size]?=some (.cells #[int i64 0,int i64 0,int i64 0,int i64 0] 106 (0,0)):=aD _ _ _
  have vN:=hb1.out.size
  obtain ⟨B,dP⟩:∃B,B=w1.heap.size:=⟨_,rfl⟩
  rw [<-dP] at cU vN
  simp only [<-dP]
  have hB:=ab vN
  clear dP vN
  replace cU:=ab cU
  generalize w1.alloc yy=V at *
  refine hK.out _ _ (HT.out _ mj.out) (fun aX=>?_)
  try simp only [aS,aN,aT,a0,a1]
  refine bJ (i:=19) (by kernel_rfl) rfl fun K hK=>?_
  have y0:V.cell? ⟨B,0,none⟩=some (int i64 0):=(aa cU.out).trans rfl
  have y1:V.cell? ⟨B,1,none⟩=some (int i64 0):=(aa cU.out).trans rfl
  have y2:V.cell? ⟨B,2,none⟩=some (int i64 0):=(aa cU.out).trans rfl
  have y3:V.cell? ⟨B,3,none⟩=some (int i64 0):=(aa cU.out).trans rfl
  have fz:=ay cU.out
  have Kk:=ab aX
  clear aX
  go_simp
  have ra:=ab (jN mj.out hB.out (int i64 y.fr) (int i64 y.til) (int i64 y.pc) (int i64 y.cls))
  have CW:=ab (hJ cU.out (int i64 y.fr) (int i64 y.til) (int i64 y.pc) (int i64 y.cls))
  clear y0 y1 y2 y3 fz
  refine hK.out _ _ (HT.out _ ra.out) (fun dg=>?_)
  try simp only [aS,aN,aT,a0,a1]
  refine tn rfl rfl rfl (by kernel_rfl) (fun _ _ _ h=>h) (by rfl) (by intro _ h;(try dsimp only at h);go_split_ands;go_simp<;>with_reducible rfl) dg ?_
  try simp only [aS,aN,aT,a0,a1]
  refine wpAnyH_done (by kernel_rfl) ?_ _
  obtain ⟨W4,re⟩:∃W4,W4=(((V.setCell ⟨B,0,none⟩ (int i64 y.fr)).setCell ⟨B,1,none⟩ (int i64 y.til)).setCell ⟨B,2,none⟩ (int i64 y.pc)).setCell ⟨B,3,none⟩ (int i64 y.cls):=⟨_,rfl⟩
  have hbw:Bl w W4:=by rw [re];exact cD.out.trans ra.out
  have mS:W4.heap[B]?=some (.cells #[int i64 y.fr,int i64 y.til,int i64 y.pc,int i64 y.cls] 106 (0,0)):=by rw [re];exact CW.out
  have rf:W4.heap[w.heap.size]?=some (.cells #[int i64 (im v).kind,int i64 (im v).n] 98 (0,0)):=ai (by rw [re];exact ra.out) (aD w _ _)
  have Km:Hid (w.heap.size≤B):=Nat.le_trans cD.out.size hB.out
  rw [<-re]
  clear re dg ra CW Kk mj cU
  clear V
  have HY:=HH.out.y.bl hbw
  obtain ⟨vs,c12,fz⟩:=HY.c12
  have Nn:=ab HY.clrs
  have e0:=aK rf
  have e1:=aI rf
  have Gy:=af mS
  have Gz:=af rf
  have GA:B≠a.q:=by have:=Km.out;omega
  have Np:w.heap.size≠a.q:=by omega
  have PQ:=ab mS
  have Te:=ab rf
  have ou:=ab Gy
  have Tf:=ab Gz
  clear HY mS rf Gy Gz hbw
  go_wp2_with fail
  go_at_call 97
  refine (Nn.out.useN (Bl.refl _) (fun X wx w H=>Az s X wx w0 g h qs a { c with stk:=[] } v w H Nl.out (Nat.zero_le _) (by have:=E2.out;show ¬(aP [v]:Int)≤c.m.stack;omega))).mono ?_
  rintro e w6 ⟨rfl,H6⟩
  exact ⟨rfl,rfl,H6.of rfl ⟨rfl,rfl⟩⟩
 ·go_simp
  refine hK.out _ _ (HT.out _ (ae.1.out.alloc _)) (fun dk=>?_)
  try simp only [aS,aN,aT,a0,a1]
  refine bJ (i:=14) (by kernel_rfl) rfl fun K hK=>?_
  go_simp
  go_at_call 98
  refine (LG.out _ (cD.out.trans dk.1.out)).mono ?_
  rintro e V ⟨b1,x,hx⟩
  have he:∃x:Hd,x.pc=h.caughtL c.pc c.m.hands/\e=.returned (.tuple #[.agg (zX x),.bool true]):=by
   rcases hx with ⟨-,z,z2⟩|⟨z,-⟩
   ·exact ⟨x,z,z2⟩
   ·exact absurd z (by have:=nY.out;omega)
  obtain ⟨y,hy,rfl⟩:=he
  replace hy:=ab hy
  clear hx
  unfold zX
  have mj:=ab (dk.1.out.trans b1)
  have cU:V.heap[w.heap.size+1]?=some (.cells #[int i64 0,int i64 0,int i64 0,int i64 0] 106 (0,0)):=ai b1 (show _=_ from HZ.out)
  obtain ⟨B,dP⟩:∃B,B=w.heap.size+1:=⟨_,rfl⟩
  rw [<-dP] at cU
  simp only [<-dP]
  have hB:Hid ((w.alloc (dL (im v))).heap.size≤B):=by show (w.alloc (dL (im v))).heap.size≤B;rw [dP,World.size_alloc];exact Nat.le_refl _
  clear dP b1
  replace cU:=ab cU
  go_wp2_with fail
  refine hK.out _ _ (HT.out _ mj.out) (fun eL=>?_)
  try simp only [aS,aN,aT,a0,a1]
  iterate 3 (refine tn rfl rfl rfl (by kernel_rfl) (fun _ _ _ h=>h) (by rfl) (by intro _ h;(try dsimp only at h);go_split_ands;go_simp<;>with_reducible rfl) eL ?_;try simp only [aS,aN,aT,a0,a1])
  refine bJ (i:=19) (by kernel_rfl) rfl fun K hK=>?_
  have y0:V.cell? ⟨B,0,none⟩=some (int i64 0):=(aa cU.out).trans rfl
  have y1:V.cell? ⟨B,1,none⟩=some (int i64 0):=(aa cU.out).trans rfl
  have y2:V.cell? ⟨B,2,none⟩=some (int i64 0):=(aa cU.out).trans rfl
  have y3:V.cell? ⟨B,3,none⟩=some (int i64 0):=(aa cU.out).trans rfl
  have fz:=ay cU.out
  have Kk:=ab eL
  clear eL
  go_simp
  have ra:=ab (jN mj.out hB.out (int i64 y.fr) (int i64 y.til) (int i64 y.pc) (int i64 y.cls))
  have CW:=ab (hJ cU.out (int i64 y.fr) (int i64 y.til) (int i64 y.pc) (int i64 y.cls))
  clear y0 y1 y2 y3 fz
  refine hK.out _ _ (HT.out _ ra.out) (fun fw=>?_)
  try simp only [aS,aN,aT,a0,a1]
  refine tn rfl rfl rfl (by kernel_rfl) (fun _ _ _ h=>h) (by rfl) (by intro _ h;(try dsimp only at h);go_split_ands;go_simp<;>with_reducible rfl) fw ?_
  try simp only [aS,aN,aT,a0,a1]
  refine wpAnyH_done (by kernel_rfl) ?_ _
  obtain ⟨W4,re⟩:∃W4,W4=(((V.setCell ⟨B,0,none⟩ (int i64 y.fr)).setCell ⟨B,1,none⟩ (int i64 y.til)).setCell ⟨B,2,none⟩ (int i64 y.pc)).setCell ⟨B,3,none⟩ (int i64 y.cls):=⟨_,rfl⟩
  have hbw:Bl w W4:=by rw [re];exact cD.out.trans ra.out
  have mS:W4.heap[B]?=some (.cells #[int i64 y.fr,int i64 y.til,int i64 y.pc,int i64 y.cls] 106 (0,0)):=by rw [re];exact CW.out
  have rf:W4.heap[w.heap.size]?=some (.cells #[int i64 (im v).kind,int i64 (im v).n] 98 (0,0)):=ai (by rw [re];exact ra.out) (aD w _ _)
  have Km:Hid (w.heap.size≤B):=Nat.le_trans cD.out.size hB.out
  rw [<-re]
  clear re fw ra CW Kk mj cU
  clear V
  have HY:=HH.out.y.bl hbw
  obtain ⟨vs,c12,fz⟩:=HY.c12
  have Nn:=ab HY.clrs
  have e0:=aK rf
  have e1:=aI rf
  have Gy:=af mS
  have Gz:=af rf
  have GA:B≠a.q:=by have:=Km.out;omega
  have Np:w.heap.size≠a.q:=by omega
  have PQ:=ab mS
  have Te:=ab rf
  have ou:=ab Gy
  have Tf:=ab Gz
  clear HY mS rf Gy Gz hbw
  go_wp2_with fail
  go_at_call 97
  refine (Nn.out.useN (Bl.refl _) (fun X wx w H=>Az s X wx w0 g h qs a { c with stk:=[] } v w H Nl.out (Nat.zero_le _) (by have:=E2.out;show ¬(aP [v]:Int)≤c.m.stack;omega))).mono ?_
  rintro e w6 ⟨rfl,H6⟩
  exact ⟨rfl,rfl,H6.of rfl ⟨rfl,rfl⟩⟩
end
def eW (l:List Va) (fk:Nat):List Va->List Va
 | []=>l
 | v::k=>eW (jD l fk v) (fk+aP [v]) k
theorem ri:∀(l:List Va) (l0:List Va) (fk:Nat) (v:Va),eW l0 fk (l++[v])=jD (eW l0 fk l) (fk+aP l) v
 | [],l0,fk,v=>by simp [eW,aP]
 | x::l,l0,fk,v=>by
  show eW (jD l0 fk x) (fk+aP [x]) (l++[v])=jD (eW (jD l0 fk x) (fk+aP [x]) l) (fk+aP (x::l)) v
  rw [ri l,kF,Nat.add_assoc]
  rfl
theorem nU:∀(l:List Va) (l0:List Va) (fk:Nat),(eW l0 fk l).length=l0.length
 | [],l0,fk=>rfl
 | x::l,l0,fk=>by
  show (eW (jD l0 fk x) (fk+aP [x]) l).length=_
  rw [nU l,vK]
theorem CY {l:List Va} {k:Nat} (h:k<l.length):l.take (k+1)=l.take k++[nth ag l k]:=by
 rw [List.take_add_one,bP h];simp [List.getElem?_eq_getElem h]
theorem GB:∀(l:List Va),aP (l.map im)=aP l
 | []=>rfl
 | x::l=>by show (if (im x).kind=2 then 2 else 1)+aP (l.map im)=_;rw [GB l,zA];rfl
theorem xB:∀(vs:List Va) (l k:List Va) (fk:Nat),mG l k->(∀v∈vs,1≤v.kind/\v.kind≤3)->fk+aP vs≤l.length->mG (dS l fk vs) (eW k fk (vs.map im))
 | [],l,k,fk,h,_,_=>h
 | v::vs,l,k,fk,h,hk,hs=>by
  have es:aP (v::vs)=(if v.kind=2 then 2 else 1)+aP vs:=rfl
  have hv:=hk v (List.mem_cons_self ..)
  show mG (dS (eu l fk v) (fk+aP [v]) vs) (eW (jD k fk (im v)) (fk+aP [im v]) (vs.map im))
  have e1:aP [im v]=aP [v]:=by rw [kF,kF,zA]
  rw [e1]
  refine xB vs _ _ _ (h.sto (by rw [es] at hs;split at hs<;>omega) v hv (fun e=>by rw [es,if_pos e] at hs;omega)) (fun x hx=>hk x (List.mem_cons_of_mem _ hx)) ?_
  rw [kA,kF]
  rw [es] at hs
  omega
theorem Nr (lb lc n N:Nat) (l:List Va) (v:Va) (w:World) (B:cZ w lb l) (hN:l.length=N) (hn:n<N) (hl:N≤1000) (h2:v.kind=2->n+1<N) :
  Calls Tryz.prog 86 #[.slice (some ⟨lb,0,none⟩) N lc,int i64 (n:Int),cn v] w fun e w'=>e=.returned (.tuple #[])/\cZ w' lb (jD l n v)/\w.grownBy w' (some lb):=by
 subst hN
 by_cases hk:v.kind=2
 ·unfold jD;rw [if_pos hk];exact qm lb lc n l v w B (h2 hk) hl hk
 ·unfold jD;rw [if_neg hk];exact se lb lc n l v w B hn hl hk
theorem tR (N:Nat) (us:List Va) (b cap:Nat) (w:World) (B:cZ w b us) (hN:N≤1000) (mT:aP us≤N) (hk:∀v∈us,1≤v.kind/\v.kind≤3) :
  Calls Tryz.prog 40 #[int i64 (N:Int),.slice (some ⟨b,0,none⟩) us.length cap] w fun e w'=>e=.returned (.slice (some ⟨w.heap.size,0,none⟩) N N)/\cZ w' w.heap.size (eW (List.replicate N ag) 0 us)/\Bl w w':=by
 have hlen:us.length≤N:=by have:=zE us;omega
 have KY:=IQ N (by omega)
 have HB:=ab B
 have HK:=ab hk
 have Tg:=ab mT
 have HS:Hid (Bl w (w.alloc (.cells (aL (List.replicate N ag)).toArray 98))/\cZ (w.alloc (.cells (aL (List.replicate N ag)).toArray 98)) w.heap.size (eW (List.replicate N ag) 0 (us.take 0))) :=
  ⟨(Bl.refl w).alloc _,cZ.new w _⟩
 clear B hk mT
 go_enter Tryz.func40,Tryz.ntmps40
 go_wp2
 go_loopw [6,13] (fun fk i wr=>∃j:Nat,j≤us.length/\i=int i64 j/\fk=int i64 ((aP (us.take j):Nat):Int)/\Hid (Bl w wr/\cZ wr w.heap.size (eW (List.replicate N ag) 0 (us.take j)))) (fun _ i _=>us.length-(intOf i).toNat)
 case atStart=>exact ⟨0,Nat.zero_le _,rfl,by simp [aP],HS.out⟩
 case round =>
  clear HS KY
  obtain ⟨j,hj,rfl,rfl,HR⟩:=hrel
  by_cases NZ:j<us.length
  ·have hB:=HB.out.bl HR.out.1
   have x0:=hB.c0 NZ
   have x1:=hB.c1 NZ
   have Ti:=CY NZ
   have hv:=HK.out _ (bE (d:=ag) NZ)
   generalize hV:nth ag us j=v at *
   have hsz:aP (us.take (j+1))=aP (us.take j)+(if v.kind=2 then 2 else 1):=by rw [Ti,jI,kF]
   have hle:aP (us.take (j+1))≤N:=Nat.le_trans (jJ us _) Tg.out
   have hwd:jo v.kind=(if v.kind=2 then 2 else 1:Nat):=by unfold jo;rw [if_neg (by omega)];split<;>rfl
   have Ta:=ab hsz
   have hlt:aP (us.take j)<N:=by split at hsz<;>omega
   have h2:v.kind=2->aP (us.take j)+1<N:=fun e=>by rw [if_pos e] at hsz;omega
   have Tj:=ab Ti
   have HV:=ab hv
   have H2:=ab h2
   obtain ⟨S,hS⟩:∃S,aP (us.take j)=S:=⟨_,rfl⟩
   have Vh:=ab hS
   obtain ⟨W,hW⟩:∃W,jo v.kind=W:=⟨_,rfl⟩
   have HW:=ab (hW.symm.trans hwd)
   have Zq:0≤W/\W≤2:=by rw [<-hW];exact lG _
   rw [hS]
   rw [hS] at hlt
   clear hB hsz hle hwd h2 Ti hv hV
   have bn:=aD wr #[int i64 v.kind,int i64 v.n] 98
   have OT:=ab bn
   have X3:Hid (w.heap.size<wr.heap.size):=af HR.out.2.blk
   clear bn hS
   go_wp2_with (first
    | (go_at_call 86;refine (Nr w.heap.size N S N (eW (List.replicate N ag) 0 (us.take j)) v _ (HR.out.2.bl ((Bl.refl wr).alloc _)) (by rw [nU];simp) hlt hN (by rw [<-Vh.out];exact H2.out)).mono ?_;rintro e w1 ⟨rfl,L1,G1⟩;have y0:=aK (aZ G1 OT.out (fun e=>by have:=X3.out;have:=Option.some.inj e;omega));have L1:=ab L1;have G1:=ab G1)
    | (go_at_call 87;refine (l9 _ _).mono ?_;rintro e w2 ⟨he,eK⟩;rw [hW] at he;subst he;rw [eK];clear eK w2))
   go_roundw
   case rel =>
    have hS:=Vh.out
    have hsz:=Ta.out
    have KN:=HW.out
    refine ⟨j+1,by omega,by go_num,?_,?_,?_⟩
    ·rw [hsz,hS,KN];simp
    ·refine Below.grown (HR.out.1.trans ((Bl.refl wr).alloc _)) G1.out ?_ (fun k hk=>?_)
     ·exact (HR.out.1.trans ((Bl.refl wr).alloc _)).size
     ·cases hk;exact Nat.le_refl _
    ·rw [Tj.out,ri,Nat.zero_add,hS];exact L1.out
   case measure=>simp [intOf];omega
  ·obtain rfl:j=us.length:=by omega
   go_wp2
   go_ret
   have:=HR.out.2
   rw [List.take_length] at this
   exact ⟨rfl,this,HR.out.1⟩
section
variable {w:World} {base:Nat} {e:TypeId}
theorem oC {vs:Value} {l:List Nat} {v:Nat} (h:w.ownsRow base e 3 vs (l.length+1) (cj (l++[v]))):∃gb cap,vs=.slice (some ⟨gb,0,none⟩) (l.length+1) cap/\l.length+1≤cap/\cap≤maxLen/\gb<w.heap.size
  /\ w.cell? ⟨gb,l.length*3,none⟩=some (.func (.func 41) #[.pointer (some ⟨v,0,none⟩)] #[])/\w.cell? ⟨gb,l.length*3+1,none⟩=some (.func (.func 42) #[.pointer (some ⟨v,0,none⟩)] #[])/\w.cell? ⟨gb,l.length*3+2,none⟩=some (.func (.func 43) #[.pointer (some ⟨v,0,none⟩)] #[]):=by
 rcases h.2 with ⟨_,h0⟩|⟨gb,cap,cur,rfl,hg,hh,hn,mH,hsz,nH⟩
 ·omega
 ·have hl:=gN l
  have hx:∀i,i<3->(cj (l++[v]))[l.length*3+i]?=(fE v)[i]?:=by
   intro i hi
   rw [gO,List.getElem?_append_right (by omega),hl]
   simp [cj]
  have hy:∀i,i<3->w.cell? ⟨gb,l.length*3+i,none⟩=(fE v)[i]?:=by
   intro i hi
   rw [<-hx i hi,<-nH,List.getElem?_take,if_pos (by omega),aa hh]
   simp
  exact ⟨gb,cap,rfl,hn,mH,af hh,hy 0 (by decide),hy 1 (by decide),hy 2 (by decide)⟩
theorem GC {gb cap:Nat} {l:List Nat} {v:Nat} (h:w.ownsRow base e 3 (.slice (some ⟨gb,0,none⟩) (l.length+1) cap) (l.length+1) (cj (l++[v]))) :
  w.ownsRow base e 3 (.slice (some ⟨gb,0,none⟩) l.length cap) l.length (cj l):=by
 obtain ⟨h1,h2⟩:=h
 rcases h2 with ⟨h0,_⟩|⟨g',cap',cur,hv,hg,hh,hn,mH,hsz,nH⟩
 ·cases h0
 ·cases hv
  refine ⟨gN l,.inr ⟨gb,cap,cur,rfl,hg,hh,by omega,mH,hsz,?_⟩⟩
  have h3:(cur.toList.take ((l.length+1)*3)).take (l.length*3)=(cj (l++[v])).take (l.length*3):=by rw [nH]
  rw [List.take_take,Nat.min_eq_left (by omega)] at h3
  rw [h3,gO,<-gN l]
  simp
end
theorem HX.setc {s:Nat} {X:Nat->Prop} {wx w0:World} {g:Mg} {h:Hp} {qs vq:List Nat} {vc vo vx rH:Value} (R:RH s w0 g w h qs vc vo vx) (hf:∀b,X b->lq g vc vo vx b) (hK:iL X wx w) (ho:w.ownsRow w0.heap.size 83 3 rH vq.length (cj vq)) (hb:rH.ownBlock=vc.ownBlock):HX s X wx w0 g (w.setCell ⟨g.r,3,none⟩ rH) h vq:=by
 have hg:=cQ (w:=w) g.r 3 rH
 obtain ⟨n,D,F⟩:=R.fld
 have Hg:g.r≠g.mp:=iy R.run F.own
 have hne:∀v:Value,v.ownBlock≠some g.r->(v.ownBlock=none∨v.ownBlock≠some g.r):=fun v hv=>Or.inr hv
 refine ⟨rH,vo,vx,⟨R.ownr,R.ownh,R.ownm,Below.grown R.bl hg R.bl.size (fun k hk=>by cases hk;exact R.ownr),?_,?_,?_,?_,?_,n,D,?_,F.few,F.hit,F.miss,F.new,F.ks,F.kd⟩,fun b hx=>?_,hK.kept hg (fun b e hx=>?_)⟩
 ·rw [ax R.run];rfl
 ·exact aZ hg R.hp (fun e=>dN R.run R.hp (by decide) (Option.some.inj e))
 ·exact R.out.kept hg (Or.inr (ba R.out R.run (by decide)))
 ·exact R.obs.kept hg (Or.inr (ba R.obs R.run (by decide)))
 ·exact ho.kept hg (Or.inr (ba ho R.run (by decide)))
 ·exact F.own.kept hg (fun e=>Hg (Option.some.inj e.symm))
 ·have:=hf b hx
  exact ⟨this.r,this.h,this.m,by rw [hb];exact this.c,this.o,this.x⟩
 ·cases e;exact (hf g.r hx).r rfl
theorem nV (s:Nat) (X:Nat->Prop) (wx w0:World) (g:Mg) (h:Hp) (qs:List Nat) (q:Nat) (w:World) (H:HX s X wx w0 g w h (qs++[q])) :
  Calls Tryz.prog 157 #[.pointer (some ⟨g.r,0,none⟩)] w fun e w'=>e=.returned (.tuple #[])/\HX s X wx w0 g w' h qs:=by
 obtain ⟨vc,vo,vx,R,hf,hK⟩:=H
 have hk:=R.calls
 have e1:(qs++[q]).length=qs.length+1:=by simp
 rw [e1] at hk
 obtain ⟨gb,cap,rfl,h1,h2,h3,h4,h5,h6⟩:=oC hk
 have HP:=ab (GC hk)
 have hr:w.cell? ⟨g.r,3,none⟩=some (.slice (some ⟨gb,0,none⟩) (qs.length+1) cap):=by rw [aa R.run];rfl
 have fz:∀i,w.frozen? ⟨g.r,i,none⟩=false:=ay R.run
 have HE:Hid (HX s X wx w0 g (w.setCell ⟨g.r,3,none⟩ (.slice (some ⟨gb,0,none⟩) qs.length cap)) h qs):=HX.setc R hf hK HP.out rfl
 clear hk R hf hK h4 h5 h6 e1
 unfold maxLen at h2
 have kb:((qs.length:Int)+1-1)=(qs.length:Int):=by omega
 have hw:IntKind.i64.wrap (qs.length:Int)=(qs.length:Int):=by rw [IntKind.wrap_i64];omega
 go_enter Tryz.func157,Tryz.ntmps157
 go_wp2
 go_region
 all_goals go_wp2
 all_goals go_end0
 all_goals exact ⟨rfl,HE.out.bl (Bl.refl _).drew⟩
theorem sQ:(Tryz.prog.info? 83).map (·.size)=some 3:=by kernel_rfl
theorem kO (s:Nat) (X:Nat->Prop) (wx w0:World) (g:Mg) (h:Hp) (qs:List Nat) (q:Nat) (w:World) (H:HX s X wx w0 g w h (qs++[q])) :
  Calls Tryz.prog 158 #[.pointer (some ⟨g.r,0,none⟩)] w fun e w'=>e=.returned (.agg (fE q).toArray)/\Bl w w':=by
 obtain ⟨vc,vo,vx,R,hf,hK⟩:=H
 have hk:=R.calls
 have e1:(qs++[q]).length=qs.length+1:=by simp
 rw [e1] at hk
 obtain ⟨gb,cap,rfl,h1,h2,h3,h4,h5,h6⟩:=oC hk
 have hr:w.cell? ⟨g.r,3,none⟩=some (.slice (some ⟨gb,0,none⟩) (qs.length+1) cap):=by rw [aa R.run];rfl
 have NW:=af R.run
 clear hk R hf hK e1
 unfold maxLen at h2
 have kb:((qs.length:Int)+1-1)=(qs.length:Int):=by omega
 have hw:IntKind.i64.wrap (qs.length:Int)=(qs.length:Int):=by rw [IntKind.wrap_i64];omega
 go_enter Tryz.func158,Tryz.ntmps158
 go_wp2
 have iM:Hid (Bl w (w.alloc (.cells #[.nilFunc,.nilFunc,.nilFunc] 83))):=(Bl.refl w).alloc _
 have q0:=aD w #[.nilFunc,.nilFunc,.nilFunc] 83
 have k3:=iM.out.cell hr
 have k4:=iM.out.cell h4
 have k5:=iM.out.cell h5
 have k6:=iM.out.cell h6
 obtain ⟨B,dP⟩:∃B,B=w.heap.size:=⟨_,rfl⟩
 rw [<-dP] at q0
 simp only [<-dP]
 have hB:Hid (w.heap.size≤B):=Nat.le_of_eq dP.symm
 have hne:B≠g.r:=by omega
 have BG:B≠gb:=by omega
 have hlt:(qs.length:Int)<(qs.length:Int)+1:=by omega
 have m3:=ab hr
 have m4:=ab h4
 have m5:=ab h5
 have m6:=ab h6
 clear dP
 generalize w.alloc (.cells #[.nilFunc,.nilFunc,.nilFunc] 83)=V at *
 have v0:V.cell? ⟨B,0,none⟩=some .nilFunc:=by rw [aa q0];rfl
 have v1:V.cell? ⟨B,1,none⟩=some .nilFunc:=by rw [aa q0];rfl
 have v2:V.cell? ⟨B,2,none⟩=some .nilFunc:=by rw [aa q0];rfl
 have fz:=ay q0
 replace q0:=ab q0
 clear hr h4 h5 h6
 refine wp_region_held_drew (S:=fun w'=>w'.cell? ⟨g.r,3,none⟩=some (.slice (some ⟨gb,0,none⟩) (qs.length+1) cap)/\w'.cell? ⟨gb,qs.length*3,none⟩=some (.func (.func 41) #[.pointer (some ⟨q,0,none⟩)] #[])/\w'.cell? ⟨gb,qs.length*3+1,none⟩=some (.func (.func 42) #[.pointer (some ⟨q,0,none⟩)] #[])/\w'.cell? ⟨gb,qs.length*3+2,none⟩=some (.func (.func 43) #[.pointer (some ⟨q,0,none⟩)] #[])) (by kernel_rfl) ?_ (fun ae=>?_)
 ·exact ⟨k3,k4,k5,k6⟩
 refine tk (i:=0) (d:=some 3) rfl rfl (by kernel_rfl) (fun _ _ _ h=>h) (by rfl) (by intro _ h;(try dsimp only at h);go_split_ands;go_simp<;>with_reducible rfl) ae ?_
 try simp only [aS,aN,aT,a0,a1]
 refine tk (i:=1) (d:=some 4) rfl rfl (by kernel_rfl) (fun _ _ _ h=>h) (by rfl) (by intro _ h;(try dsimp only at h);go_split_ands;go_simp<;>with_reducible rfl) ae ?_
 try simp only [aS,aN,aT,a0,a1]
 refine tk (i:=2) (d:=some 5) rfl rfl (by kernel_rfl) (fun _ _ _ h=>h) (by rfl) (by intro _ h;(try dsimp only at h);go_split_ands;go_simp<;>with_reducible rfl) ae ?_
 try simp only [aS,aN,aT,a0,a1]
 refine tk (i:=3) (d:=some 6) rfl rfl (by kernel_rfl) (fun _ _ _ h=>h) (by rfl) (by intro _ h;(try dsimp only at h);go_split_ands;go_simp<;>with_reducible rfl) ae ?_
 try simp only [aS,aN,aT,a0,a1]
 refine tk (i:=4) (d:=some 7) rfl rfl (by kernel_rfl) (fun _ _ _ h=>h) (by rfl) (by intro _ h;(try dsimp only at h);go_split_ands;go_simp<;>with_reducible rfl) ae ?_
 try simp only [aS,aN,aT,a0,a1]
 refine tk (i:=5) (d:=some 8) rfl rfl (by kernel_rfl) (fun _ _ _ h=>h) (by rfl) (by intro _ h;(try dsimp only at h);go_split_ands;go_simp<;>with_reducible rfl) ae ?_
 try simp only [aS,aN,aT,a0,a1]
 refine tk (i:=6) (d:=some 9) rfl rfl (by kernel_rfl) (fun _ _ _ h=>h) (by rfl) (by intro _ h;(try dsimp only at h);go_split_ands;go_simp<;>with_reducible rfl) ae ?_
 try simp only [aS,aN,aT,a0,a1]
 refine tk (i:=7) (d:=some 10) rfl rfl (by kernel_rfl) (fun _ _ _ h=>h) (by rfl) (by intro _ h;(try dsimp only at h);go_split_ands;go_simp<;>with_reducible rfl) ae ?_
 try simp only [aS,aN,aT,a0,a1]
 refine tk (i:=8) (d:=some 11) rfl rfl (by kernel_rfl) (fun _ _ _ h=>h) (by rfl) (by intro _ h;(try dsimp only at h);go_split_ands;go_simp<;>with_reducible rfl) ae ?_
 try simp only [aS,aN,aT,a0,a1]
 refine tk (i:=9) (d:=some 12) rfl rfl (by kernel_rfl) (fun _ _ _ h=>h) (by rfl) (by intro _ h;(try dsimp only at h);go_split_ands;go_simp<;>with_reducible rfl) ae ?_
 try simp only [aS,aN,aT,a0,a1]
 refine tk (i:=10) (d:=some 13) rfl rfl (by kernel_rfl) (fun _ _ _ h=>h) (by rfl) (by intro _ h;(try dsimp only at h);go_split_ands;go_simp<;>with_reducible rfl) ae ?_
 try simp only [aS,aN,aT,a0,a1]
 refine tk (i:=11) (d:=some 14) rfl rfl (by kernel_rfl) (fun _ _ _ h=>h) (by rfl) (by intro _ h;(try dsimp only at h);go_split_ands;go_simp<;>with_reducible rfl) ae ?_
 try simp only [aS,aN,aT,a0,a1]
 refine bJ (i:=12) (by kernel_rfl) rfl fun K hK=>?_
 go_wp2_with fail
 have FE:Bl w (((V.setCell ⟨B,0,none⟩ (.func (.func 41) #[.pointer (some ⟨q,0,none⟩)] #[])).setCell ⟨B,1,none⟩ (.func (.func 42) #[.pointer (some ⟨q,0,none⟩)] #[])).setCell ⟨B,2,none⟩ (.func (.func 43) #[.pointer (some ⟨q,0,none⟩)] #[])):=((iM.out.setCell (p:=⟨B,0,none⟩) hB.out _).setCell (p:=⟨B,1,none⟩) hB.out _).setCell (p:=⟨B,2,none⟩) hB.out _
 have q3:(((V.setCell ⟨B,0,none⟩ (.func (.func 41) #[.pointer (some ⟨q,0,none⟩)] #[])).setCell ⟨B,1,none⟩ (.func (.func 42) #[.pointer (some ⟨q,0,none⟩)] #[])).setCell ⟨B,2,none⟩ (.func (.func 43) #[.pointer (some ⟨q,0,none⟩)] #[])).heap[B]?=some (.cells (fE q).toArray 83 (0,0)):=by rw [ax (ax (ax q0.out _) _) _];rfl
 refine hK.out _ _ ⟨FE.cell m3.out,FE.cell m4.out,FE.cell m5.out,FE.cell m6.out⟩ (fun ah=>?_)
 try simp only [aS,aN,aT,a0,a1]
 refine wpAnyH_done (by kernel_rfl) ?_ _
 replace FE:=ab FE
 replace q3:=ab q3
 go_wp2
 refine bodyPost_ret (results_cell_row rfl _ _ B _ _ _ _ rfl q3.out Tryz.underlying83 rfl sQ) rfl ?_
 exact ⟨rfl,FE.out.drew⟩
theorem tS (k:Int) (N:Nat) (Ka:k=(N:Int)) (us:List Va) (b cap:Nat) (w:World) (B:cZ w b us) (hN:N≤1000) (mT:aP us≤N) (hk:∀v∈us,1≤v.kind/\v.kind≤3) :
  Calls Tryz.prog 40 #[int i64 k,.slice (some ⟨b,0,none⟩) us.length cap] w fun e w'=>e=.returned (.slice (some ⟨w.heap.size,0,none⟩) N N)/\cZ w' w.heap.size (eW (List.replicate N ag) 0 us)/\Bl w w':=by
 subst Ka;exact tR N us b cap w B hN mT hk
theorem pb:∀(l:List Va) (l0:List Va) (fk:Nat),(dS l0 fk l).length=l0.length
 | [],l0,fk=>rfl
 | x::l,l0,fk=>by
  show (dS (eu l0 fk x) (fk+aP [x]) l).length=_
  rw [pb l,kA]
def newRow (g:Mg) (m:Me) (P C J:Option Addr) (p c k lb N:Nat):Array Value :=
 #[.pointer (some ⟨g.hb,0,none⟩),.pointer (some ⟨g.r,0,none⟩),.slice P m.params.length p,int i64 m.ret.kind,int i64 m.ret.cls,int i64 m.stack,int i64 m.locs,int i64 m.regs,.slice C m.code.length c,.slice J m.hands.length k,int i64 0,.slice (some ⟨lb,0,none⟩) N N,.slice none 0 0]
structure AB (g:Mg) (m:Me) (P C J:Option Addr) (p c k N:Nat) (us:List Va) (w:World) (q:Nat) (w':World):Prop where
 bl:Bl w w'
 own:w.heap.size≤q
 blk:w'.heap[q]?=some (.cells (newRow g m P C J p c k (w.heap.size+1+1) N) 92 (0,0))
 loc:cZ w' (w.heap.size+1+1) (eW (List.replicate N ag) 0 us)
def GD (g:Mg) (m:Me) (P C J:Option Addr) (p c k N:Nat) (us:List Va) (w:World) (e:Ending) (w':World):Prop:=∃q,e=.returned (.agg (fE q).toArray)/\AB g m P C J p c k N us w q w'
theorem CZ (g:Mg) (m:Me) (P C J:Option Addr) (p c k N b cap:Nat) (us:List Va) (w:World) (h0:w.cell? ⟨g.r,0,none⟩=some (.pointer (some ⟨g.hb,0,none⟩))) (Ka:m.locs=(N:Int)) (B:cZ w b us) (hN:N≤1000) (mT:aP us≤N) (hk:∀v∈us,1≤v.kind/\v.kind≤3) :
  Calls Tryz.prog 17 #[.pointer (some ⟨g.r,0,none⟩),iU m P C J p c k,.slice (some ⟨b,0,none⟩) us.length cap] w fun e w'=>GD g m P C J p c k N us w e w':=by
 have Sw:Hid (∀w',Bl w w'->Calls Tryz.prog 40 #[int i64 m.locs,.slice (some ⟨b,0,none⟩) us.length cap] w' fun e w2=>e=.returned (.slice (some ⟨w'.heap.size,0,none⟩) N N)/\cZ w2 w'.heap.size (eW (List.replicate N ag) 0 us)/\Bl w' w2) :=
  fun w' hb=>tS m.locs N Ka us b cap w' (B.bl hb) hN mT hk
 have Ip:∀(fn:Fn) (first cap:Array Value) (w:World),(Instr.makeFunc fn first cap).run Tryz.prog w=.ok (.func fn first cap) w:=fun _ _ _ _=>rfl
 have NW:=bt h0
 have cD:Hid (Bl w ((w.alloc (nZ m P C J p c k)).alloc (.cells #[.nilFunc,.nilFunc,.nilFunc] 83))):=((Bl.refl w).alloc _).alloc _
 have q0:((w.alloc (nZ m P C J p c k)).alloc (.cells #[.nilFunc,.nilFunc,.nilFunc] 83)).heap[w.heap.size+1]?=some (.cells #[.nilFunc,.nilFunc,.nilFunc] 83 (0,0)):=by
  have:=aD (w.alloc (nZ m P C J p c k)) #[.nilFunc,.nilFunc,.nilFunc] 83
  rwa [World.size_alloc] at this
 have Q0:=ab q0
 have HT:Hid (∀w',Bl ((w.alloc (nZ m P C J p c k)).alloc (.cells #[.nilFunc,.nilFunc,.nilFunc] 83)) w'->(fun w'=>Hid (Bl ((w.alloc (nZ m P C J p c k)).alloc (.cells #[.nilFunc,.nilFunc,.nilFunc] 83)) w')/\w'.cell? ⟨g.r,0,none⟩=some (.pointer (some ⟨g.hb,0,none⟩))/\w'.cell? ⟨w.heap.size,0,none⟩=some (.slice P m.params.length p)/\w'.cell? ⟨w.heap.size,1,none⟩=some (int i64 m.ret.kind)/\w'.cell? ⟨w.heap.size,2,none⟩=some (int i64 m.ret.cls)/\w'.cell? ⟨w.heap.size,3,none⟩=some (int i64 m.stack)/\w'.cell? ⟨w.heap.size,4,none⟩=some (int i64 m.locs)/\w'.cell? ⟨w.heap.size,5,none⟩=some (int i64 m.regs)/\w'.cell? ⟨w.heap.size,6,none⟩=some (.slice C m.code.length c)/\w'.cell? ⟨w.heap.size,7,none⟩=some (.slice J m.hands.length k)) w'):=fun w' hb=>by
  have dA:Bl (w.alloc (nZ m P C J p c k)) w':=((Bl.refl _).alloc _).trans hb
  exact ⟨hb,hb.cell (cD.out.cell h0),dA.cell (ak rfl),dA.cell (ak rfl),dA.cell (ak rfl),dA.cell (ak rfl),dA.cell (ak rfl),dA.cell (ak rfl),dA.cell (ak rfl),dA.cell (ak rfl)⟩
 clear B hk mT h0 Ka q0
 go_enter Tryz.func17,Tryz.ntmps17
 go_wp2
 refine wp_region_held_drew (S:=fun w'=>Hid (Bl ((w.alloc (nZ m P C J p c k)).alloc (.cells #[.nilFunc,.nilFunc,.nilFunc] 83)) w')/\w'.cell? ⟨g.r,0,none⟩=some (.pointer (some ⟨g.hb,0,none⟩))/\w'.cell? ⟨w.heap.size,0,none⟩=some (.slice P m.params.length p)/\w'.cell? ⟨w.heap.size,1,none⟩=some (int i64 m.ret.kind)/\w'.cell? ⟨w.heap.size,2,none⟩=some (int i64 m.ret.cls)/\w'.cell? ⟨w.heap.size,3,none⟩=some (int i64 m.stack)/\w'.cell? ⟨w.heap.size,4,none⟩=some (int i64 m.locs)/\w'.cell? ⟨w.heap.size,5,none⟩=some (int i64 m.regs)/\w'.cell? ⟨w.heap.size,6,none⟩=some (.slice C m.code.length c)/\w'.cell? ⟨w.heap.size,7,none⟩=some (.slice J m.hands.length k)) (by kernel_rfl) ?_ (fun ae=>?_)
 ·exact HT.out _ (Bl.refl _).drew
 iterate 9 (refine tn rfl rfl rfl (by kernel_rfl) (fun _ _ _ h=>h) (by rfl) (by intro _ h;(try dsimp only at h);go_split_ands;go_simp<;>with_reducible rfl) ae ?_;try simp only [aS,aN,aT,a0,a1])
 refine bJ (i:=9) (by kernel_rfl) rfl fun K hK=>?_
 go_simp
 go_at_call 40
 refine (Sw.out _ (cD.out.trans ae.1.out)).mono ?_
 rintro e w1 ⟨rfl,L1,b1⟩
 have LA:=ab L1
 have hb1:=ab b1
 clear L1
 go_wp2_with fail
 refine hK.out _ _ (HT.out _ (ae.1.out.trans b1)) (fun ah=>?_)
 try simp only [aS,aN,aT,a0,a1]
 refine tn rfl rfl rfl (by kernel_rfl) (fun _ _ _ h=>h) (by rfl) (by intro _ h;(try dsimp only at h);go_split_ands;go_simp<;>with_reducible rfl) ah ?_
 try simp only [aS,aN,aT,a0,a1]
 refine bJ (i:=11) (by kernel_rfl) rfl fun K hK=>?_
 go_wp2_with fail
 refine hK.out _ _ (HT.out _ (ah.1.out.alloc _)) (fun aX=>?_)
 try simp only [aS,aN,aT,a0,a1]
 refine tn rfl rfl rfl (by kernel_rfl) (fun _ _ _ h=>h) (by rfl) (by intro _ h;(try dsimp only at h);go_split_ands;go_simp<;>with_reducible rfl) aX ?_
 try simp only [aS,aN,aT,a0,a1]
 refine wpAnyH_done (by kernel_rfl) ?_ _
 obtain ⟨V,hV⟩:∃V,V=w1.alloc (.cells (newRow g m P C J p c k (w.heap.size+1+1) N) 92):=⟨_,rfl⟩
 have Dq:=ah.1.out
 have QZ:Bl w1 V:=by rw [hV];exact (Bl.refl w1).alloc _
 have Ns:((w.alloc (nZ m P C J p c k)).alloc (.cells #[.nilFunc,.nilFunc,.nilFunc] 83)).drew.heap.size=w.heap.size+1+1:=by simp
 have l8:Hid (cZ V (w.heap.size+1+1) (eW (List.replicate N ag) 0 us)):=by have:=LA.out.bl QZ;rwa [Ns] at this
 have X4:Hid (Bl w V):=(cD.out.trans Dq).trans QZ
 have Vi:Hid (V.heap[w1.heap.size]?=some (.cells (newRow g m P C J p c k (w.heap.size+1+1) N) 92 (0,0))):=by rw [hV];exact aD _ _ _
 have q1:V.heap[w.heap.size+1]?=some (.cells #[.nilFunc,.nilFunc,.nilFunc] 83 (0,0)):=ai (Dq.trans QZ) Q0.out
 have fZ:Hid (w.heap.size+1+1≤w1.heap.size):=by rw [<-Ns];exact hb1.out.size
 unfold newRow at hV
 rw [<-hV]
 clear hV QZ Ns Dq
 clear ae ah aX
 obtain ⟨qq,Nt⟩:∃qq,qq=w1.heap.size:=⟨_,rfl⟩
 rw [<-Nt] at Vi fZ
 simp only [<-Nt]
 clear Nt
 have v0:V.cell? ⟨w.heap.size+1,0,none⟩=some .nilFunc:=by rw [aa q1];rfl
 have v1:V.cell? ⟨w.heap.size+1,1,none⟩=some .nilFunc:=by rw [aa q1];rfl
 have v2:V.cell? ⟨w.heap.size+1,2,none⟩=some .nilFunc:=by rw [aa q1];rfl
 have fz:=ay q1
 replace q1:=ab q1
 go_wp2
 have q3:(((V.setCell ⟨w.heap.size+1,0,none⟩ (.func (.func 41) #[.pointer (some ⟨qq,0,none⟩)] #[])).setCell ⟨w.heap.size+1,1,none⟩ (.func (.func 42) #[.pointer (some ⟨qq,0,none⟩)] #[])).setCell ⟨w.heap.size+1,2,none⟩ (.func (.func 43) #[.pointer (some ⟨qq,0,none⟩)] #[])).heap[w.heap.size+1]?=some (.cells (fE qq).toArray 83 (0,0)):=by rw [ax (ax (ax q1.out _) _)];rfl
 refine bodyPost_ret (results_cell_row rfl _ _ (w.heap.size+1) _ _ _ _ rfl q3 Tryz.underlying83 rfl sQ) rfl ?_
 have Zr:=fZ.out
 refine ⟨qq,rfl,((X4.out.setCell (p:=⟨w.heap.size+1,0,none⟩) (Nat.le_succ _) _).setCell (p:=⟨w.heap.size+1,1,none⟩) (Nat.le_succ _) _).setCell (p:=⟨w.heap.size+1,2,none⟩) (Nat.le_succ _) _,by omega,?_,⟨?_⟩⟩
 ·rw [aA (by omega),aA (by omega),aA (by omega)];exact Vi.out
 ·rw [aA (by omega),aA (by omega),aA (by omega)];exact l8.out.blk
end Go.Proofs.YtimjmdfokicbkaaGreat
