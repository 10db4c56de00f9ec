import Derived.Test.YtimjmdfokicbkaaGreatSrao
import Derived.Test.YtimjmdfokicbkaaGreatSraq
import Derived.Test.YtimjmdfokicbkaaGreatSrax
namespace Go.Proofs.YtimjmdfokicbkaaGreat
set_option linter.unusedVariables false
set_option linter.unusedSimpArgs false
set_option maxHeartbeats 40000000
set_option maxRecDepth 100000
open Go.RowKit
open Go.Value (int)
open Go.IntKind (i64)
theorem KC (ts:List Ty) (args:List Int) (hl:args.length=ts.length):lz ts args ts.length=dy ts args:=by
 apply List.ext_getElem
 ·rw [du,iQ ts args hl.symm]
 ·intro i h1 h2
  rw [du] at h1
  rw [<-bP (d:=ag) (by rw [du];exact h1),<-bP (d:=ag) h2,ve h1,sH ts args i h1 hl.symm]
  rfl
theorem oH (f:Fi) (entry fuel:Int) (args input:List Int):lO true f.methods entry fuel args.length input.length=gS f entry args input fuel:=by
 unfold lO gS
 rw [if_neg (by decide)]
 by_cases h1:¬(0≤entry/\entry<(f.methods.length:Int))∨¬(0≤fuel/\fuel≤60000)
 ·have vB:¬(0≤entry/\entry≤(f.methods.length:Int)-1)∨¬(0≤fuel/\fuel≤60000):=by omega
  rw [if_pos h1,if_pos vB]
 ·have vB:¬(¬(0≤entry/\entry≤(f.methods.length:Int)-1)∨¬(0≤fuel/\fuel≤60000)):=by omega
  rw [if_neg h1,if_neg vB]
  by_cases h2:1000<input.length
  ·rw [if_pos h2,if_pos h2]
  ·rw [if_neg h2,if_neg h2]
   have e:mg (nth bM f.methods entry.toNat).params=gR (nth bM f.methods entry.toNat).params:=rfl
   rw [e]
   generalize gR (nth bM f.methods entry.toNat).params=q
   generalize (nth bM f.methods entry.toNat).params.length=n
   by_cases h3:args.length=n
   ·cases q<;>simp [h3]
   ·cases q<;>simp [h3]
theorem KE (h:Hp) (v:Va):wm h v=(h.doneH v).sh:=by
 unfold wm Hp.doneH
 split
 ·rfl
 ·split
  ·rfl
  ·split<;>rfl
theorem G4 (f:Fi) (n:Nat) (fuel:Int) (args input:List Int) (hmay:bV f=true) (hE:lO true f.methods (n:Int) fuel args.length input.length=0) :
  ob (runM fuel.toNat (gK f input fuel) [bT (nth bM f.methods n) (lz (nth bM f.methods n).params args (nth bM f.methods n).params.length)])=qN f (n:Int) args input fuel:=by
 obtain ⟨-,e2,e3,e4,e5,e6⟩:=vf hE
 rw [Int.toNat_natCast] at e5 e6
 have hn:n<f.methods.length:=by omega
 obtain ⟨m1,m2,m3⟩:=vg hmay
 have hr:=rq (jh (m3 _ (bE (d:=bM) hn))).2.2.2.2.2.2.2.2.2.2
 have hB:(fH f input fuel).enterB (nth bM f.methods n) (lz (nth bM f.methods n).params args (nth bM f.methods n).params.length)=true:=by
  unfold Hp.enterB
  rw [oG (pJ e5)]
  rfl
 have hd:=ID fuel.toNat (fH f input fuel) (nth bM f.methods n) (lz (nth bM f.methods n).params args (nth bM f.methods n).params.length) rfl (by unfold cq;show fuel-0≤_;omega) ⟨rfl,rfl⟩ hB hr
 have e:gK f input fuel={ fH f input fuel with calls:=(fH f input fuel).calls+1 }:=rfl
 rw [e,hd,KE]
 unfold qN jn
 rw [Int.toNat_natCast,<-KC _ _ e6]
theorem xR (w:World) (A:Option Addr):nE w A []:=⟨Nat.zero_le _,Or.inl rfl⟩
theorem rA (w:World):Calls Tryz.prog 9 #[.agg #[int i64 0,int i64 0,int i64 0,.slice none 0 0,int i64 0,int i64 0],.agg #[int i64 0,int i64 0,int i64 0,.slice none 0 0,int i64 0,int i64 0]] w fun e w'=>e=.returned (.bool true)/\Bl w w' :=
 qh 0 0 0 0 0 none none 0 0 [] w (xR w none) (xR w none)
section
variable (f:Fi) (A B R I:Option Addr) (a b r i:Nat) (entry fuel:Int) (args input:List Int) (w:World)
theorem KF (hf:¬(3000<fuel/\fuel≤60000)) (hS:∀w',Bl w w'->Calls Tryz.prog 7 #[fV f.classes.length f.methods.length A B a b,int i64 entry,.slice R args.length r,.slice I input.length i,int i64 fuel] w' fun e w2=>e=.returned (.tuple #[.agg #[int i64 0,int i64 0,int i64 0,.slice none 0 0,int i64 0,int i64 0],int i64 2])/\Bl w' w2) (hM:∀w',Bl w w'->Calls Tryz.prog 8 #[fV f.classes.length f.methods.length A B a b] w' fun e w2=>e=.returned (.bool false)/\Bl w' w2) :
  Calls Tryz.prog 3 #[fV f.classes.length f.methods.length A B a b,int i64 entry,.slice R args.length r,.slice I input.length i,int i64 fuel] w fun e w'=>e=.returned (.bool true)/\Bl w w':=by
 have HS:=ab hS
 have HM:=ab hM
 have HW:Hid (∀o,Bl w (w.alloc o)):=fun o=>(Bl.refl w).alloc o
 clear hS hM
 by_cases h1:3000<fuel
 all_goals
  have h2:3000<fuel->¬fuel≤60000:=fun x y=>hf ⟨x,y⟩
  (try have h3:=h2 h1)
  clear hf h2
  go_enter Tryz.func3,Tryz.ntmps3
  go_wp2_with (first
   | (go_at_call 7;refine (HS.out _ (HW.out _)).mono ?_;rintro e w1 ⟨rfl,b1⟩;have ml:=ai b1 (aD w #[.slice A f.classes.length a,.slice B f.methods.length b] 25);have P9:∀o,(w1.alloc o).cell? ⟨w.heap.size,0,none⟩=some (.slice A f.classes.length a):=(fun o=>(aa (ai ((Bl.refl w1).alloc o) ml)).trans rfl);have Qb:∀o,(w1.alloc o).cell? ⟨w.heap.size,1,none⟩=some (.slice B f.methods.length b):=(fun o=>(aa (ai ((Bl.refl w1).alloc o) ml)).trans rfl);have B1:=ab ((HW.out _).trans b1);replace ml:=ab ml;clear b1)
   | (go_at_call 8;refine (HM.out _ (B1.out.alloc _)).mono ?_;rintro e w2 ⟨rfl,b2⟩;have q2:=ai b2 (aD w1 #[int i64 0,int i64 0,int i64 0,.slice none 0 0,int i64 0,int i64 0] 28);have y0:w2.cell? ⟨w1.heap.size,0,none⟩=some (int i64 0):=(aa q2).trans rfl;have y1:w2.cell? ⟨w1.heap.size,1,none⟩=some (int i64 0):=(aa q2).trans rfl;have y2:w2.cell? ⟨w1.heap.size,2,none⟩=some (int i64 0):=(aa q2).trans rfl;have y3:w2.cell? ⟨w1.heap.size,3,none⟩=some (.slice none 0 0):=(aa q2).trans rfl;have y4:w2.cell? ⟨w1.heap.size,4,none⟩=some (int i64 0):=(aa q2).trans rfl;have y5:w2.cell? ⟨w1.heap.size,5,none⟩=some (int i64 0):=(aa q2).trans rfl;have B2:=ab ((B1.out.alloc _).trans b2);clear b2 q2)
   | (go_at_call 9;refine (rA _).mono ?_;rintro e w3 ⟨rfl,b3⟩;have B3:=ab (B2.out.trans b3);clear b3))
  go_ret
  exact ⟨rfl,B3.out⟩
theorem NH (E:Int) (hf:¬(3000<fuel/\fuel≤60000)) (hS:∀w',Bl w w'->Calls Tryz.prog 7 #[fV f.classes.length f.methods.length A B a b,int i64 entry,.slice R args.length r,.slice I input.length i,int i64 fuel] w' fun e w2=>e=.returned (.tuple #[.agg #[int i64 0,int i64 0,int i64 0,.slice none 0 0,int i64 0,int i64 0],int i64 E])/\Bl w' w2) (hM:∀w',Bl w w'->Calls Tryz.prog 8 #[fV f.classes.length f.methods.length A B a b] w' fun e w2=>e=.returned (.bool true)/\Bl w' w2) (hP:∀w',Bl w w'->Calls Tryz.prog 10 #[fV f.classes.length f.methods.length A B a b,int i64 entry,.slice R args.length r,.slice I input.length i,int i64 fuel] w' fun e w2=>e=.returned (.tuple #[.agg #[int i64 0,int i64 0,int i64 0,.slice none 0 0,int i64 0,int i64 0],int i64 E])/\Bl w' w2) :
  Calls Tryz.prog 3 #[fV f.classes.length f.methods.length A B a b,int i64 entry,.slice R args.length r,.slice I input.length i,int i64 fuel] w fun e w'=>e=.returned (.bool true)/\Bl w w':=by
 have HS:=ab hS
 have HM:=ab hM
 have HP:=ab hP
 have HW:Hid (∀o,Bl w (w.alloc o)):=fun o=>(Bl.refl w).alloc o
 clear hS hM hP
 by_cases h1:3000<fuel
 all_goals
  have h2:3000<fuel->¬fuel≤60000:=fun x y=>hf ⟨x,y⟩
  (try have h3:=h2 h1)
  clear hf h2
  go_enter Tryz.func3,Tryz.ntmps3
  go_wp2_with (first
   | (go_at_call 7;refine (HS.out _ (HW.out _)).mono ?_;rintro e w1 ⟨rfl,b1⟩;have ml:=ai b1 (aD w #[.slice A f.classes.length a,.slice B f.methods.length b] 25);have P9:∀o,(w1.alloc o).cell? ⟨w.heap.size,0,none⟩=some (.slice A f.classes.length a):=(fun o=>(aa (ai ((Bl.refl w1).alloc o) ml)).trans rfl);have Qb:∀o,(w1.alloc o).cell? ⟨w.heap.size,1,none⟩=some (.slice B f.methods.length b):=(fun o=>(aa (ai ((Bl.refl w1).alloc o) ml)).trans rfl);have B1:=ab ((HW.out _).trans b1);replace ml:=ab ml;clear b1)
   | (go_at_call 8;refine (HM.out _ (B1.out.alloc _)).mono ?_;rintro e w2 ⟨rfl,b2⟩;have q2:=ai b2 (aD w1 #[int i64 0,int i64 0,int i64 0,.slice none 0 0,int i64 0,int i64 0] 28);have f2:=ai b2 (ai ((Bl.refl w1).alloc _) ml.out);have u0:w2.cell? ⟨w.heap.size,0,none⟩=some (.slice A f.classes.length a):=(aa f2).trans rfl;have u1:w2.cell? ⟨w.heap.size,1,none⟩=some (.slice B f.methods.length b):=(aa f2).trans rfl;have B2:=ab ((B1.out.alloc _).trans b2);have Q2:=ab q2;clear b2 q2 f2)
   | (go_at_call 10;refine (HP.out _ B2.out).mono ?_;rintro e w3 ⟨rfl,b3⟩;have q3:=ai b3 Q2.out;have y0:∀o,(w3.alloc o).cell? ⟨w1.heap.size,0,none⟩=some (int i64 0):=(fun o=>(aa (ai ((Bl.refl w3).alloc o) q3)).trans rfl);have y1:∀o,(w3.alloc o).cell? ⟨w1.heap.size,1,none⟩=some (int i64 0):=(fun o=>(aa (ai ((Bl.refl w3).alloc o) q3)).trans rfl);have y2:∀o,(w3.alloc o).cell? ⟨w1.heap.size,2,none⟩=some (int i64 0):=(fun o=>(aa (ai ((Bl.refl w3).alloc o) q3)).trans rfl);have y3:∀o,(w3.alloc o).cell? ⟨w1.heap.size,3,none⟩=some (.slice none 0 0):=(fun o=>(aa (ai ((Bl.refl w3).alloc o) q3)).trans rfl);have y4:∀o,(w3.alloc o).cell? ⟨w1.heap.size,4,none⟩=some (int i64 0):=(fun o=>(aa (ai ((Bl.refl w3).alloc o) q3)).trans rfl);have y5:∀o,(w3.alloc o).cell? ⟨w1.heap.size,5,none⟩=some (int i64 0):=(fun o=>(aa (ai ((Bl.refl w3).alloc o) q3)).trans rfl);have B3:=ab (B2.out.trans b3);clear b3 q3)
   | (go_at_call 9;refine (rA _).mono ?_;rintro e w4 ⟨rfl,b4⟩;have B4:=ab ((B3.out.alloc _).trans b4);clear b4))
  go_ret
  exact ⟨rfl,B4.out⟩
theorem Qc (s:Sh) (hf:¬(3000<fuel/\fuel≤60000)) (hS:∀w',Bl w w'->Calls Tryz.prog 7 #[fV f.classes.length f.methods.length A B a b,int i64 entry,.slice R args.length r,.slice I input.length i,int i64 fuel] w' fun e w2=>rr w' s e w2) (hM:∀w',Bl w w'->Calls Tryz.prog 8 #[fV f.classes.length f.methods.length A B a b] w' fun e w2=>e=.returned (.bool true)/\Bl w' w2) (hP:∀w',Bl w w'->Calls Tryz.prog 10 #[fV f.classes.length f.methods.length A B a b,int i64 entry,.slice R args.length r,.slice I input.length i,int i64 fuel] w' fun e w2=>rr w' s e w2) :
  Calls Tryz.prog 3 #[fV f.classes.length f.methods.length A B a b,int i64 entry,.slice R args.length r,.slice I input.length i,int i64 fuel] w fun e w'=>e=.returned (.bool true)/\Bl w w':=by
 have HS:=ab hS
 have HM:=ab hM
 have HP:=ab hP
 have HW:Hid (∀o,Bl w (w.alloc o)):=fun o=>(Bl.refl w).alloc o
 clear hS hM hP
 by_cases h1:3000<fuel
 all_goals
  have h2:3000<fuel->¬fuel≤60000:=fun x y=>hf ⟨x,y⟩
  (try have h3:=h2 h1)
  clear hf h2
  go_enter Tryz.func3,Tryz.ntmps3
  go_wp2_with (first
   | (go_at_call 7;refine (HS.out _ (HW.out _)).mono ?_;rintro e w1 ⟨vx,rfl,ow,b1⟩;obtain ⟨X,xc,rfl,rx⟩:=Eg ow;have ml:=ai b1 (aD w #[.slice A f.classes.length a,.slice B f.methods.length b] 25);have P9:∀o,(w1.alloc o).cell? ⟨w.heap.size,0,none⟩=some (.slice A f.classes.length a):=(fun o=>(aa (ai ((Bl.refl w1).alloc o) ml)).trans rfl);have Qb:∀o,(w1.alloc o).cell? ⟨w.heap.size,1,none⟩=some (.slice B f.methods.length b):=(fun o=>(aa (ai ((Bl.refl w1).alloc o) ml)).trans rfl);have B1:=ab ((HW.out _).trans b1);replace ml:=ab ml;have Yo:=ab rx;clear b1 ow rx)
   | (go_at_call 8;refine (HM.out _ (B1.out.alloc _)).mono ?_;rintro e w2 ⟨rfl,b2⟩;have q2:=ai b2 (aD w1 #[int i64 s.fin,int i64 s.value,int i64 s.cls,.slice X s.out.length xc,int i64 s.used,int i64 s.steps] 28);have f2:=ai b2 (ai ((Bl.refl w1).alloc _) ml.out);have u0:w2.cell? ⟨w.heap.size,0,none⟩=some (.slice A f.classes.length a):=(aa f2).trans rfl;have u1:w2.cell? ⟨w.heap.size,1,none⟩=some (.slice B f.methods.length b):=(aa f2).trans rfl;have B2:=ab ((B1.out.alloc _).trans b2);have Yp:=ab (Yo.out.bl (((Bl.refl w1).alloc _).trans b2));have Q2:=ab q2;clear b2 q2 f2)
   | (go_at_call 10;refine (HP.out _ B2.out).mono ?_;rintro e w3 ⟨vy,rfl,oy,b3⟩;obtain ⟨Y,yc,rfl,ry⟩:=Eg oy;have q3:=ai b3 Q2.out;have y0:∀o,(w3.alloc o).cell? ⟨w1.heap.size,0,none⟩=some (int i64 s.fin):=(fun o=>(aa (ai ((Bl.refl w3).alloc o) q3)).trans rfl);have y1:∀o,(w3.alloc o).cell? ⟨w1.heap.size,1,none⟩=some (int i64 s.value):=(fun o=>(aa (ai ((Bl.refl w3).alloc o) q3)).trans rfl);have y2:∀o,(w3.alloc o).cell? ⟨w1.heap.size,2,none⟩=some (int i64 s.cls):=(fun o=>(aa (ai ((Bl.refl w3).alloc o) q3)).trans rfl);have y3:∀o,(w3.alloc o).cell? ⟨w1.heap.size,3,none⟩=some (.slice X s.out.length xc):=(fun o=>(aa (ai ((Bl.refl w3).alloc o) q3)).trans rfl);have y4:∀o,(w3.alloc o).cell? ⟨w1.heap.size,4,none⟩=some (int i64 s.used):=(fun o=>(aa (ai ((Bl.refl w3).alloc o) q3)).trans rfl);have y5:∀o,(w3.alloc o).cell? ⟨w1.heap.size,5,none⟩=some (int i64 s.steps):=(fun o=>(aa (ai ((Bl.refl w3).alloc o) q3)).trans rfl);have B3:=ab (B2.out.trans b3);have Yq:=ab (Yp.out.bl b3);have Yr:=ab ry;clear b3 q3 oy ry)
   | (go_at_call 9;refine (qh s.fin s.value s.cls s.used s.steps X Y xc yc s.out _ (Yq.out.bl ((Bl.refl w3).alloc _)) (Yr.out.bl ((Bl.refl w3).alloc _))).mono ?_;rintro e w4 ⟨rfl,b4⟩;have B4:=ab ((B3.out.alloc _).trans b4);clear b4))
  go_ret
  exact ⟨rfl,B4.out⟩
theorem KG (hA:cg w A f.classes) (hB:eD w B f.methods) (hI:cM w I input) (hR:cM w R args) :
  Calls Tryz.prog 3 #[fV f.classes.length f.methods.length A B a b,int i64 entry,.slice R args.length r,.slice I input.length i,int i64 fuel] w fun e w'=>e=.returned (.bool true)/\Bl w w':=by
 by_cases hf:3000<fuel/\fuel≤60000
 ·obtain ⟨h1,h2⟩:=hf
  have HW:Hid (∀o,Bl w (w.alloc o)):=fun o=>(Bl.refl w).alloc o
  clear hA hB hI hR
  go_enter Tryz.func3,Tryz.ntmps3
  go_wp2
  go_ret
  exact ⟨rfl,HW.out _⟩
 ·have Qd:∀w',Bl w w'->Calls Tryz.prog 16 #[fV f.classes.length f.methods.length A B a b] w' fun e w2=>e=.returned (.bool (bV f))/\Bl w' w2:=fun w' hb=>FR f A B a b w' (hA.bl hb) (hB.bl hb)
  have G5:∀w',Bl w w'->Calls Tryz.prog 8 #[fV f.classes.length f.methods.length A B a b] w' fun e w2=>e=.returned (.bool (bV f))/\Bl w' w2:=fun w' hb=>CG f A B a b w' (hA.bl hb) (hB.bl hb)
  have hbad:lO (bV f) f.methods entry fuel args.length input.length≠0->∀w',Bl w w'->Calls Tryz.prog 7 #[fV f.classes.length f.methods.length A B a b,int i64 entry,.slice R args.length r,.slice I input.length i,int i64 fuel] w' fun e w2=>e=.returned (.tuple #[.agg #[int i64 0,int i64 0,int i64 0,.slice none 0 0,int i64 0,int i64 0],int i64 (lO (bV f) f.methods entry fuel args.length input.length)])/\Bl w' w2:=fun hE w' hb =>
   G3 f A B R I a b r i entry fuel args input w' _ (fun w2 dA=>xP f A B R I a b r i entry fuel args input w2 (hB.bl (hb.trans dA)) hI.1 hR.1 (fun w3 mN=>Qd w3 ((hb.trans dA).trans mN)) hE)
  cases hm:bV f with
  | false =>
   rw [hm] at hbad G5
   exact KF f A B R I a b r i entry fuel args input w hf (hbad (by unfold lO;rw [if_pos rfl];decide)) G5
  | true =>
   rw [hm] at hbad G5
   by_cases hE:lO true f.methods entry fuel args.length input.length=0
   ·obtain ⟨-,e2,-⟩:=vf hE
    obtain ⟨n,rfl⟩:∃n:Nat,entry=n:=⟨entry.toNat,by omega⟩
    refine Qc f A B R I a b r i (n:Int) fuel args input w (qN f (n:Int) args input fuel) hf (fun w' hb=>?_) G5 (fun w' hb=>?_)
    ·refine KB f A B R I a b r i (n:Int) fuel args input w' _ (fun w2 dA=>?_)
     have mN:=hb.trans dA
     have:=zt f A B R I a b r i n fuel args input w2 (hA.bl mN) (hB.bl mN) (hI.bl mN) (hR.bl mN) (fun w3 Ys=>Qd w3 (mN.trans Ys)) (by rw [hm];exact hE)
     rw [G4 f n fuel args input hm hE] at this
     exact this
    ·exact JI f A B I R a b i r (n:Int) fuel args input w' (hA.bl hb) (hB.bl hb) (hI.bl hb) (hR.bl hb) hm (by rw [<-oH];exact hE)
   ·refine NH f A B R I a b r i entry fuel args input w _ hf (hbad hE) G5 (fun w' hb=>?_)
    rw [oH]
    exact FM f A B I R a b i r entry fuel args input w' (hB.bl hb) hI.1 (hR.bl hb) hm (by rw [<-oH];exact hE)
end
end Go.Proofs.YtimjmdfokicbkaaGreat
