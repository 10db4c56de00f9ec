import Derived.Test.YtgiiapenmjollaaGreatRrav
import Derived.Test.YtgiiapenmjollaaGreatRray
import Derived.Test.YtgiiapenmjollaaGreatRrba
namespace Go.Proofs.YtgiiapenmjollaaGreat
set_option linter.all false
set_option maxHeartbeats 40000000
set_option maxRecDepth 100000
open Go.RowKit
open Tryz
theorem Mx (ts:List Ty) (args:List Int) (hl:args.length=ts.length):lI ts args ts.length=dv ts args:=by
 apply List.ext_getElem
 ·rw [du,iR ts args hl.symm]
 ·intro i h1 h2
  rw [du] at h1
  rw [<-cg (d:=aE) (by rw [du];exact h1),<-cg (d:=aE) h2,wo h1,tM ts args i h1 hl.symm]
  rfl
theorem pk (f:Fi) (entry fuel:Int) (args input:List Int):lR true f.methods entry fuel args.length input.length=gU f entry args input fuel:=by
 unfold lR gU
 rw [if_neg (by decide)]
 by_cases h1:¬(0<=entry/\entry<(f.methods.length:Int))∨¬(0<=fuel/\fuel<=60000)
 ·have AV:¬(0<=entry/\entry<=(f.methods.length:Int)-1)∨¬(0<=fuel/\fuel<=60000):=by omega
  rw [if_pos h1,if_pos AV]
 ·have AV:¬(¬(0<=entry/\entry<=(f.methods.length:Int)-1)∨¬(0<=fuel/\fuel<=60000)):=by omega
  rw [if_neg h1,if_neg AV]
  by_cases h2:1000<input.length
  ·rw [if_pos h2,if_pos h2]
  ·rw [if_neg h2,if_neg h2]
   have e:mr (nth bT f.methods entry.toNat).params=gT (nth bT f.methods entry.toNat).params:=rfl
   rw [e]
   generalize gT (nth bT f.methods entry.toNat).params=q
   generalize (nth bT f.methods entry.toNat).params.length=n
   by_cases h3:args.length=n
   ·cases q<;>simp [h3]
   ·cases q<;>simp [h3]
theorem My (h:Hp) (v:Va):xG h v=(h.doneH v).sh:=by
 unfold xG Hp.doneH
 split
 ·rfl
 ·split
  ·rfl
  ·split<;>rfl
theorem JB (f:Fi) (n:Nat) (fuel:Int) (args input:List Int) (dL:bJ f=true) (hE:lR true f.methods (n:Int) fuel args.length input.length=0) :
  oU (runM fuel.toNat (gG f input fuel) [cv (nth bT f.methods n) (lI (nth bT f.methods n).params args (nth bT f.methods n).params.length)])=sy f (n:Int) args input fuel:=by
 obtain ⟨-,e2,e3,e4,e5,e6⟩:=wq hE
 rw [Int.toNat_natCast] at e5 e6
 have hn:n<f.methods.length:=by omega
 obtain ⟨m1,m2,m3⟩:=wv dL
 have hr:=sG (j6 (m3 _ (bE (d:=bT) hn))).2.2.2.2.2.2.2.2.2
 have hB:(eP f input fuel).enterB (nth bT f.methods n) (lI (nth bT f.methods n).params args (nth bT f.methods n).params.length)=true:=by
  unfold Hp.enterB
  rw [pj (qA e5)]
  rfl
 have hd:=KQ fuel.toNat (eP f input fuel) (nth bT f.methods n) (lI (nth bT f.methods n).params args (nth bT f.methods n).params.length) rfl (by unfold cG;show fuel-0<=_;omega) ⟨rfl,rfl⟩ hB hr
 have e:gG f input fuel={ eP f input fuel with calls:=(eP f input fuel).calls+1 }:=rfl
 rw [e,hd,My]
 unfold sy jv
 rw [Int.toNat_natCast,<-Mx _ _ e6]
theorem yC (w:World) (A:Option Addr):nK w A []:=⟨Nat.zero_le _,Or.inl rfl⟩
theorem sI (w:World):χ 9 #[.agg #[ι 0,ι 0,ι 0,.slice none 0 0,ι 0,ι 0],.agg #[ι 0,ι 0,ι 0,.slice none 0 0,ι 0,ι 0]] w fun e w'=>e=.returned (.bool true)/\Bl w w' :=
 qQ 0 0 0 0 0 none none 0 0 [] w (yC w none) (yC w none)
section
variable (f:Fi) (A B R I:Option Addr) (a b r i:Nat) (entry fuel:Int) (args input:List Int) (w:World)
theorem Mz (hf:¬(3000<fuel/\fuel<=60000)) (hS:∀w',Bl w w'->χ 13 #[lr f.classes.length f.methods.length A B a b,ι entry,.slice R args.length r,.slice I input.length i,ι fuel] w' fun e w2=>e=.returned (.tuple #[.agg #[ι 0,ι 0,ι 0,.slice none 0 0,ι 0,ι 0],ι 2])/\Bl w' w2) (hM:∀w',Bl w w'->χ 14 #[lr f.classes.length f.methods.length A B a b] w' fun e w2=>e=.returned (.bool false)/\Bl w' w2) :
  χ 6 #[lr f.classes.length f.methods.length A B a b,ι entry,.slice R args.length r,.slice I input.length i,ι fuel] w fun e w'=>e=.returned (.bool true)/\Bl w w':=by
 have HS:=ae hS
 have HM:=ae hM
 have HW:Θ (∀o,Bl w (w.alloc o)):=fun o=>(Bl.refl w).alloc o
 clear hS hM
 by_cases h1:3000<fuel
 all_goals
  have h2:3000<fuel->¬fuel<=60000:=fun x y=>hf ⟨x,y⟩
  (try have h3:=h2 h1)
  clear hf h2
  go_enter func6,ntmps6
  go_wp2_with (first
   | (go_at_call 13;refine (HS.o _ (HW.o _)).mono ?_;rintro e w1 ⟨rfl,b1⟩;have mA:=ax b1 (aB w #[.slice A f.classes.length a,.slice B f.methods.length b] 25);have RZ:∀o,(w1.alloc o).cell? ⟨w.heap.size,0,none⟩=some (.slice A f.classes.length a):=(fun o=>(ab (ax ((Bl.refl w1).alloc o) mA)).trans rfl);have Ru:∀o,(w1.alloc o).cell? ⟨w.heap.size,1,none⟩=some (.slice B f.methods.length b):=(fun o=>(ab (ax ((Bl.refl w1).alloc o) mA)).trans rfl);have B1:=ae ((HW.o _).trans b1);replace mA:=ae mA;clear b1)
   | (go_at_call 14;refine (HM.o _ (B1.o.alloc _)).mono ?_;rintro e w2 ⟨rfl,b2⟩;have q2:=ax b2 (aB w1 #[ι 0,ι 0,ι 0,.slice none 0 0,ι 0,ι 0] 28);have y0:w2.cell? ⟨w1.heap.size,0,none⟩=some (ι 0):=(ab q2).trans rfl;have y1:w2.cell? ⟨w1.heap.size,1,none⟩=some (ι 0):=(ab q2).trans rfl;have y2:w2.cell? ⟨w1.heap.size,2,none⟩=some (ι 0):=(ab q2).trans rfl;have y3:w2.cell? ⟨w1.heap.size,3,none⟩=some (.slice none 0 0):=(ab q2).trans rfl;have y4:w2.cell? ⟨w1.heap.size,4,none⟩=some (ι 0):=(ab q2).trans rfl;have y5:w2.cell? ⟨w1.heap.size,5,none⟩=some (ι 0):=(ab q2).trans rfl;have B2:=ae ((B1.o.alloc _).trans b2);clear b2 q2)
   | (go_at_call 9;refine (sI _).mono ?_;rintro e w3 ⟨rfl,b3⟩;have B3:=ae (B2.o.trans b3);clear b3))
  go_ret
  exact ⟨rfl,B3.o⟩
theorem Pz (E:Int) (hf:¬(3000<fuel/\fuel<=60000)) (hS:∀w',Bl w w'->χ 13 #[lr f.classes.length f.methods.length A B a b,ι entry,.slice R args.length r,.slice I input.length i,ι fuel] w' fun e w2=>e=.returned (.tuple #[.agg #[ι 0,ι 0,ι 0,.slice none 0 0,ι 0,ι 0],ι E])/\Bl w' w2) (hM:∀w',Bl w w'->χ 14 #[lr f.classes.length f.methods.length A B a b] w' fun e w2=>e=.returned (.bool true)/\Bl w' w2) (hP:∀w',Bl w w'->χ 15 #[lr f.classes.length f.methods.length A B a b,ι entry,.slice R args.length r,.slice I input.length i,ι fuel] w' fun e w2=>e=.returned (.tuple #[.agg #[ι 0,ι 0,ι 0,.slice none 0 0,ι 0,ι 0],ι E])/\Bl w' w2) :
  χ 6 #[lr f.classes.length f.methods.length A B a b,ι entry,.slice R args.length r,.slice I input.length i,ι fuel] w fun e w'=>e=.returned (.bool true)/\Bl w w':=by
 have HS:=ae hS
 have HM:=ae hM
 have HP:=ae hP
 have HW:Θ (∀o,Bl w (w.alloc o)):=fun o=>(Bl.refl w).alloc o
 clear hS hM hP
 by_cases h1:3000<fuel
 all_goals
  have h2:3000<fuel->¬fuel<=60000:=fun x y=>hf ⟨x,y⟩
  (try have h3:=h2 h1)
  clear hf h2
  go_enter func6,ntmps6
  go_wp2_with (first
   | (go_at_call 13;refine (HS.o _ (HW.o _)).mono ?_;rintro e w1 ⟨rfl,b1⟩;have mA:=ax b1 (aB w #[.slice A f.classes.length a,.slice B f.methods.length b] 25);have RZ:∀o,(w1.alloc o).cell? ⟨w.heap.size,0,none⟩=some (.slice A f.classes.length a):=(fun o=>(ab (ax ((Bl.refl w1).alloc o) mA)).trans rfl);have Ru:∀o,(w1.alloc o).cell? ⟨w.heap.size,1,none⟩=some (.slice B f.methods.length b):=(fun o=>(ab (ax ((Bl.refl w1).alloc o) mA)).trans rfl);have B1:=ae ((HW.o _).trans b1);replace mA:=ae mA;clear b1)
   | (go_at_call 14;refine (HM.o _ (B1.o.alloc _)).mono ?_;rintro e w2 ⟨rfl,b2⟩;have q2:=ax b2 (aB w1 #[ι 0,ι 0,ι 0,.slice none 0 0,ι 0,ι 0] 28);have f2:=ax b2 (ax ((Bl.refl w1).alloc _) mA.o);have u0:w2.cell? ⟨w.heap.size,0,none⟩=some (.slice A f.classes.length a):=(ab f2).trans rfl;have u1:w2.cell? ⟨w.heap.size,1,none⟩=some (.slice B f.methods.length b):=(ab f2).trans rfl;have B2:=ae ((B1.o.alloc _).trans b2);have Q2:=ae q2;clear b2 q2 f2)
   | (go_at_call 15;refine (HP.o _ B2.o).mono ?_;rintro e w3 ⟨rfl,b3⟩;have q3:=ax b3 Q2.o;have y0:∀o,(w3.alloc o).cell? ⟨w1.heap.size,0,none⟩=some (ι 0):=(fun o=>(ab (ax ((Bl.refl w3).alloc o) q3)).trans rfl);have y1:∀o,(w3.alloc o).cell? ⟨w1.heap.size,1,none⟩=some (ι 0):=(fun o=>(ab (ax ((Bl.refl w3).alloc o) q3)).trans rfl);have y2:∀o,(w3.alloc o).cell? ⟨w1.heap.size,2,none⟩=some (ι 0):=(fun o=>(ab (ax ((Bl.refl w3).alloc o) q3)).trans rfl);have y3:∀o,(w3.alloc o).cell? ⟨w1.heap.size,3,none⟩=some (.slice none 0 0):=(fun o=>(ab (ax ((Bl.refl w3).alloc o) q3)).trans rfl);have y4:∀o,(w3.alloc o).cell? ⟨w1.heap.size,4,none⟩=some (ι 0):=(fun o=>(ab (ax ((Bl.refl w3).alloc o) q3)).trans rfl);have y5:∀o,(w3.alloc o).cell? ⟨w1.heap.size,5,none⟩=some (ι 0):=(fun o=>(ab (ax ((Bl.refl w3).alloc o) q3)).trans rfl);have B3:=ae (B2.o.trans b3);clear b3 q3)
   | (go_at_call 9;refine (sI _).mono ?_;rintro e w4 ⟨rfl,b4⟩;have B4:=ae ((B3.o.alloc _).trans b4);clear b4))
  go_ret
  exact ⟨rfl,B4.o⟩
theorem R0 (s:Sh) (hf:¬(3000<fuel/\fuel<=60000)) (hS:∀w',Bl w w'->χ 13 #[lr f.classes.length f.methods.length A B a b,ι entry,.slice R args.length r,.slice I input.length i,ι fuel] w' fun e w2=>sH w' s e w2) (hM:∀w',Bl w w'->χ 14 #[lr f.classes.length f.methods.length A B a b] w' fun e w2=>e=.returned (.bool true)/\Bl w' w2) (hP:∀w',Bl w w'->χ 15 #[lr f.classes.length f.methods.length A B a b,ι entry,.slice R args.length r,.slice I input.length i,ι fuel] w' fun e w2=>sH w' s e w2) :
  χ 6 #[lr f.classes.length f.methods.length A B a b,ι entry,.slice R args.length r,.slice I input.length i,ι fuel] w fun e w'=>e=.returned (.bool true)/\Bl w w':=by
 have HS:=ae hS
 have HM:=ae hM
 have HP:=ae hP
 have HW:Θ (∀o,Bl w (w.alloc o)):=fun o=>(Bl.refl w).alloc o
 clear hS hM hP
 by_cases h1:3000<fuel
 all_goals
  have h2:3000<fuel->¬fuel<=60000:=fun x y=>hf ⟨x,y⟩
  (try have h3:=h2 h1)
  clear hf h2
  go_enter func6,ntmps6
  go_wp2_with (first
   | (go_at_call 13;refine (HS.o _ (HW.o _)).mono ?_;rintro e w1 ⟨vx,rfl,ow,b1⟩;obtain ⟨X,xc,rfl,rx⟩:=FJ ow;have mA:=ax b1 (aB w #[.slice A f.classes.length a,.slice B f.methods.length b] 25);have RZ:∀o,(w1.alloc o).cell? ⟨w.heap.size,0,none⟩=some (.slice A f.classes.length a):=(fun o=>(ab (ax ((Bl.refl w1).alloc o) mA)).trans rfl);have Ru:∀o,(w1.alloc o).cell? ⟨w.heap.size,1,none⟩=some (.slice B f.methods.length b):=(fun o=>(ab (ax ((Bl.refl w1).alloc o) mA)).trans rfl);have B1:=ae ((HW.o _).trans b1);replace mA:=ae mA;have RX1:=ae rx;clear b1 ow rx)
   | (go_at_call 14;refine (HM.o _ (B1.o.alloc _)).mono ?_;rintro e w2 ⟨rfl,b2⟩;have q2:=ax b2 (aB w1 #[ι s.fin,ι s.value,ι s.cls,.slice X s.o.length xc,ι s.used,ι s.steps] 28);have f2:=ax b2 (ax ((Bl.refl w1).alloc _) mA.o);have u0:w2.cell? ⟨w.heap.size,0,none⟩=some (.slice A f.classes.length a):=(ab f2).trans rfl;have u1:w2.cell? ⟨w.heap.size,1,none⟩=some (.slice B f.methods.length b):=(ab f2).trans rfl;have B2:=ae ((B1.o.alloc _).trans b2);have RX2:=ae (RX1.o.bl (((Bl.refl w1).alloc _).trans b2));have Q2:=ae q2;clear b2 q2 f2)
   | (go_at_call 15;refine (HP.o _ B2.o).mono ?_;rintro e w3 ⟨vy,rfl,oy,b3⟩;obtain ⟨Y,yc,rfl,ry⟩:=FJ oy;have q3:=ax b3 Q2.o;have y0:∀o,(w3.alloc o).cell? ⟨w1.heap.size,0,none⟩=some (ι s.fin):=(fun o=>(ab (ax ((Bl.refl w3).alloc o) q3)).trans rfl);have y1:∀o,(w3.alloc o).cell? ⟨w1.heap.size,1,none⟩=some (ι s.value):=(fun o=>(ab (ax ((Bl.refl w3).alloc o) q3)).trans rfl);have y2:∀o,(w3.alloc o).cell? ⟨w1.heap.size,2,none⟩=some (ι s.cls):=(fun o=>(ab (ax ((Bl.refl w3).alloc o) q3)).trans rfl);have y3:∀o,(w3.alloc o).cell? ⟨w1.heap.size,3,none⟩=some (.slice X s.o.length xc):=(fun o=>(ab (ax ((Bl.refl w3).alloc o) q3)).trans rfl);have y4:∀o,(w3.alloc o).cell? ⟨w1.heap.size,4,none⟩=some (ι s.used):=(fun o=>(ab (ax ((Bl.refl w3).alloc o) q3)).trans rfl);have y5:∀o,(w3.alloc o).cell? ⟨w1.heap.size,5,none⟩=some (ι s.steps):=(fun o=>(ab (ax ((Bl.refl w3).alloc o) q3)).trans rfl);have B3:=ae (B2.o.trans b3);have RX3:=ae (RX2.o.bl b3);have RY3:=ae ry;clear b3 q3 oy ry)
   | (go_at_call 9;refine (qQ s.fin s.value s.cls s.used s.steps X Y xc yc s.o _ (RX3.o.bl ((Bl.refl w3).alloc _)) (RY3.o.bl ((Bl.refl w3).alloc _))).mono ?_;rintro e w4 ⟨rfl,b4⟩;have B4:=ae ((B3.o.alloc _).trans b4);clear b4))
  go_ret
  exact ⟨rfl,B4.o⟩
theorem MA (hA:bK w A f.classes) (hB:cz w B f.methods) (hI:aU w I input) (hR:aU w R args) :
  χ 6 #[lr f.classes.length f.methods.length A B a b,ι entry,.slice R args.length r,.slice I input.length i,ι fuel] w fun e w'=>e=.returned (.bool true)/\Bl w w':=by
 by_cases hf:3000<fuel/\fuel<=60000
 ·obtain ⟨h1,h2⟩:=hf
  have HW:Θ (∀o,Bl w (w.alloc o)):=fun o=>(Bl.refl w).alloc o
  clear hA hB hI hR
  go_enter func6,ntmps6
  go_wp2
  go_ret
  exact ⟨rfl,HW.o _⟩
 ·have R5:∀w',Bl w w'->χ 30 #[lr f.classes.length f.methods.length A B a b] w' fun e w2=>e=.returned (.bool (bJ f))/\Bl w' w2:=fun w' hb=>Iy f A B a b w' (hA.bl hb) (hB.bl hb)
  have JC:∀w',Bl w w'->χ 14 #[lr f.classes.length f.methods.length A B a b] w' fun e w2=>e=.returned (.bool (bJ f))/\Bl w' w2:=fun w' hb=>EA f A B a b w' (hA.bl hb) (hB.bl hb)
  have hbad:lR (bJ f) f.methods entry fuel args.length input.length≠0->∀w',Bl w w'->χ 13 #[lr f.classes.length f.methods.length A B a b,ι entry,.slice R args.length r,.slice I input.length i,ι fuel] w' fun e w2=>e=.returned (.tuple #[.agg #[ι 0,ι 0,ι 0,.slice none 0 0,ι 0,ι 0],ι (lR (bJ f) f.methods entry fuel args.length input.length)])/\Bl w' w2:=fun hE w' hb =>
   JA f A B R I a b r i entry fuel args input w' _ (fun w2 dQ=>yA f A B R I a b r i entry fuel args input w2 (hB.bl (hb.trans dQ)) hI.1 hR.1 (fun w3 mW=>R5 w3 ((hb.trans dQ).trans mW)) hE)
  cases hm:bJ f with
  | false =>
   rw [hm] at hbad JC
   exact Mz f A B R I a b r i entry fuel args input w hf (hbad (by unfold lR;rw [if_pos rfl];decide)) JC
  | true =>
   rw [hm] at hbad JC
   by_cases hE:lR true f.methods entry fuel args.length input.length=0
   ·obtain ⟨-,e2,-⟩:=wq hE
    obtain ⟨n,rfl⟩:∃n:Nat,entry=n:=⟨entry.toNat,by omega⟩
    refine R0 f A B R I a b r i (n:Int) fuel args input w (sy f (n:Int) args input fuel) hf (fun w' hb=>?_) JC (fun w' hb=>?_)
    ·refine Mw f A B R I a b r i (n:Int) fuel args input w' _ (fun w2 dQ=>?_)
     have mW:=hb.trans dQ
     have:=A8 f A B R I a b r i n fuel args input w2 (hA.bl mW) (hB.bl mW) (hI.bl mW) (hR.bl mW) (fun w3 hb4=>R5 w3 (mW.trans hb4)) (by rw [hm];exact hE)
     rw [JB f n fuel args input hm hE] at this
     exact this
    ·exact Mm f A B I R a b i r (n:Int) fuel args input w' (hA.bl hb) (hB.bl hb) (hI.bl hb) (hR.bl hb) hm (by rw [<-pk];exact hE)
   ·refine Pz f A B R I a b r i entry fuel args input w _ hf (hbad hE) JC (fun w' hb=>?_)
    rw [pk]
    exact Jk f A B I R a b i r entry fuel args input w' (hB.bl hb) hI.1 (hR.bl hb) hm (by rw [<-pk];exact hE)
end
end Go.Proofs.YtgiiapenmjollaaGreat
