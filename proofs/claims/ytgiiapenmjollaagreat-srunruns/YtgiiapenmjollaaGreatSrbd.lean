import Derived.Test.YtgiiapenmjollaaGreatSrap
import Derived.Test.YtgiiapenmjollaaGreatSras
import Derived.Test.YtgiiapenmjollaaGreatSrbc
namespace Go.Proofs.YtgiiapenmjollaaGreat
set_option linter.all false
set_option maxHeartbeats 40000000
set_option maxRecDepth 100000
open Go.RowKit
open Go.Value (int)
open Go.IntKind (i64)
theorem Kv (ts:List Ty) (args:List Int) (hl:args.length=ts.length):lB ts args ts.length=dz ts args:=by
 apply List.ext_getElem
 ·rw [du,iU ts args hl.symm]
 ·intro i h1 h2
  rw [du] at h1
  rw [<-bU (d:=ag) (by rw [du];exact h1),<-bU (d:=ag) h2,vg h1,sK ts args i h1 hl.symm]
  rfl
theorem oJ (f:Fi) (entry fuel:Int) (args input:List Int):lQ true f.methods entry fuel args.length input.length=gS f entry args input fuel:=by
 unfold lQ gS
 rw [if_neg (by decide)]
 by_cases h1:¬(0<=entry/\entry<(f.methods.length:Int))∨¬(0<=fuel/\fuel<=60000)
 ·have vD:¬(0<=entry/\entry<=(f.methods.length:Int)-1)∨¬(0<=fuel/\fuel<=60000):=by omega
  rw [if_pos h1,if_pos vD]
 ·have vD:¬(¬(0<=entry/\entry<=(f.methods.length:Int)-1)∨¬(0<=fuel/\fuel<=60000)):=by omega
  rw [if_neg h1,if_neg vD]
  by_cases h2:1000<input.length
  ·rw [if_pos h2,if_pos h2]
  ·rw [if_neg h2,if_neg h2]
   have e:mi (nth bO f.methods entry.toNat).params=gR (nth bO f.methods entry.toNat).params:=rfl
   rw [e]
   generalize gR (nth bO f.methods entry.toNat).params=q
   generalize (nth bO f.methods entry.toNat).params.length=n
   by_cases h3:args.length=n
   ·cases q<;>simp [h3]
   ·cases q<;>simp [h3]
theorem Kw (h:Hp) (v:Va):wo h v=(h.doneH v).sh:=by
 unfold wo Hp.doneH
 split
 ·rfl
 ·split
  ·rfl
  ·split<;>rfl
theorem GY (f:Fi) (n:Nat) (fuel:Int) (args input:List Int) (hmay:bW f=true) (hE:lQ true f.methods (n:Int) fuel args.length input.length=0) :
  od (runM fuel.toNat (gK f input fuel) [bS (nth bO f.methods n) (lB (nth bO f.methods n).params args (nth bO f.methods n).params.length)])=qQ f (n:Int) args input fuel:=by
 obtain ⟨-,e2,e3,e4,e5,e6⟩:=vh hE
 rw [Int.toNat_natCast] at e5 e6
 have hn:n<f.methods.length:=by omega
 obtain ⟨m1,m2,m3⟩:=vi hmay
 have hr:=rB (jh (m3 _ (bJ (d:=bO) hn))).2.2.2.2.2.2.2.2.2.2
 have hB:(fH f input fuel).enterB (nth bO f.methods n) (lB (nth bO f.methods n).params args (nth bO f.methods n).params.length)=true:=by
  unfold Hp.enterB
  rw [oI (pK e5)]
  rfl
 have hd:=Iw fuel.toNat (fH f input fuel) (nth bO f.methods n) (lB (nth bO f.methods n).params args (nth bO f.methods n).params.length) rfl (by unfold cq;show fuel-0<=_;omega) ⟨rfl,rfl⟩ hB hr
 have e:gK f input fuel={ fH f input fuel with calls:=(fH f input fuel).calls+1 }:=rfl
 rw [e,hd,Kw]
 unfold qQ jo
 rw [Int.toNat_natCast,<-Kv _ _ e6]
theorem xT (w:World) (A:Option Addr):nG w A []:=⟨Nat.zero_le _,Or.inl rfl⟩
theorem rD (w:World):Calls Tryz.prog 9 #[.agg #[int i64 0,int i64 0,int i64 0,.slice none 0 0,int i64 0,int i64 0],.agg #[int i64 0,int i64 0,int i64 0,.slice none 0 0,int i64 0,int i64 0]] w fun e w'=>e=.returned (.bool true)/\Bl w w' :=
 qk 0 0 0 0 0 none none 0 0 [] w (xT w none) (xT w none)
section
variable (f:Fi) (A B R I:Option Addr) (a b r i:Nat) (entry fuel:Int) (args input:List Int) (w:World)
theorem Ky (hf:¬(3000<fuel/\fuel<=60000)) (hS:∀w',Bl w w'->Calls Tryz.prog 7 #[fU f.classes.length f.methods.length A B a b,int i64 entry,.slice R args.length r,.slice I input.length i,int i64 fuel] w' fun e w2=>e=.returned (.tuple #[.agg #[int i64 0,int i64 0,int i64 0,.slice none 0 0,int i64 0,int i64 0],int i64 2])/\Bl w' w2) (hM:∀w',Bl w w'->Calls Tryz.prog 8 #[fU f.classes.length f.methods.length A B a b] w' fun e w2=>e=.returned (.bool false)/\Bl w' w2) :
  Calls Tryz.prog 3 #[fU f.classes.length f.methods.length A B a b,int i64 entry,.slice R args.length r,.slice I input.length i,int i64 fuel] w fun e w'=>e=.returned (.bool true)/\Bl w w':=by
 have HS:=ab hS
 have HM:=ab hM
 have HW:Hid (∀o,Bl w (w.alloc o)):=fun o=>(Bl.refl w).alloc o
 clear hS hM
 by_cases h1:3000<fuel
 all_goals
  have h2:3000<fuel->¬fuel<=60000:=fun x y=>hf ⟨x,y⟩
  (try have h3:=h2 h1)
  clear hf h2
  go_enter Tryz.func3,Tryz.ntmps3
  go_wp2_with (first
   | (go_at_call 7;refine (HS.out _ (HW.out _)).mono ?_;rintro e w1 ⟨rfl,b1⟩;have mn:=ai b1 (aD w #[.slice A f.classes.length a,.slice B f.methods.length b] 25);have PO:∀o,(w1.alloc o).cell? ⟨w.heap.size,0,none⟩=some (.slice A f.classes.length a):=(fun o=>(aa (ai ((Bl.refl w1).alloc o) mn)).trans rfl);have PQ:∀o,(w1.alloc o).cell? ⟨w.heap.size,1,none⟩=some (.slice B f.methods.length b):=(fun o=>(aa (ai ((Bl.refl w1).alloc o) mn)).trans rfl);have B1:=ab ((HW.out _).trans b1);replace mn:=ab mn;clear b1)
   | (go_at_call 8;refine (HM.out _ (B1.out.alloc _)).mono ?_;rintro e w2 ⟨rfl,b2⟩;have q2:=ai b2 (aD w1 #[int i64 0,int i64 0,int i64 0,.slice none 0 0,int i64 0,int i64 0] 28);have y0:w2.cell? ⟨w1.heap.size,0,none⟩=some (int i64 0):=(aa q2).trans rfl;have y1:w2.cell? ⟨w1.heap.size,1,none⟩=some (int i64 0):=(aa q2).trans rfl;have y2:w2.cell? ⟨w1.heap.size,2,none⟩=some (int i64 0):=(aa q2).trans rfl;have y3:w2.cell? ⟨w1.heap.size,3,none⟩=some (.slice none 0 0):=(aa q2).trans rfl;have y4:w2.cell? ⟨w1.heap.size,4,none⟩=some (int i64 0):=(aa q2).trans rfl;have y5:w2.cell? ⟨w1.heap.size,5,none⟩=some (int i64 0):=(aa q2).trans rfl;have B2:=ab ((B1.out.alloc _).trans b2);clear b2 q2)
   | (go_at_call 9;refine (rD _).mono ?_;rintro e w3 ⟨rfl,b3⟩;have B3:=ab (B2.out.trans b3);clear b3))
  go_ret
  exact ⟨rfl,B3.out⟩
theorem Nv (E:Int) (hf:¬(3000<fuel/\fuel<=60000)) (hS:∀w',Bl w w'->Calls Tryz.prog 7 #[fU f.classes.length f.methods.length A B a b,int i64 entry,.slice R args.length r,.slice I input.length i,int i64 fuel] w' fun e w2=>e=.returned (.tuple #[.agg #[int i64 0,int i64 0,int i64 0,.slice none 0 0,int i64 0,int i64 0],int i64 E])/\Bl w' w2) (hM:∀w',Bl w w'->Calls Tryz.prog 8 #[fU f.classes.length f.methods.length A B a b] w' fun e w2=>e=.returned (.bool true)/\Bl w' w2) (hP:∀w',Bl w w'->Calls Tryz.prog 10 #[fU f.classes.length f.methods.length A B a b,int i64 entry,.slice R args.length r,.slice I input.length i,int i64 fuel] w' fun e w2=>e=.returned (.tuple #[.agg #[int i64 0,int i64 0,int i64 0,.slice none 0 0,int i64 0,int i64 0],int i64 E])/\Bl w' w2) :
  Calls Tryz.prog 3 #[fU f.classes.length f.methods.length A B a b,int i64 entry,.slice R args.length r,.slice I input.length i,int i64 fuel] w fun e w'=>e=.returned (.bool true)/\Bl w w':=by
 have HS:=ab hS
 have HM:=ab hM
 have HP:=ab hP
 have HW:Hid (∀o,Bl w (w.alloc o)):=fun o=>(Bl.refl w).alloc o
 clear hS hM hP
 by_cases h1:3000<fuel
 all_goals
  have h2:3000<fuel->¬fuel<=60000:=fun x y=>hf ⟨x,y⟩
  (try have h3:=h2 h1)
  clear hf h2
  go_enter Tryz.func3,Tryz.ntmps3
  go_wp2_with (first
   | (go_at_call 7;refine (HS.out _ (HW.out _)).mono ?_;rintro e w1 ⟨rfl,b1⟩;have mn:=ai b1 (aD w #[.slice A f.classes.length a,.slice B f.methods.length b] 25);have PO:∀o,(w1.alloc o).cell? ⟨w.heap.size,0,none⟩=some (.slice A f.classes.length a):=(fun o=>(aa (ai ((Bl.refl w1).alloc o) mn)).trans rfl);have PQ:∀o,(w1.alloc o).cell? ⟨w.heap.size,1,none⟩=some (.slice B f.methods.length b):=(fun o=>(aa (ai ((Bl.refl w1).alloc o) mn)).trans rfl);have B1:=ab ((HW.out _).trans b1);replace mn:=ab mn;clear b1)
   | (go_at_call 8;refine (HM.out _ (B1.out.alloc _)).mono ?_;rintro e w2 ⟨rfl,b2⟩;have q2:=ai b2 (aD w1 #[int i64 0,int i64 0,int i64 0,.slice none 0 0,int i64 0,int i64 0] 28);have f2:=ai b2 (ai ((Bl.refl w1).alloc _) mn.out);have u0:w2.cell? ⟨w.heap.size,0,none⟩=some (.slice A f.classes.length a):=(aa f2).trans rfl;have u1:w2.cell? ⟨w.heap.size,1,none⟩=some (.slice B f.methods.length b):=(aa f2).trans rfl;have B2:=ab ((B1.out.alloc _).trans b2);have Q2:=ab q2;clear b2 q2 f2)
   | (go_at_call 10;refine (HP.out _ B2.out).mono ?_;rintro e w3 ⟨rfl,b3⟩;have q3:=ai b3 Q2.out;have y0:∀o,(w3.alloc o).cell? ⟨w1.heap.size,0,none⟩=some (int i64 0):=(fun o=>(aa (ai ((Bl.refl w3).alloc o) q3)).trans rfl);have y1:∀o,(w3.alloc o).cell? ⟨w1.heap.size,1,none⟩=some (int i64 0):=(fun o=>(aa (ai ((Bl.refl w3).alloc o) q3)).trans rfl);have y2:∀o,(w3.alloc o).cell? ⟨w1.heap.size,2,none⟩=some (int i64 0):=(fun o=>(aa (ai ((Bl.refl w3).alloc o) q3)).trans rfl);have y3:∀o,(w3.alloc o).cell? ⟨w1.heap.size,3,none⟩=some (.slice none 0 0):=(fun o=>(aa (ai ((Bl.refl w3).alloc o) q3)).trans rfl);have y4:∀o,(w3.alloc o).cell? ⟨w1.heap.size,4,none⟩=some (int i64 0):=(fun o=>(aa (ai ((Bl.refl w3).alloc o) q3)).trans rfl);have y5:∀o,(w3.alloc o).cell? ⟨w1.heap.size,5,none⟩=some (int i64 0):=(fun o=>(aa (ai ((Bl.refl w3).alloc o) q3)).trans rfl);have B3:=ab (B2.out.trans b3);clear b3 q3)
   | (go_at_call 9;refine (rD _).mono ?_;rintro e w4 ⟨rfl,b4⟩;have B4:=ab ((B3.out.alloc _).trans b4);clear b4))
  go_ret
  exact ⟨rfl,B4.out⟩
theorem PR (s:Sh) (hf:¬(3000<fuel/\fuel<=60000)) (hS:∀w',Bl w w'->Calls Tryz.prog 7 #[fU f.classes.length f.methods.length A B a b,int i64 entry,.slice R args.length r,.slice I input.length i,int i64 fuel] w' fun e w2=>rC w' s e w2) (hM:∀w',Bl w w'->Calls Tryz.prog 8 #[fU f.classes.length f.methods.length A B a b] w' fun e w2=>e=.returned (.bool true)/\Bl w' w2) (hP:∀w',Bl w w'->Calls Tryz.prog 10 #[fU f.classes.length f.methods.length A B a b,int i64 entry,.slice R args.length r,.slice I input.length i,int i64 fuel] w' fun e w2=>rC w' s e w2) :
  Calls Tryz.prog 3 #[fU f.classes.length f.methods.length A B a b,int i64 entry,.slice R args.length r,.slice I input.length i,int i64 fuel] w fun e w'=>e=.returned (.bool true)/\Bl w w':=by
 have HS:=ab hS
 have HM:=ab hM
 have HP:=ab hP
 have HW:Hid (∀o,Bl w (w.alloc o)):=fun o=>(Bl.refl w).alloc o
 clear hS hM hP
 by_cases h1:3000<fuel
 all_goals
  have h2:3000<fuel->¬fuel<=60000:=fun x y=>hf ⟨x,y⟩
  (try have h3:=h2 h1)
  clear hf h2
  go_enter Tryz.func3,Tryz.ntmps3
  go_wp2_with (first
   | (go_at_call 7;refine (HS.out _ (HW.out _)).mono ?_;rintro e w1 ⟨vx,rfl,ow,b1⟩;obtain ⟨X,xc,rfl,rx⟩:=Eb ow;have mn:=ai b1 (aD w #[.slice A f.classes.length a,.slice B f.methods.length b] 25);have PO:∀o,(w1.alloc o).cell? ⟨w.heap.size,0,none⟩=some (.slice A f.classes.length a):=(fun o=>(aa (ai ((Bl.refl w1).alloc o) mn)).trans rfl);have PQ:∀o,(w1.alloc o).cell? ⟨w.heap.size,1,none⟩=some (.slice B f.methods.length b):=(fun o=>(aa (ai ((Bl.refl w1).alloc o) mn)).trans rfl);have B1:=ab ((HW.out _).trans b1);replace mn:=ab mn;have XM:=ab rx;clear b1 ow rx)
   | (go_at_call 8;refine (HM.out _ (B1.out.alloc _)).mono ?_;rintro e w2 ⟨rfl,b2⟩;have q2:=ai b2 (aD w1 #[int i64 s.fin,int i64 s.value,int i64 s.cls,.slice X s.out.length xc,int i64 s.used,int i64 s.steps] 28);have f2:=ai b2 (ai ((Bl.refl w1).alloc _) mn.out);have u0:w2.cell? ⟨w.heap.size,0,none⟩=some (.slice A f.classes.length a):=(aa f2).trans rfl;have u1:w2.cell? ⟨w.heap.size,1,none⟩=some (.slice B f.methods.length b):=(aa f2).trans rfl;have B2:=ab ((B1.out.alloc _).trans b2);have XN:=ab (XM.out.bl (((Bl.refl w1).alloc _).trans b2));have Q2:=ab q2;clear b2 q2 f2)
   | (go_at_call 10;refine (HP.out _ B2.out).mono ?_;rintro e w3 ⟨vy,rfl,oy,b3⟩;obtain ⟨Y,yc,rfl,ry⟩:=Eb oy;have q3:=ai b3 Q2.out;have y0:∀o,(w3.alloc o).cell? ⟨w1.heap.size,0,none⟩=some (int i64 s.fin):=(fun o=>(aa (ai ((Bl.refl w3).alloc o) q3)).trans rfl);have y1:∀o,(w3.alloc o).cell? ⟨w1.heap.size,1,none⟩=some (int i64 s.value):=(fun o=>(aa (ai ((Bl.refl w3).alloc o) q3)).trans rfl);have y2:∀o,(w3.alloc o).cell? ⟨w1.heap.size,2,none⟩=some (int i64 s.cls):=(fun o=>(aa (ai ((Bl.refl w3).alloc o) q3)).trans rfl);have y3:∀o,(w3.alloc o).cell? ⟨w1.heap.size,3,none⟩=some (.slice X s.out.length xc):=(fun o=>(aa (ai ((Bl.refl w3).alloc o) q3)).trans rfl);have y4:∀o,(w3.alloc o).cell? ⟨w1.heap.size,4,none⟩=some (int i64 s.used):=(fun o=>(aa (ai ((Bl.refl w3).alloc o) q3)).trans rfl);have y5:∀o,(w3.alloc o).cell? ⟨w1.heap.size,5,none⟩=some (int i64 s.steps):=(fun o=>(aa (ai ((Bl.refl w3).alloc o) q3)).trans rfl);have B3:=ab (B2.out.trans b3);have XO:=ab (XN.out.bl b3);have XQ:=ab ry;clear b3 q3 oy ry)
   | (go_at_call 9;refine (qk s.fin s.value s.cls s.used s.steps X Y xc yc s.out _ (XO.out.bl ((Bl.refl w3).alloc _)) (XQ.out.bl ((Bl.refl w3).alloc _))).mono ?_;rintro e w4 ⟨rfl,b4⟩;have B4:=ab ((B3.out.alloc _).trans b4);clear b4))
  go_ret
  exact ⟨rfl,B4.out⟩
theorem Kz (hA:ct w A f.classes) (hB:eE w B f.methods) (hI:cL w I input) (hR:cL w R args) :
  Calls Tryz.prog 3 #[fU f.classes.length f.methods.length A B a b,int i64 entry,.slice R args.length r,.slice I input.length i,int i64 fuel] w fun e w'=>e=.returned (.bool true)/\Bl w w':=by
 by_cases hf:3000<fuel/\fuel<=60000
 ·obtain ⟨h1,h2⟩:=hf
  have HW:Hid (∀o,Bl w (w.alloc o)):=fun o=>(Bl.refl w).alloc o
  clear hA hB hI hR
  go_enter Tryz.func3,Tryz.ntmps3
  go_wp2
  go_ret
  exact ⟨rfl,HW.out _⟩
 ·have PS:∀w',Bl w w'->Calls Tryz.prog 16 #[fU f.classes.length f.methods.length A B a b] w' fun e w2=>e=.returned (.bool (bW f))/\Bl w' w2:=fun w' hb=>FM f A B a b w' (hA.bl hb) (hB.bl hb)
  have GZ:∀w',Bl w w'->Calls Tryz.prog 8 #[fU f.classes.length f.methods.length A B a b] w' fun e w2=>e=.returned (.bool (bW f))/\Bl w' w2:=fun w' hb=>CF f A B a b w' (hA.bl hb) (hB.bl hb)
  have hbad:lQ (bW f) f.methods entry fuel args.length input.length≠0->∀w',Bl w w'->Calls Tryz.prog 7 #[fU f.classes.length f.methods.length A B a b,int i64 entry,.slice R args.length r,.slice I input.length i,int i64 fuel] w' fun e w2=>e=.returned (.tuple #[.agg #[int i64 0,int i64 0,int i64 0,.slice none 0 0,int i64 0,int i64 0],int i64 (lQ (bW f) f.methods entry fuel args.length input.length)])/\Bl w' w2:=fun hE w' hb =>
   GX f A B R I a b r i entry fuel args input w' _ (fun w2 dB=>xR f A B R I a b r i entry fuel args input w2 (hB.bl (hb.trans dB)) hI.1 hR.1 (fun w3 mP=>PS w3 ((hb.trans dB).trans mP)) hE)
  cases hm:bW f with
  | false =>
   rw [hm] at hbad GZ
   exact Ky f A B R I a b r i entry fuel args input w hf (hbad (by unfold lQ;rw [if_pos rfl];decide)) GZ
  | true =>
   rw [hm] at hbad GZ
   by_cases hE:lQ true f.methods entry fuel args.length input.length=0
   ·obtain ⟨-,e2,-⟩:=vh hE
    obtain ⟨n,rfl⟩:∃n:Nat,entry=n:=⟨entry.toNat,by omega⟩
    refine PR f A B R I a b r i (n:Int) fuel args input w (qQ f (n:Int) args input fuel) hf (fun w' hb=>?_) GZ (fun w' hb=>?_)
    ·refine Kt f A B R I a b r i (n:Int) fuel args input w' _ (fun w2 dB=>?_)
     have mP:=hb.trans dB
     have:=zw f A B R I a b r i n fuel args input w2 (hA.bl mP) (hB.bl mP) (hI.bl mP) (hR.bl mP) (fun w3 XR=>PS w3 (mP.trans XR)) (by rw [hm];exact hE)
     rw [GY f n fuel args input hm hE] at this
     exact this
    ·exact JC f A B I R a b i r (n:Int) fuel args input w' (hA.bl hb) (hB.bl hb) (hI.bl hb) (hR.bl hb) hm (by rw [<-oJ];exact hE)
   ·refine Nv f A B R I a b r i entry fuel args input w _ hf (hbad hE) GZ (fun w' hb=>?_)
    rw [oJ]
    exact FH f A B I R a b i r entry fuel args input w' (hB.bl hb) hI.1 (hR.bl hb) hm (by rw [<-oJ];exact hE)
end
end Go.Proofs.YtgiiapenmjollaaGreat
