import Derived.Test.YtgiiapenmjollabGreatRlam
import Derived.Test.YtgiiapenmjollabGreatRlbn
import Derived.Test.YtgiiapenmjollabGreatRlbr
namespace Go.Proofs.YtgiiapenmjollabGreat
set_option linter.all false
set_option maxHeartbeats 40000000
set_option maxRecDepth 100000
open Go.RowKit
theorem pre_nth {k l:List Int} (h:k <+: l) {i:Nat} (hi:i<k.length):nth (0:Int) l i=nth (0:Int) k i:=by
 obtain ⟨t,rfl⟩:=h
 have hi':i<(k++t).length:=by simp;omega
 rw [nth_get hi,nth_get hi',List.getElem_append_left hi]
theorem pre_len {k l:List Int} (h:k <+: l):k.length≤l.length:=by
 obtain ⟨t,rfl⟩:=h
 simp
theorem begins_yes (A B:Option Addr) (a b:Nat) (l k:List Int) (w:World) (hA:RowAt w A l) (hB:RowAt w B k) (hp:k <+: l) :
  Calls Tryz.prog 33 #[.slice A l.length a,.slice B k.length b] w fun e w'=>e=.returned (.bool true)∧Bl w w':=by
 have HA:=hid hA
 have HB:=hid hB
 have hm:=hA.1
 have hm2:=hB.1
 unfold maxLen at hm hm2
 have hl:=pre_len hp
 have HP:=hid hp
 clear hA hB hp
 go_enter Tryz.func33,Tryz.ntmps33
 go_wp2
 go_loopw [5] (fun i wr=>∃q:Nat,q≤k.length∧i=.int .i64 q∧Hid (Bl w wr)) (fun i _=>k.length-(intOf i).toNat)
 case atStart=>exact ⟨0,Nat.zero_le _,rfl,Bl.refl _⟩
 case round =>
  obtain ⟨q,hq,rfl,hg⟩:=hrel
  by_cases hql:q<k.length
  ·rcases (HA.out.bl hg.out).2 with z0|⟨b1,o1,rfl,c1⟩
   ·omega
   rcases (HB.out.bl hg.out).2 with z0|⟨b2,o2,rfl,c2⟩
   ·omega
   have x1:=c1 q (by omega)
   have x2:=c2 q hql
   rw [pre_nth HP.out hql] at x1
   clear c1 c2
   go_wp2
   go_quiet (fail)
   go_wp2
   go_roundw
   case rel=>exact ⟨q+1,by omega,by go_num,bl_drewN hg.out _⟩
   case measure=>simp [intOf];omega
  ·obtain rfl:q=k.length:=by omega
   go_wp2
   go_ret
   exact ⟨rfl,hg.out⟩
theorem longer_yes (s t:Sh) (few:Int) (X Y:Option Addr) (xc yc:Nat) (w:World) (hX:RowAt w X s.out) (hY:RowAt w Y t.out) (L:Lon s t few) :
  Calls Tryz.prog 13 #[.agg #[.int .i64 s.fin,.int .i64 s.value,.int .i64 s.cls,.slice X s.out.length xc,.int .i64 s.used,.int .i64 s.steps],.agg #[.int .i64 t.fin,.int .i64 t.value,.int .i64 t.cls,.slice Y t.out.length yc,.int .i64 t.used,.int .i64 t.steps],.int .i64 few] w fun e w'=>e=.returned (.bool true)∧Bl w w':=by
 have HW:Hid (∀x y,Bl w ((w.alloc x).alloc y)):=fun _ _=>((Bl.refl w).alloc _).alloc _
 by_cases h0:s.fin=0
 ·obtain ⟨l1,l2,l3⟩:=L.stop h0
  have HB:Hid (∀w',Bl w w'→Calls Tryz.prog 33 #[.slice Y t.out.length yc,.slice X s.out.length xc] w' fun e w2=>e=.returned (.bool true)∧Bl w' w2):=fun w' hb=>begins_yes Y X yc xc t.out s.out w' (hY.bl hb) (hX.bl hb) l3
  have d0:(s.fin==0)=true:=by simpa using h0
  have d1:(s.steps==few)=true:=by simpa using l1
  clear hX hY L l1 l3 h0
  go_enter Tryz.func13,Tryz.ntmps13
  go_wp2_with (go_at_call 33;refine (HB.out _ (HW.out _ _)).mono ?_;rintro e w1 ⟨rfl,b1⟩;replace b1:=hid b1)
  go_ret
  exact ⟨rfl,(HW.out _ _).trans b1.out⟩
 ·have e:=L.same h0
  subst e
  have HB1:Hid (∀w',Bl w w'→Calls Tryz.prog 33 #[.slice X s.out.length xc,.slice Y s.out.length yc] w' fun e w2=>e=.returned (.bool true)∧Bl w' w2):=fun w' hb=>begins_yes X Y xc yc s.out s.out w' (hX.bl hb) (hY.bl hb) (List.prefix_refl _)
  have HB2:Hid (∀w',Bl w w'→Calls Tryz.prog 33 #[.slice Y s.out.length yc,.slice X s.out.length xc] w' fun e w2=>e=.returned (.bool true)∧Bl w' w2):=fun w' hb=>begins_yes Y X yc xc s.out s.out w' (hY.bl hb) (hX.bl hb) (List.prefix_refl _)
  obtain ⟨L1,L2⟩:=two_lie w #[.int .i64 s.fin,.int .i64 s.value,.int .i64 s.cls,.slice X s.out.length xc,.int .i64 s.used,.int .i64 s.steps] #[.int .i64 s.fin,.int .i64 s.value,.int .i64 s.cls,.slice Y s.out.length yc,.int .i64 s.used,.int .i64 s.steps] 28 28
  have HL1:=hid L1
  have HL2:=hid L2
  have d0:(s.fin==0)=false:=by simpa using h0
  clear hX hY L h0 L1 L2
  go_enter Tryz.func13,Tryz.ntmps13
  go_wp2_with (first
   | (have:=B1;go_at_call 33;refine (HB2.out _ B1.out).mono ?_;rintro e w2 ⟨rfl,b2⟩;have B2:=hid (B1.out.trans b2);clear b2)
   | (go_at_call 33;refine (HB1.out _ (HW.out _ _)).mono ?_;rintro e w1 ⟨rfl,b1⟩;have B1:=hid ((HW.out _ _).trans b1);have x3:w1.cell? ⟨w.heap.size,3,none⟩=some (.slice X s.out.length xc):=(cell_blk (bl_blk b1 HL1.out)).trans rfl;have y3:w1.cell? ⟨w.heap.size+1,3,none⟩=some (.slice Y s.out.length yc):=(cell_blk (bl_blk b1 HL2.out)).trans rfl;clear b1))
  go_ret
  exact ⟨rfl,B2.out⟩
theorem sl_bad (f:Fi) (A B R I:Option Addr) (a b r i:Nat) (entry few more:Int) (args input:List Int) (w:World) (E:Int) (hE:E≠0) (h1:0≤few) (h2:few≤more) (h3:more≤3000)
  (hS:∀w',Bl w w'→Calls Tryz.prog 12 #[filV f.classes.length f.methods.length A B a b,.int .i64 entry,.slice R args.length r,.slice I input.length i,.int .i64 few] w' fun e w2=>e=.returned (.tuple #[.agg #[.int .i64 0,.int .i64 0,.int .i64 0,.slice none 0 0,.int .i64 0,.int .i64 0],.int .i64 E])∧Bl w' w2)
  (hT:∀w',Bl w w'→Calls Tryz.prog 12 #[filV f.classes.length f.methods.length A B a b,.int .i64 entry,.slice R args.length r,.slice I input.length i,.int .i64 more] w' fun e w2=>e=.returned (.tuple #[.agg #[.int .i64 0,.int .i64 0,.int .i64 0,.slice none 0 0,.int .i64 0,.int .i64 0],.int .i64 E])∧Bl w' w2) :
  Calls Tryz.prog 3 #[filV f.classes.length f.methods.length A B a b,.int .i64 entry,.slice R args.length r,.slice I input.length i,.int .i64 few,.int .i64 more] w fun e w'=>e=.returned (.bool true)∧Bl w w':=by
 have HS:=hid hS
 have HT:=hid hT
 have HW:Hid (∀o,Bl w (w.alloc o)):=fun o=>(Bl.refl w).alloc o
 have hz:(E !=0)=true:=by simpa using hE
 clear hS hT hE
 go_enter Tryz.func3,Tryz.ntmps3
 go_wp2_with (first
  | (have:=B1;go_at_call 12;refine (HT.out _ (B1.out.alloc _)).mono ?_;rintro e w2 ⟨rfl,b2⟩;have q2:=bl_blk b2 (blk_new w1 #[.int .i64 0,.int .i64 0,.int .i64 0,.slice none 0 0,.int .i64 0,.int .i64 0] 28);have y0:∀o,(w2.alloc o).cell? ⟨w1.heap.size,0,none⟩=some (.int .i64 0):=(fun o=>(cell_blk (bl_blk ((Bl.refl w2).alloc o) q2)).trans rfl);have y1:∀o,(w2.alloc o).cell? ⟨w1.heap.size,1,none⟩=some (.int .i64 0):=(fun o=>(cell_blk (bl_blk ((Bl.refl w2).alloc o) q2)).trans rfl);have y2:∀o,(w2.alloc o).cell? ⟨w1.heap.size,2,none⟩=some (.int .i64 0):=(fun o=>(cell_blk (bl_blk ((Bl.refl w2).alloc o) q2)).trans rfl);have y3:∀o,(w2.alloc o).cell? ⟨w1.heap.size,3,none⟩=some (.slice none 0 0):=(fun o=>(cell_blk (bl_blk ((Bl.refl w2).alloc o) q2)).trans rfl);have y4:∀o,(w2.alloc o).cell? ⟨w1.heap.size,4,none⟩=some (.int .i64 0):=(fun o=>(cell_blk (bl_blk ((Bl.refl w2).alloc o) q2)).trans rfl);have y5:∀o,(w2.alloc o).cell? ⟨w1.heap.size,5,none⟩=some (.int .i64 0):=(fun o=>(cell_blk (bl_blk ((Bl.refl w2).alloc o) q2)).trans rfl);have B2:=hid ((B1.out.alloc _).trans b2);clear b2 q2)
  | (go_at_call 12;refine (HS.out _ (HW.out _)).mono ?_;rintro e w1 ⟨rfl,b1⟩;have f_w1:=bl_blk b1 (blk_new w #[.slice A f.classes.length a,.slice B f.methods.length b] 25);have v0w1:∀o,(w1.alloc o).cell? ⟨w.heap.size,0,none⟩=some (.slice A f.classes.length a):=(fun o=>(cell_blk (bl_blk ((Bl.refl w1).alloc o) f_w1)).trans rfl);have v1w1:∀o,(w1.alloc o).cell? ⟨w.heap.size,1,none⟩=some (.slice B f.methods.length b):=(fun o=>(cell_blk (bl_blk ((Bl.refl w1).alloc o) f_w1)).trans rfl);have B1:=hid ((HW.out _).trans b1);clear b1 f_w1))
 go_ret
 exact ⟨rfl,B2.out.alloc _⟩
theorem sl_ok (f:Fi) (A B R I:Option Addr) (a b r i:Nat) (entry few more:Int) (args input:List Int) (w:World) (s t:Sh) (L:Lon s t few) (h1:0≤few) (h2:few≤more) (h3:more≤3000)
  (hS:∀w',Bl w w'→Calls Tryz.prog 12 #[filV f.classes.length f.methods.length A B a b,.int .i64 entry,.slice R args.length r,.slice I input.length i,.int .i64 few] w' fun e w2=>RunEnd w' s e w2)
  (hT:∀w',Bl w w'→Calls Tryz.prog 12 #[filV f.classes.length f.methods.length A B a b,.int .i64 entry,.slice R args.length r,.slice I input.length i,.int .i64 more] w' fun e w2=>RunEnd w' t e w2) :
  Calls Tryz.prog 3 #[filV f.classes.length f.methods.length A B a b,.int .i64 entry,.slice R args.length r,.slice I input.length i,.int .i64 few,.int .i64 more] w fun e w'=>e=.returned (.bool true)∧Bl w w':=by
 have HS:=hid hS
 have HT:=hid hT
 have HL:=hid L
 have HW:Hid (∀o,Bl w (w.alloc o)):=fun o=>(Bl.refl w).alloc o
 clear hS hT L
 go_enter Tryz.func3,Tryz.ntmps3
 go_wp2_with (first
  | (have:=B1;go_at_call 12;refine (HT.out _ (B1.out.alloc _)).mono ?_;rintro e w2 ⟨vy,rfl,oy,b2⟩;obtain ⟨Y,yc,rfl,ry⟩:=row_at oy;have q2:=bl_blk b2 (blk_new w1 #[.int .i64 s.fin,.int .i64 s.value,.int .i64 s.cls,.slice X s.out.length xc,.int .i64 s.used,.int .i64 s.steps] 28);have y0:∀o,(w2.alloc o).cell? ⟨w1.heap.size,0,none⟩=some (.int .i64 s.fin):=(fun o=>(cell_blk (bl_blk ((Bl.refl w2).alloc o) q2)).trans rfl);have y1:∀o,(w2.alloc o).cell? ⟨w1.heap.size,1,none⟩=some (.int .i64 s.value):=(fun o=>(cell_blk (bl_blk ((Bl.refl w2).alloc o) q2)).trans rfl);have y2:∀o,(w2.alloc o).cell? ⟨w1.heap.size,2,none⟩=some (.int .i64 s.cls):=(fun o=>(cell_blk (bl_blk ((Bl.refl w2).alloc o) q2)).trans rfl);have y3:∀o,(w2.alloc o).cell? ⟨w1.heap.size,3,none⟩=some (.slice X s.out.length xc):=(fun o=>(cell_blk (bl_blk ((Bl.refl w2).alloc o) q2)).trans rfl);have y4:∀o,(w2.alloc o).cell? ⟨w1.heap.size,4,none⟩=some (.int .i64 s.used):=(fun o=>(cell_blk (bl_blk ((Bl.refl w2).alloc o) q2)).trans rfl);have y5:∀o,(w2.alloc o).cell? ⟨w1.heap.size,5,none⟩=some (.int .i64 s.steps):=(fun o=>(cell_blk (bl_blk ((Bl.refl w2).alloc o) q2)).trans rfl);have B2:=hid ((B1.out.alloc _).trans b2);have RX2:=hid (RX1.out.bl (((Bl.refl w1).alloc _).trans b2));have RY2:=hid ry;clear b2 q2 oy ry)
  | (go_at_call 12;refine (HS.out _ (HW.out _)).mono ?_;rintro e w1 ⟨vx,rfl,ow,b1⟩;obtain ⟨X,xc,rfl,rx⟩:=row_at ow;have f_w1:=bl_blk b1 (blk_new w #[.slice A f.classes.length a,.slice B f.methods.length b] 25);have v0w1:∀o,(w1.alloc o).cell? ⟨w.heap.size,0,none⟩=some (.slice A f.classes.length a):=(fun o=>(cell_blk (bl_blk ((Bl.refl w1).alloc o) f_w1)).trans rfl);have v1w1:∀o,(w1.alloc o).cell? ⟨w.heap.size,1,none⟩=some (.slice B f.methods.length b):=(fun o=>(cell_blk (bl_blk ((Bl.refl w1).alloc o) f_w1)).trans rfl);have B1:=hid ((HW.out _).trans b1);have RX1:=hid rx;clear b1 f_w1 ow rx)
  | (go_at_call 13;refine (longer_yes s t few X Y xc yc _ (RX2.out.bl ((Bl.refl w2).alloc _)) (RY2.out.bl ((Bl.refl w2).alloc _)) HL.out).mono ?_;rintro e w4 ⟨rfl,b4⟩;have B4:=hid ((B2.out.alloc _).trans b4);clear b4))
 go_ret
 exact ⟨rfl,B4.out⟩
theorem refE_fuel {T:Bool} {ms:List Me} {entry few more:Int} {na ni:Nat} (h1:0≤few) (h2:few≤more) (h3:more≤3000):refE T ms entry few na ni=refE T ms entry more na ni:=by
 unfold refE
 have e1:(0≤few∧few≤60000)↔True:=⟨fun _=>trivial,fun _=>by omega⟩
 have e2:(0≤more∧more≤60000)↔True:=⟨fun _=>trivial,fun _=>by omega⟩
 simp only [e1,e2]
theorem sl_walk (f:Fi) (A B R I:Option Addr) (a b r i:Nat) (entry few more:Int) (args input:List Int) (w:World) (hA:ClsAt w A f.classes) (hB:MesAt w B f.methods) (hI:IntsAt w I input) (hR:IntsAt w R args) :
  Calls Tryz.prog 3 #[filV f.classes.length f.methods.length A B a b,.int .i64 entry,.slice R args.length r,.slice I input.length i,.int .i64 few,.int .i64 more] w fun e w'=>e=.returned (.bool true)∧Bl w w':=by
 have HW:Hid (∀o,Bl w (w.alloc o)):=fun o=>(Bl.refl w).alloc o
 by_cases h1:few<0
 ·clear hA hB hI hR
  go_enter Tryz.func3,Tryz.ntmps3
  go_wp2
  go_ret
  exact ⟨rfl,HW.out _⟩
 by_cases h2:more<few
 ·clear hA hB hI hR
  go_enter Tryz.func3,Tryz.ntmps3
  go_wp2
  go_ret
  exact ⟨rfl,HW.out _⟩
 by_cases h3:3000<more
 ·clear hA hB hI hR
  go_enter Tryz.func3,Tryz.ntmps3
  go_wp2
  go_ret
  exact ⟨rfl,HW.out _⟩
 have hMay:∀w',Bl w w'→Calls Tryz.prog 30 #[fiV f.classes.length f.methods.length A B a b] w' fun e w2=>e=.returned (.bool (rfmayB f))∧Bl w' w2:=fun w' hb=>pmay_doc f A B a b w' (hA.bl hb) (hB.bl hb)
 have hbad:∀fuel,refE (rfmayB f) f.methods entry fuel args.length input.length≠0→∀w',Bl w w'→Calls Tryz.prog 12 #[filV f.classes.length f.methods.length A B a b,.int .i64 entry,.slice R args.length r,.slice I input.length i,.int .i64 fuel] w' fun e w2=>e=.returned (.tuple #[.agg #[.int .i64 0,.int .i64 0,.int .i64 0,.slice none 0 0,.int .i64 0,.int .i64 0],.int .i64 (refE (rfmayB f) f.methods entry fuel args.length input.length)])∧Bl w' w2:=fun fuel hE w' hb =>
  rrun_bad f A B R I a b r i entry fuel args input w' _ (fun w2 hb2=>formRun_bad f A B R I a b r i entry fuel args input w2 (hB.bl (hb.trans hb2)) hI.1 hR.1 (fun w3 hb3=>hMay w3 ((hb.trans hb2).trans hb3)) hE)
 have hEE:=refE_fuel (T:=rfmayB f) (ms:=f.methods) (entry:=entry) (na:=args.length) (ni:=input.length) (show 0≤few by omega) (show few≤more by omega) (show more≤3000 by omega)
 by_cases hE:refE (rfmayB f) f.methods entry few args.length input.length=0
 ·have hE2:refE (rfmayB f) f.methods entry more args.length input.length=0:=by rw [←hEE];exact hE
  obtain ⟨e1,e2,e3,e4,e5,e6⟩:=refE_ok hE
  obtain ⟨n,rfl⟩:∃n:Nat,entry=n:=⟨entry.toNat,by omega⟩
  rw [Int.toNat_natCast] at e5 e6
  have hn:n<f.methods.length:=by omega
  have IM0:=start_im f input args few n e1 (mes_ok hB) (ints_ok hI) (ints_ok hR) e3 hn e5 e6
  have L:=run_longer few more (by omega) few.toNat more.toNat (heapC f input few) _ IM0.1 IM0.2 (by unfold Enough;show more-0≤_;omega)
  refine sl_ok f A B R I a b r i (n:Int) few more args input w _ _ L (by omega) (by omega) (by omega) (fun w' hb=>?_) (fun w' hb=>?_)
  ·refine rrun_ok f A B R I a b r i (n:Int) few args input w' _ (fun w2 hb2=>?_)
   have hb3:=hb.trans hb2
   exact formRun_ok f A B R I a b r i n few args input w2 (hA.bl hb3) (hB.bl hb3) (hI.bl hb3) (hR.bl hb3) (fun w3 hb4=>hMay w3 (hb3.trans hb4)) hE
  ·refine rrun_ok f A B R I a b r i (n:Int) more args input w' _ (fun w2 hb2=>?_)
   have hb3:=hb.trans hb2
   exact formRun_ok f A B R I a b r i n more args input w2 (hA.bl hb3) (hB.bl hb3) (hI.bl hb3) (hR.bl hb3) (fun w3 hb4=>hMay w3 (hb3.trans hb4)) hE2
 ·have h:=hbad more (by rw [←hEE];exact hE)
  rw [←hEE] at h
  exact sl_bad f A B R I a b r i entry few more args input w _ hE (by omega) (by omega) (by omega) (hbad few hE) h
end Go.Proofs.YtgiiapenmjollabGreat
