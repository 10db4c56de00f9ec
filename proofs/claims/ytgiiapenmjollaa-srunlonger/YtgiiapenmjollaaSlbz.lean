import Derived.Test.YtgiiapenmjollaaSlbu
import Derived.Test.YtgiiapenmjollaaSlby
import Derived.Test.YtgiiapenmjollaaChecked
import Derived.KernelRfl
import Derived.ProofKit
import Derived.OpenShut
import Derived.ReadAgain
namespace Go.Proofs.Ytgiiapenmjollaa
set_option linter.all false
set_option maxHeartbeats 40000000
open Go.RowKit
theorem pre_nth {k l:List Int} (h:k <+: l) {i:Nat} (hi:i<k.length):nth (0:Int) l i=nth (0:Int) k i:=by
 obtain ⟨t,rfl⟩:=h
 have hi':i<(k++t).length:=by simp;omega
 rw [nth_get hi,nth_get hi',List.getElem_append_left hi]
theorem pre_len {k l:List Int} (h:k <+: l):k.length≤l.length:=by
 obtain ⟨t,rfl⟩:=h
 simp
theorem begins_yes (A B:Option Addr) (a b:Nat) (l k:List Int) (w:World) (hA:RowAt w A l) (hB:RowAt w B k) (hp:k <+: l) :
  Calls Try.prog 53 #[.slice A l.length a,.slice B k.length b] w fun e w'=>e=.returned (.bool true)∧Bl w w':=by
 have HA:=hid hA
 have HB:=hid hB
 have hm:=hA.1
 have hm2:=hB.1
 unfold maxLen at hm hm2
 have hl:=pre_len hp
 have HP:=hid hp
 clear hA hB hp
 go_enter Try.func53,Try.ntmps53
 go_wp2
 go_loopw [5] (fun i wr=>∃q:Nat,q≤k.length∧i=.int .i64 q∧Hid (Bl w wr)) (fun i _=>k.length-(intOf i).toNat)
 case atStart=>exact ⟨0,Nat.zero_le _,rfl,Bl.refl _⟩
 case round =>
  obtain ⟨q,hq,rfl,hg⟩:=hrel
  by_cases hql:q<k.length
  ·rcases (HA.out.bl hg.out).2 with z0|⟨b1,o1,rfl,c1⟩
   ·omega
   rcases (HB.out.bl hg.out).2 with z0|⟨b2,o2,rfl,c2⟩
   ·omega
   have x1:=c1 q (by omega)
   have x2:=c2 q hql
   rw [pre_nth HP.out hql] at x1
   clear c1 c2
   go_wp2
   go_quiet (fail)
   go_wp2
   go_roundw
   case rel=>exact ⟨q+1,by omega,by go_num,bl_drewN hg.out _⟩
   case measure=>simp [intOf];omega
  ·obtain rfl:q=k.length:=by omega
   go_wp2
   go_ret
   exact ⟨rfl,hg.out⟩
set_option maxRecDepth 100000 in
theorem longer_yes (s t:Sh) (few:Int) (X Y:Option Addr) (xc yc:Nat) (w:World) (hX:RowAt w X s.out) (hY:RowAt w Y t.out) (L:Lon s t few) :
  Calls Try.prog 30 #[.agg #[.int .i64 s.fin,.int .i64 s.value,.int .i64 s.cls,.slice X s.out.length xc,.int .i64 s.used,.int .i64 s.steps],.agg #[.int .i64 t.fin,.int .i64 t.value,.int .i64 t.cls,.slice Y t.out.length yc,.int .i64 t.used,.int .i64 t.steps],.int .i64 few] w fun e w'=>e=.returned (.bool true)∧Bl w w':=by
 have HW:Hid (∀x y,Bl w ((w.alloc x).alloc y)):=fun _ _=>((Bl.refl w).alloc _).alloc _
 by_cases h0:s.fin=0
 ·obtain ⟨l1,l2,l3⟩:=L.stop h0
  have HB:Hid (∀w',Bl w w'→Calls Try.prog 53 #[.slice Y t.out.length yc,.slice X s.out.length xc] w' fun e w2=>e=.returned (.bool true)∧Bl w' w2):=fun w' hb=>begins_yes Y X yc xc t.out s.out w' (hY.bl hb) (hX.bl hb) l3
  have d0:(s.fin==0)=true:=by simpa using h0
  have d1:(s.steps==few)=true:=by simpa using l1
  clear hX hY L l1 l3 h0
  go_enter Try.func30,Try.ntmps30
  go_wp2_with (go_at_call 53;refine (HB.out _ (HW.out _ _)).mono ?_;rintro e w1 ⟨rfl,b1⟩;replace b1:=hid b1)
  go_ret
  exact ⟨rfl,(HW.out _ _).trans b1.out⟩
 ·have e:=L.same h0
  subst e
  have HB1:Hid (∀w',Bl w w'→Calls Try.prog 53 #[.slice X s.out.length xc,.slice Y s.out.length yc] w' fun e w2=>e=.returned (.bool true)∧Bl w' w2):=fun w' hb=>begins_yes X Y xc yc s.out s.out w' (hX.bl hb) (hY.bl hb) (List.prefix_refl _)
  have HB2:Hid (∀w',Bl w w'→Calls Try.prog 53 #[.slice Y s.out.length yc,.slice X s.out.length xc] w' fun e w2=>e=.returned (.bool true)∧Bl w' w2):=fun w' hb=>begins_yes Y X yc xc s.out s.out w' (hY.bl hb) (hX.bl hb) (List.prefix_refl _)
  obtain ⟨L1,L2⟩:=two_lie w #[.int .i64 s.fin,.int .i64 s.value,.int .i64 s.cls,.slice X s.out.length xc,.int .i64 s.used,.int .i64 s.steps] #[.int .i64 s.fin,.int .i64 s.value,.int .i64 s.cls,.slice Y s.out.length yc,.int .i64 s.used,.int .i64 s.steps] 40 40
  have HL1:=hid L1
  have HL2:=hid L2
  have d0:(s.fin==0)=false:=by simpa using h0
  clear hX hY L h0 L1 L2
  go_enter Try.func30,Try.ntmps30
  go_wp2_with (first
   | (have:=B1;go_at_call 53;refine (HB2.out _ B1.out).mono ?_;rintro e w2 ⟨rfl,b2⟩;have B2:=hid (B1.out.trans b2);clear b2)
   | (go_at_call 53;refine (HB1.out _ (HW.out _ _)).mono ?_;rintro e w1 ⟨rfl,b1⟩;have B1:=hid ((HW.out _ _).trans b1);have x3:w1.cell? ⟨w.heap.size,3,none⟩=some (.slice X s.out.length xc):=(cell_blk (bl_blk b1 HL1.out)).trans rfl;have y3:w1.cell? ⟨w.heap.size+1,3,none⟩=some (.slice Y s.out.length yc):=(cell_blk (bl_blk b1 HL2.out)).trans rfl;clear b1))
  go_ret
  exact ⟨rfl,B2.out⟩
set_option maxRecDepth 100000 in
theorem sl_bad (f:Fi) (A B R I:Option Addr) (a b r i:Nat) (entry few more:Int) (args input:List Int) (w:World) (E:Int) (hE:E≠0) (h1:0≤few) (h2:few≤more) (h3:more≤3000)
  (hS:∀w',Bl w w'→Calls Try.prog 29 #[filV f.classes.length f.methods.length A B a b,.int .i64 entry,.slice R args.length r,.slice I input.length i,.int .i64 few] w' fun e w2=>e=.returned (.tuple #[.agg #[.int .i64 0,.int .i64 0,.int .i64 0,.slice none 0 0,.int .i64 0,.int .i64 0],.int .i64 E])∧Bl w' w2)
  (hT:∀w',Bl w w'→Calls Try.prog 29 #[filV f.classes.length f.methods.length A B a b,.int .i64 entry,.slice R args.length r,.slice I input.length i,.int .i64 more] w' fun e w2=>e=.returned (.tuple #[.agg #[.int .i64 0,.int .i64 0,.int .i64 0,.slice none 0 0,.int .i64 0,.int .i64 0],.int .i64 E])∧Bl w' w2) :
  Calls Try.prog 8 #[filV f.classes.length f.methods.length A B a b,.int .i64 entry,.slice R args.length r,.slice I input.length i,.int .i64 few,.int .i64 more] w fun e w'=>e=.returned (.bool true)∧Bl w w':=by
 have HS:=hid hS
 have HT:=hid hT
 have HW:Hid (∀o,Bl w (w.alloc o)):=fun o=>(Bl.refl w).alloc o
 have hz:(E !=0)=true:=by simpa using hE
 clear hS hT hE
 go_enter Try.func8,Try.ntmps8
 go_wp2_with (first
  | (have:=B1;go_at_call 29;refine (HT.out _ (B1.out.alloc _)).mono ?_;rintro e w2 ⟨rfl,b2⟩;have q2:=bl_blk b2 (blk_new w1 #[.int .i64 0,.int .i64 0,.int .i64 0,.slice none 0 0,.int .i64 0,.int .i64 0] 40);have y0:∀o,(w2.alloc o).cell? ⟨w1.heap.size,0,none⟩=some (.int .i64 0):=(fun o=>(cell_blk (bl_blk ((Bl.refl w2).alloc o) q2)).trans rfl);have y1:∀o,(w2.alloc o).cell? ⟨w1.heap.size,1,none⟩=some (.int .i64 0):=(fun o=>(cell_blk (bl_blk ((Bl.refl w2).alloc o) q2)).trans rfl);have y2:∀o,(w2.alloc o).cell? ⟨w1.heap.size,2,none⟩=some (.int .i64 0):=(fun o=>(cell_blk (bl_blk ((Bl.refl w2).alloc o) q2)).trans rfl);have y3:∀o,(w2.alloc o).cell? ⟨w1.heap.size,3,none⟩=some (.slice none 0 0):=(fun o=>(cell_blk (bl_blk ((Bl.refl w2).alloc o) q2)).trans rfl);have y4:∀o,(w2.alloc o).cell? ⟨w1.heap.size,4,none⟩=some (.int .i64 0):=(fun o=>(cell_blk (bl_blk ((Bl.refl w2).alloc o) q2)).trans rfl);have y5:∀o,(w2.alloc o).cell? ⟨w1.heap.size,5,none⟩=some (.int .i64 0):=(fun o=>(cell_blk (bl_blk ((Bl.refl w2).alloc o) q2)).trans rfl);have B2:=hid ((B1.out.alloc _).trans b2);clear b2 q2)
  | (go_at_call 29;refine (HS.out _ (HW.out _)).mono ?_;rintro e w1 ⟨rfl,b1⟩;have f_w1:=bl_blk b1 (blk_new w #[.slice A f.classes.length a,.slice B f.methods.length b] 36);have v0w1:∀o,(w1.alloc o).cell? ⟨w.heap.size,0,none⟩=some (.slice A f.classes.length a):=(fun o=>(cell_blk (bl_blk ((Bl.refl w1).alloc o) f_w1)).trans rfl);have v1w1:∀o,(w1.alloc o).cell? ⟨w.heap.size,1,none⟩=some (.slice B f.methods.length b):=(fun o=>(cell_blk (bl_blk ((Bl.refl w1).alloc o) f_w1)).trans rfl);have B1:=hid ((HW.out _).trans b1);clear b1 f_w1))
 go_ret
 exact ⟨rfl,B2.out.alloc _⟩
set_option maxRecDepth 100000 in
theorem sl_ok (f:Fi) (A B R I:Option Addr) (a b r i:Nat) (entry few more:Int) (args input:List Int) (w:World) (s t:Sh) (L:Lon s t few) (h1:0≤few) (h2:few≤more) (h3:more≤3000)
  (hS:∀w',Bl w w'→Calls Try.prog 29 #[filV f.classes.length f.methods.length A B a b,.int .i64 entry,.slice R args.length r,.slice I input.length i,.int .i64 few] w' fun e w2=>RunEnd w' s e w2)
  (hT:∀w',Bl w w'→Calls Try.prog 29 #[filV f.classes.length f.methods.length A B a b,.int .i64 entry,.slice R args.length r,.slice I input.length i,.int .i64 more] w' fun e w2=>RunEnd w' t e w2) :
  Calls Try.prog 8 #[filV f.classes.length f.methods.length A B a b,.int .i64 entry,.slice R args.length r,.slice I input.length i,.int .i64 few,.int .i64 more] w fun e w'=>e=.returned (.bool true)∧Bl w w':=by
 have HS:=hid hS
 have HT:=hid hT
 have HL:=hid L
 have HW:Hid (∀o,Bl w (w.alloc o)):=fun o=>(Bl.refl w).alloc o
 clear hS hT L
 go_enter Try.func8,Try.ntmps8
 go_wp2_with (first
  | (have:=B1;go_at_call 29;refine (HT.out _ (B1.out.alloc _)).mono ?_;rintro e w2 ⟨vy,rfl,oy,b2⟩;obtain ⟨Y,yc,rfl,ry⟩:=row_at oy;have q2:=bl_blk b2 (blk_new w1 #[.int .i64 s.fin,.int .i64 s.value,.int .i64 s.cls,.slice X s.out.length xc,.int .i64 s.used,.int .i64 s.steps] 40);have y0:∀o,(w2.alloc o).cell? ⟨w1.heap.size,0,none⟩=some (.int .i64 s.fin):=(fun o=>(cell_blk (bl_blk ((Bl.refl w2).alloc o) q2)).trans rfl);have y1:∀o,(w2.alloc o).cell? ⟨w1.heap.size,1,none⟩=some (.int .i64 s.value):=(fun o=>(cell_blk (bl_blk ((Bl.refl w2).alloc o) q2)).trans rfl);have y2:∀o,(w2.alloc o).cell? ⟨w1.heap.size,2,none⟩=some (.int .i64 s.cls):=(fun o=>(cell_blk (bl_blk ((Bl.refl w2).alloc o) q2)).trans rfl);have y3:∀o,(w2.alloc o).cell? ⟨w1.heap.size,3,none⟩=some (.slice X s.out.length xc):=(fun o=>(cell_blk (bl_blk ((Bl.refl w2).alloc o) q2)).trans rfl);have y4:∀o,(w2.alloc o).cell? ⟨w1.heap.size,4,none⟩=some (.int .i64 s.used):=(fun o=>(cell_blk (bl_blk ((Bl.refl w2).alloc o) q2)).trans rfl);have y5:∀o,(w2.alloc o).cell? ⟨w1.heap.size,5,none⟩=some (.int .i64 s.steps):=(fun o=>(cell_blk (bl_blk ((Bl.refl w2).alloc o) q2)).trans rfl);have B2:=hid ((B1.out.alloc _).trans b2);have RX2:=hid (RX1.out.bl (((Bl.refl w1).alloc _).trans b2));have RY2:=hid ry;clear b2 q2 oy ry)
  | (go_at_call 29;refine (HS.out _ (HW.out _)).mono ?_;rintro e w1 ⟨vx,rfl,ow,b1⟩;obtain ⟨X,xc,rfl,rx⟩:=row_at ow;have f_w1:=bl_blk b1 (blk_new w #[.slice A f.classes.length a,.slice B f.methods.length b] 36);have v0w1:∀o,(w1.alloc o).cell? ⟨w.heap.size,0,none⟩=some (.slice A f.classes.length a):=(fun o=>(cell_blk (bl_blk ((Bl.refl w1).alloc o) f_w1)).trans rfl);have v1w1:∀o,(w1.alloc o).cell? ⟨w.heap.size,1,none⟩=some (.slice B f.methods.length b):=(fun o=>(cell_blk (bl_blk ((Bl.refl w1).alloc o) f_w1)).trans rfl);have B1:=hid ((HW.out _).trans b1);have RX1:=hid rx;clear b1 f_w1 ow rx)
  | (go_at_call 30;refine (longer_yes s t few X Y xc yc _ (RX2.out.bl ((Bl.refl w2).alloc _)) (RY2.out.bl ((Bl.refl w2).alloc _)) HL.out).mono ?_;rintro e w4 ⟨rfl,b4⟩;have B4:=hid ((B2.out.alloc _).trans b4);clear b4))
 go_ret
 exact ⟨rfl,B4.out⟩
theorem refE_fuel {T:Bool} {ms:List Me} {entry few more:Int} {na ni:Nat} (h1:0≤few) (h2:few≤more) (h3:more≤3000):refE T ms entry few na ni=refE T ms entry more na ni:=by
 unfold refE
 have e1:(0≤few∧few≤60000)↔True:=⟨fun _=>trivial,fun _=>by omega⟩
 have e2:(0≤more∧more≤60000)↔True:=⟨fun _=>trivial,fun _=>by omega⟩
 simp only [e1,e2]
theorem sl_walk (f:Fi) (A B R I:Option Addr) (a b r i:Nat) (entry few more:Int) (args input:List Int) (w:World) (hA:ClsAt w A f.classes) (hB:MesAt w B f.methods) (hI:IntsAt w I input) (hR:IntsAt w R args) :
  Calls Try.prog 8 #[filV f.classes.length f.methods.length A B a b,.int .i64 entry,.slice R args.length r,.slice I input.length i,.int .i64 few,.int .i64 more] w fun e w'=>e=.returned (.bool true)∧Bl w w':=by
 have HW:Hid (∀o,Bl w (w.alloc o)):=fun o=>(Bl.refl w).alloc o
 by_cases h1:few<0
 ·clear hA hB hI hR
  go_enter Try.func8,Try.ntmps8
  go_wp2
  go_ret
  exact ⟨rfl,HW.out _⟩
 by_cases h2:more<few
 ·clear hA hB hI hR
  go_enter Try.func8,Try.ntmps8
  go_wp2
  go_ret
  exact ⟨rfl,HW.out _⟩
 by_cases h3:3000<more
 ·clear hA hB hI hR
  go_enter Try.func8,Try.ntmps8
  go_wp2
  go_ret
  exact ⟨rfl,HW.out _⟩
 have hMay:∀w',Bl w w'→Calls Try.prog 27 #[fiV f.classes.length f.methods.length A B a b] w' fun e w2=>e=.returned (.bool (smayB f))∧Bl w' w2:=fun w' hb=>smay_any f A B a b w' (hA.bl hb) (hB.bl hb)
 have hbad:∀fuel,refE (smayB f) f.methods entry fuel args.length input.length≠0→∀w',Bl w w'→Calls Try.prog 29 #[filV f.classes.length f.methods.length A B a b,.int .i64 entry,.slice R args.length r,.slice I input.length i,.int .i64 fuel] w' fun e w2=>e=.returned (.tuple #[.agg #[.int .i64 0,.int .i64 0,.int .i64 0,.slice none 0 0,.int .i64 0,.int .i64 0],.int .i64 (refE (smayB f) f.methods entry fuel args.length input.length)])∧Bl w' w2:=fun fuel hE w' hb =>
  srun_bad f A B R I a b r i entry fuel args input w' _ (fun w2 hb2=>formRun_bad f A B R I a b r i entry fuel args input w2 (hB.bl (hb.trans hb2)) hI.1 hR.1 (fun w3 hb3=>hMay w3 ((hb.trans hb2).trans hb3)) hE)
 have hEE:=refE_fuel (T:=smayB f) (ms:=f.methods) (entry:=entry) (na:=args.length) (ni:=input.length) (show 0≤few by omega) (show few≤more by omega) (show more≤3000 by omega)
 by_cases hE:refE (smayB f) f.methods entry few args.length input.length=0
 ·have hE2:refE (smayB f) f.methods entry more args.length input.length=0:=by rw [←hEE];exact hE
  obtain ⟨e1,e2,e3,e4,e5,e6⟩:=refE_ok hE
  obtain ⟨n,rfl⟩:∃n:Nat,entry=n:=⟨entry.toNat,by omega⟩
  rw [Int.toNat_natCast] at e5 e6
  have hn:n<f.methods.length:=by omega
  have IM0:=start_im f input args few n e1 (mes_ok hB) (ints_ok hI) (ints_ok hR) e3 hn e5 e6
  have L:=run_longer few more (by omega) few.toNat more.toNat (heapC f input few) _ IM0.1 IM0.2 (by unfold Enough;show more-0≤_;omega)
  refine sl_ok f A B R I a b r i (n:Int) few more args input w _ _ L (by omega) (by omega) (by omega) (fun w' hb=>?_) (fun w' hb=>?_)
  ·refine srun_ok f A B R I a b r i (n:Int) few args input w' _ (fun w2 hb2=>?_)
   have hb3:=hb.trans hb2
   exact formRun_ok f A B R I a b r i n few args input w2 (hA.bl hb3) (hB.bl hb3) (hI.bl hb3) (hR.bl hb3) (fun w3 hb4=>hMay w3 (hb3.trans hb4)) hE
  ·refine srun_ok f A B R I a b r i (n:Int) more args input w' _ (fun w2 hb2=>?_)
   have hb3:=hb.trans hb2
   exact formRun_ok f A B R I a b r i n more args input w2 (hA.bl hb3) (hB.bl hb3) (hI.bl hb3) (hR.bl hb3) (fun w3 hb4=>hMay w3 (hb3.trans hb4)) hE2
 ·have h:=hbad more (by rw [←hEE];exact hE)
  rw [←hEE] at h
  exact sl_bad f A B R I a b r i entry few more args input w _ hE (by omega) (by omega) (by omega) (hbad few hE) h
section
open Go.ChangeShapes Go.WideShapes Go.ChangeAt Go.RowKit Go.Deep
theorem cellsTy:Try.prog.cellsOf 54=2:=by kernel_rfl
theorem cellsCl:Try.prog.cellsOf 48=2:=by kernel_rfl
theorem cellsTys:Try.prog.cellsOf 46=1:=by kernel_rfl
theorem cellsInt:Try.prog.cellsOf 3=1:=by kernel_rfl
theorem take_one {cs:List Value} {o:Nat} {v:Value} (h:(cs.drop o).take 1=[v]):cs[o]?=some v:=by
 have h1:((cs.drop o).take 1)[0]?=some v:=by rw [h];rfl
 simpa [List.getElem?_take,List.getElem?_drop] using h1
section
variable {H:Type} {enc:TypeId×Value→H} {w:World} {base:Nat} {spare:Nat→Bool} {held:Bool}
theorem fld_int {t:TypeId} {P:Program} {fuel o:Nat} {cs:List Value} {y:Option (DataW H×List MemPlace)} (ht:P.underlying t=some (.int .i64)) (hc:P.cellsOf t=1) (hy:y≠none)
  (h:DataW.trod enc P w base spare held fuel t ((cs.drop o).take (P.cellsOf t))=y):∃n,cs[o]?=some (.int .i64 n)∧I64 n:=by
 obtain ⟨x,rfl⟩:=Option.ne_none_iff_exists'.1 hy
 obtain ⟨n,hn,-,hw⟩:=DataW.trod_int ht h
 rw [hc] at hn
 exact ⟨n,take_one hn,bounds_i64 hw⟩
theorem open_row {E:Type} (d:E) {R:E→List Value→Prop} {P:Program} {t e:TypeId} {s fuel:Nat} {cs:List Value} {x:DataW H×List MemPlace}
  (ht:P.underlying t=some (.slice e)) (hs:P.cellsOf e=s) (h0:0<s)
  (he:∀(fuel:Nat) (cs:List Value) (x:DataW H×List MemPlace),DataW.trod enc P w base spare held fuel e cs=some x→∃z:E,R z cs)
  (h:DataW.trod enc P w base spare held fuel t cs=some x) :
  ∃(A:Option Addr) (l:List E) (c:Nat),cs=[.slice A l.length c]∧l.length≤maxLen∧(l.length=0∨∃b off,A=some ⟨b,off,none⟩ ∧
   ∀i,i<l.length→∃vs,R (nth d l i) vs∧∀j,j<s→w.cell? ⟨b,off+i*s+j,none⟩=vs[j]?):=by
 rcases open_slice ht h with ⟨rfl,-⟩|⟨a,len,cap,m,n,D,Pl,rfl,hb,hl,hm,hmm,-,hx⟩
 ·exact ⟨none,[],0,rfl,Nat.zero_le _,Or.inl rfl⟩
 have hlm:len≤m:=by rw [hmm];split<;>omega
 rw [hs] at hx
 obtain ⟨f,hf⟩:=@choose_lt E ⟨d⟩ len ( fun i z=>∃vs,R z vs∧vs.length=s∧∀j,j<s→w.cell? ((a.add (i*s)).add j)=vs[j]?) (fun i hi=>by
  obtain ⟨cs',h1,h2⟩:=hx i (by omega)
  obtain ⟨z,hz⟩:=he _ _ _ h2
  obtain ⟨-,hlen,hcell⟩:=World.cells?_some h1
  exact ⟨z,cs',hz,hlen,hcell⟩)
 refine ⟨some a,(List.range len).map f,cap,by simp,by simp;omega,?_⟩
 simp only [List.length_map,List.length_range]
 by_cases hz:len=0
 ·exact Or.inl hz
 right
 obtain ⟨b,off,spot⟩:=a
 have hspot:spot=none:=by
  obtain ⟨vs,-,hlen,hcell⟩:=hf 0 (by omega)
  have g:=hcell 0 h0
  rw [List.getElem?_eq_getElem (by omega)] at g
  simpa [Addr.add] using World.cell?_spot g
 subst hspot
 refine ⟨b,off,rfl,fun i hi=>?_⟩
 obtain ⟨vs,hR,-,hcell⟩:=hf i hi
 refine ⟨vs,?_,fun j hj=>?_⟩
 ·have:nth d ((List.range len).map f) i=f i:=by rw [nth_get (by simpa using hi)];simp
  rw [this];exact hR
 ·have:=hcell j hj
  rw [add_add,add_plain,←Nat.add_assoc] at this
  exact this
theorem open_ty {fuel:Nat} {cs:List Value} {x:DataW H×List MemPlace} (h:DataW.trod enc Try.prog w base spare held fuel 54 cs=some x) :
  ∃t:Ty,(cs[0]?=some (.int .i64 t.kind)∧cs[1]?=some (.int .i64 t.cls))∧I64 t.kind∧I64 t.cls:=by
 obtain ⟨xs,n,rfl,rfl,hl,hn,hf⟩:=DataW.trod_struct Try.underlying54 h
 have hn':xs.length=2:=hn
 obtain ⟨k,h0,w0⟩:=fld_int Try.underlying3 cellsInt (by simp [hn']) (hf 0 _ rfl)
 obtain ⟨c,h1,w1⟩:=fld_int Try.underlying3 cellsInt (by simp [hn']) (hf 1 _ rfl)
 exact ⟨⟨k,c⟩,⟨h0,h1⟩,w0,w1⟩
theorem open_tys {fuel:Nat} {cs:List Value} {x:DataW H×List MemPlace} (h:DataW.trod enc Try.prog w base spare held fuel 46 cs=some x) :
  ∃(A:Option Addr) (l:List Ty) (c:Nat),cs=[.slice A l.length c]∧TysAt w A l:=by
 obtain ⟨A,l,c,rfl,hm,hr⟩:=open_row ty0 Try.underlying46 cellsTy (by omega) (fun _ _ _=>open_ty) h
 rcases hr with h0|⟨b,off,rfl,hi⟩
 ·exact ⟨A,l,c,rfl,hm,Or.inl h0⟩
 refine ⟨_,l,c,rfl,hm,Or.inr ⟨b,off,rfl,fun i hlt=>?_⟩⟩
 obtain ⟨vs,⟨⟨h0,h1⟩,w0,w1⟩,hc⟩:=hi i hlt
 exact ⟨(hc 0 (by omega)).trans h0,(hc 1 (by omega)).trans h1,w0,w1⟩
theorem fld_tys {fuel o:Nat} {cs:List Value} {y:Option (DataW H×List MemPlace)} (hy:y≠none)
  (h:DataW.trod enc Try.prog w base spare held fuel 46 ((cs.drop o).take (Try.prog.cellsOf 46))=y):∃(A:Option Addr) (l:List Ty) (c:Nat),cs[o]?=some (.slice A l.length c)∧TysAt w A l:=by
 obtain ⟨x,rfl⟩:=Option.ne_none_iff_exists'.1 hy
 obtain ⟨A,l,c,hn,hT⟩:=open_tys h
 rw [cellsTys] at hn
 exact ⟨A,l,c,take_one hn,hT⟩
theorem open_cl {fuel:Nat} {cs:List Value} {x:DataW H×List MemPlace} (h:DataW.trod enc Try.prog w base spare held fuel 48 cs=some x) :
  ∃t:Cl,cs[0]?=some (.int .i64 t.super)∧I64 t.super∧∃A c,cs[1]?=some (.slice A t.fields.length c)∧TysAt w A t.fields:=by
 obtain ⟨xs,n,rfl,rfl,hl,hn,hf⟩:=DataW.trod_struct Try.underlying48 h
 have hn':xs.length=2:=hn
 obtain ⟨k,h0,w0⟩:=fld_int Try.underlying3 cellsInt (by simp [hn']) (hf 0 _ rfl)
 obtain ⟨A,l,c,h1,w1⟩:=fld_tys (by simp [hn']) (hf 1 _ rfl)
 exact ⟨⟨k,l⟩,h0,w0,A,c,h1,w1⟩
theorem open_cls {fuel:Nat} {cs:List Value} {x:DataW H×List MemPlace} (h:DataW.trod enc Try.prog w base spare held fuel 29 cs=some x) :
  ∃(A:Option Addr) (l:List Cl) (c:Nat),cs=[.slice A l.length c]∧ClsAt w A l:=by
 obtain ⟨A,l,c,rfl,hm,hr⟩:=open_row cl0 Try.underlying29 cellsCl (by omega) (fun _ _ _=>open_cl) h
 rcases hr with h0|⟨b,off,rfl,hi⟩
 ·exact ⟨A,l,c,rfl,hm,Or.inl h0⟩
 refine ⟨_,l,c,rfl,hm,Or.inr ⟨b,off,rfl,fun i hlt=>?_⟩⟩
 obtain ⟨vs,⟨h0,w0,A',c',h1,w1⟩,hc⟩:=hi i hlt
 exact ⟨(hc 0 (by omega)).trans h0,w0,A',c',(hc 1 (by omega)).trans h1,w1⟩
end
end
section
open Go.ChangeShapes Go.WideShapes Go.ChangeAt Go.RowKit Go.Deep
theorem cellsLong:Try.prog.cellsOf 2=1:=by kernel_rfl
theorem cellsInts:Try.prog.cellsOf 49=1:=by kernel_rfl
theorem cellsIn:Try.prog.cellsOf 51=6:=by kernel_rfl
theorem cellsIns:Try.prog.cellsOf 52=1:=by kernel_rfl
theorem cellsHd:Try.prog.cellsOf 87=4:=by kernel_rfl
theorem cellsHds:Try.prog.cellsOf 55=1:=by kernel_rfl
theorem cellsMe:Try.prog.cellsOf 57=8:=by kernel_rfl
theorem cellsMes:Try.prog.cellsOf 34=1:=by kernel_rfl
theorem cellsCls:Try.prog.cellsOf 29=1:=by kernel_rfl
theorem cellsFi:Try.prog.cellsOf 36=2:=by kernel_rfl
section
variable {H:Type} {enc:TypeId×Value→H} {w:World} {base:Nat} {spare:Nat→Bool} {held:Bool}
theorem open_ints' {fuel:Nat} {cs:List Value} {x:DataW H×List MemPlace} (h:DataW.trod enc Try.prog w base spare held fuel 49 cs=some x) :
  ∃(A:Option Addr) (l:List Int) (c:Nat),cs=[.slice A l.length c]∧IntsAt w A l:=by
 obtain ⟨A,l,c,rfl,hm,hr⟩:=open_row (0:Int) (R:=fun (n:Int) cs=>cs[0]?=some (.int .i64 n)∧I64 n) Try.underlying49 cellsInt (by omega)
  (fun _ _ _ hh=>by obtain ⟨n,rfl,-,hw⟩:=DataW.trod_int Try.underlying3 hh;exact ⟨n,rfl,bounds_i64 hw⟩) h
 rcases hr with h0|⟨b,off,rfl,hi⟩
 ·exact ⟨A,l,c,rfl,hm,Or.inl h0⟩
 refine ⟨_,l,c,rfl,hm,Or.inr ⟨b,off,rfl,fun i hlt=>?_⟩⟩
 obtain ⟨vs,⟨h0,w0⟩,hc⟩:=hi i hlt
 have:=(hc 0 (by omega)).trans h0
 rw [Nat.mul_one,Nat.add_zero] at this
 exact ⟨this,w0⟩
theorem open_in {fuel:Nat} {cs:List Value} {x:DataW H×List MemPlace} (h:DataW.trod enc Try.prog w base spare held fuel 51 cs=some x) :
  ∃t:In,cs[0]?=some (.int .i64 t.op)∧cs[1]?=some (.int .i64 t.a)∧cs[2]?=some (.int .i64 t.b)∧cs[3]?=some (.int .i64 t.c)∧cs[4]?=some (.int .i64 t.n)∧t.ok
   ∧ ∃A c,cs[5]?=some (.slice A t.args.length c)∧IntsAt w A t.args:=by
 obtain ⟨xs,n,rfl,rfl,hl,hn,hf⟩:=DataW.trod_struct Try.underlying51 h
 have hn':xs.length=6:=hn
 obtain ⟨k0,h0,w0⟩:=fld_int Try.underlying3 cellsInt (by simp [hn']) (hf 0 _ rfl)
 obtain ⟨k1,h1,w1⟩:=fld_int Try.underlying3 cellsInt (by simp [hn']) (hf 1 _ rfl)
 obtain ⟨k2,h2,w2⟩:=fld_int Try.underlying3 cellsInt (by simp [hn']) (hf 2 _ rfl)
 obtain ⟨k3,h3,w3⟩:=fld_int Try.underlying3 cellsInt (by simp [hn']) (hf 3 _ rfl)
 obtain ⟨k4,h4,w4⟩:=fld_int Try.underlying2 cellsLong (by simp [hn']) (hf 4 _ rfl)
 obtain ⟨y,hy⟩:=Option.ne_none_iff_exists'.1 (show xs[5]?≠none by simp [hn'])
 have h5:=hf 5 _ rfl
 rw [hy] at h5
 obtain ⟨A,l,c,hn,hT⟩:=open_ints' h5
 exact ⟨⟨k0,k1,k2,k3,k4,l⟩,h0,h1,h2,h3,h4,⟨w0,w1,w2,w3,w4⟩,A,c,take_one (cellsInts▸hn),hT⟩
theorem open_ins {fuel:Nat} {cs:List Value} {x:DataW H×List MemPlace} (h:DataW.trod enc Try.prog w base spare held fuel 52 cs=some x) :
  ∃(A:Option Addr) (l:List In) (c:Nat),cs=[.slice A l.length c]∧InsAt w A l:=by
 obtain ⟨A,l,c,rfl,hm,hr⟩:=open_row in0 Try.underlying52 cellsIn (by omega) (fun _ _ _=>open_in) h
 rcases hr with h0|⟨b,off,rfl,hi⟩
 ·exact ⟨A,l,c,rfl,hm,Or.inl h0⟩
 refine ⟨_,l,c,rfl,hm,Or.inr ⟨b,off,rfl,fun i hlt=>?_⟩⟩
 obtain ⟨vs,⟨h0,h1,h2,h3,h4,w0,A',c',h5,w1⟩,hc⟩:=hi i hlt
 exact ⟨(hc 0 (by omega)).trans h0,(hc 1 (by omega)).trans h1,(hc 2 (by omega)).trans h2,(hc 3 (by omega)).trans h3,(hc 4 (by omega)).trans h4,w0,A',c',(hc 5 (by omega)).trans h5,w1⟩
theorem open_hd {fuel:Nat} {cs:List Value} {x:DataW H×List MemPlace} (h:DataW.trod enc Try.prog w base spare held fuel 87 cs=some x) :
  ∃t:Hd,cs[0]?=some (.int .i64 t.fr)∧cs[1]?=some (.int .i64 t.til)∧cs[2]?=some (.int .i64 t.pc)∧cs[3]?=some (.int .i64 t.cls)∧t.ok:=by
 obtain ⟨xs,n,rfl,rfl,hl,hn,hf⟩:=DataW.trod_struct Try.underlying87 h
 have hn':xs.length=4:=hn
 obtain ⟨k0,h0,w0⟩:=fld_int Try.underlying3 cellsInt (by simp [hn']) (hf 0 _ rfl)
 obtain ⟨k1,h1,w1⟩:=fld_int Try.underlying3 cellsInt (by simp [hn']) (hf 1 _ rfl)
 obtain ⟨k2,h2,w2⟩:=fld_int Try.underlying3 cellsInt (by simp [hn']) (hf 2 _ rfl)
 obtain ⟨k3,h3,w3⟩:=fld_int Try.underlying3 cellsInt (by simp [hn']) (hf 3 _ rfl)
 exact ⟨⟨k0,k1,k2,k3⟩,h0,h1,h2,h3,w0,w1,w2,w3⟩
theorem open_hds {fuel:Nat} {cs:List Value} {x:DataW H×List MemPlace} (h:DataW.trod enc Try.prog w base spare held fuel 55 cs=some x) :
  ∃(A:Option Addr) (l:List Hd) (c:Nat),cs=[.slice A l.length c]∧HdsAt w A l:=by
 obtain ⟨A,l,c,rfl,hm,hr⟩:=open_row hd0 Try.underlying55 cellsHd (by omega) (fun _ _ _=>open_hd) h
 rcases hr with h0|⟨b,off,rfl,hi⟩
 ·exact ⟨A,l,c,rfl,hm,Or.inl h0⟩
 refine ⟨_,l,c,rfl,hm,Or.inr ⟨b,off,rfl,fun i hlt=>?_⟩⟩
 obtain ⟨vs,⟨h0,h1,h2,h3,w0⟩,hc⟩:=hi i hlt
 exact ⟨(hc 0 (by omega)).trans h0,(hc 1 (by omega)).trans h1,(hc 2 (by omega)).trans h2,(hc 3 (by omega)).trans h3,w0⟩
theorem open_me {fuel:Nat} {cs:List Value} {x:DataW H×List MemPlace} (h:DataW.trod enc Try.prog w base spare held fuel 57 cs=some x) :
  ∃t:Me,∃P C K p c k,cs[0]?=some (.slice P t.params.length p)∧cs[1]?=some (.int .i64 t.ret.kind)∧cs[2]?=some (.int .i64 t.ret.cls)∧cs[3]?=some (.int .i64 t.stack)∧cs[4]?=some (.int .i64 t.locs)∧cs[5]?=some (.int .i64 t.regs)
   ∧ cs[6]?=some (.slice C t.code.length c)∧cs[7]?=some (.slice K t.hands.length k)∧MeAt w t P C K:=by
 obtain ⟨xs,n,rfl,rfl,hl,hn,hf⟩:=DataW.trod_struct Try.underlying57 h
 have hn':xs.length=7:=hn
 obtain ⟨P,lp,p,h0,w0⟩:=fld_tys (by simp [hn']) (hf 0 _ rfl)
 obtain ⟨k2,h2,w2⟩:=fld_int Try.underlying3 cellsInt (by simp [hn']) (hf 2 _ rfl)
 obtain ⟨k3,h3,w3⟩:=fld_int Try.underlying3 cellsInt (by simp [hn']) (hf 3 _ rfl)
 obtain ⟨k4,h4,w4⟩:=fld_int Try.underlying3 cellsInt (by simp [hn']) (hf 4 _ rfl)
 obtain ⟨y,hy⟩:=Option.ne_none_iff_exists'.1 (show xs[5]?≠none by simp [hn'])
 have h5:=hf 5 _ rfl
 rw [hy] at h5
 obtain ⟨C,lc,c,hn5,hT5⟩:=open_ins h5
 obtain ⟨y,hy⟩:=Option.ne_none_iff_exists'.1 (show xs[6]?≠none by simp [hn'])
 have h6:=hf 6 _ rfl
 rw [hy] at h6
 obtain ⟨K,lk,k,hn6,hT6⟩:=open_hds h6
 obtain ⟨y,hy⟩:=Option.ne_none_iff_exists'.1 (show xs[1]?≠none by simp [hn'])
 have h1:=hf 1 _ rfl
 rw [hy] at h1
 obtain ⟨r,⟨hr0,hr1⟩,v0,v1⟩:=open_ty h1
 have hr0':((cs.drop 1).take (Try.prog.cellsOf 54))[0]?=some (.int .i64 r.kind):=hr0
 have hr1':((cs.drop 1).take (Try.prog.cellsOf 54))[1]?=some (.int .i64 r.cls):=hr1
 rw [cellsTy] at hr0' hr1'
 refine ⟨⟨lp,r,k2,k3,k4,lc,lk⟩,P,C,K,p,c,k,h0,?_,?_,h2,h3,h4,take_one (cellsIns▸hn5),take_one (cellsHds▸hn6),w0,hT5,hT6,v0,v1,w2,w3,w4⟩
 ·simpa [List.getElem?_take,List.getElem?_drop] using hr0'
 ·simpa [List.getElem?_take,List.getElem?_drop] using hr1'
theorem open_mes {fuel:Nat} {cs:List Value} {x:DataW H×List MemPlace} (h:DataW.trod enc Try.prog w base spare held fuel 34 cs=some x) :
  ∃(A:Option Addr) (l:List Me) (c:Nat),cs=[.slice A l.length c]∧MesAt w A l:=by
 obtain ⟨A,l,c,rfl,hm,hr⟩:=open_row me0 Try.underlying34 cellsMe (by omega) (fun _ _ _=>open_me) h
 rcases hr with h0|⟨b,off,rfl,hi⟩
 ·exact ⟨A,l,c,rfl,hm,Or.inl h0⟩
 refine ⟨_,l,c,rfl,hm,Or.inr ⟨b,off,rfl,fun i hlt=>?_⟩⟩
 obtain ⟨vs,⟨P,C,K,p,c,k,h0,h1,h2,h3,h4,h5,h6,h7,w1⟩,hc⟩:=hi i hlt
 exact ⟨P,C,K,p,c,k,(hc 0 (by omega)).trans h0,(hc 1 (by omega)).trans h1,(hc 2 (by omega)).trans h2,(hc 3 (by omega)).trans h3,(hc 4 (by omega)).trans h4,(hc 5 (by omega)).trans h5,(hc 6 (by omega)).trans h6,(hc 7 (by omega)).trans h7,w1⟩
set_option maxRecDepth 100000 in
theorem open_file {fuel:Nat} {cs:List Value} {x:DataW H×List MemPlace} (h:DataW.trod enc Try.prog w base spare held fuel 36 cs=some x) :
  ∃(f:Fi) (A B:Option Addr) (a b:Nat),cs=[.slice A f.classes.length a,.slice B f.methods.length b]∧ClsAt w A f.classes∧MesAt w B f.methods:=by
 obtain ⟨xs,n,rfl,rfl,hl,hn,hf⟩:=DataW.trod_struct Try.underlying36 h
 have hn':xs.length=2:=hn
 rw [cellsFi] at hl
 obtain ⟨y,hy⟩:=Option.ne_none_iff_exists'.1 (show xs[0]?≠none by simp [hn'])
 have h0:=hf 0 _ rfl
 rw [hy] at h0
 obtain ⟨A,l,a,hA,hT⟩:=open_cls h0
 obtain ⟨y,hy⟩:=Option.ne_none_iff_exists'.1 (show xs[1]?≠none by simp [hn'])
 have h1:=hf 1 _ rfl
 rw [hy] at h1
 obtain ⟨B,m,b,hB,hM⟩:=open_mes h1
 have e0:cs[0]?=some (.slice A l.length a):=take_one (cellsCls▸hA)
 have e1:cs[1]?=some (.slice B m.length b):=take_one (cellsMes▸hB)
 match cs,hl with
 | [u,v],_ =>
  simp at e0 e1
  subst e0 e1
  exact ⟨⟨l,m⟩,A,B,a,b,rfl,hT,hM⟩
end
end
section
open Go.ChangeShapes Go.WideShapes Go.ChangeAt Go.RowKit Go.Deep
variable {H:Type} {enc:TypeId×Value→H} {w:World} {base:Nat} {spare:Nat→Bool} {held:Bool}
theorem open_longs {fuel:Nat} {cs:List Value} {x:DataW H×List MemPlace} (h:DataW.trod enc Try.prog w base spare held fuel 38 cs=some x) :
  ∃(A:Option Addr) (l:List Int) (c:Nat),cs=[.slice A l.length c]∧IntsAt w A l:=by
 obtain ⟨A,l,c,rfl,hm,hr⟩:=open_row (0:Int) (R:=fun (n:Int) cs=>cs[0]?=some (.int .i64 n)∧I64 n) Try.underlying38 cellsLong (by omega)
  (fun _ _ _ hh=>by obtain ⟨n,rfl,-,hw⟩:=DataW.trod_int Try.underlying2 hh;exact ⟨n,rfl,bounds_i64 hw⟩) h
 rcases hr with h0|⟨b,off,rfl,hi⟩
 ·exact ⟨A,l,c,rfl,hm,Or.inl h0⟩
 refine ⟨_,l,c,rfl,hm,Or.inr ⟨b,off,rfl,fun i hlt=>?_⟩⟩
 obtain ⟨vs,⟨h0,w0⟩,hc⟩:=hi i hlt
 have:=(hc 0 (by omega)).trans h0
 rw [Nat.mul_one,Nat.add_zero] at this
 exact ⟨this,w0⟩
end
end Go.Proofs.Ytgiiapenmjollaa
