import Derived.Test.YtimjmdfokicbkaaSlac
import Derived.Test.YtimjmdfokicbkaaSlag
import Derived.Test.YtimjmdfokicbkaaSlaj
import Derived.Test.YtimjmdfokicbkaaSlam
import Derived.Test.YtimjmdfokicbkaaSlao
import Derived.Deep.RegionLaw
namespace Go.Proofs.Ytimjmdfokicbkaa
set_option linter.unusedVariables false
set_option linter.unusedSimpArgs false
set_option maxHeartbeats 40000000
open Go.RowKit
theorem width_any (k:Int) (w:World) :
  Calls Try.prog 81 #[.int .i64 k] w fun e w'=>e=.returned (.int .i64 (widI k))∧w'=w:=by
 by_cases h0:k=0
 ·subst h0
  go_enter Try.func81,Try.ntmps81
  go_wp2
  go_ret
  exact ⟨rfl,rfl⟩
 by_cases h2:k=2
 ·subst h2
  go_enter Try.func81,Try.ntmps81
  go_wp2
  go_ret
  exact ⟨rfl,rfl⟩
 have hk:widI k=1:=by unfold widI;rw [if_neg h0,if_neg h2]
 rw [hk]
 clear hk
 go_enter Try.func81,Try.ntmps81
 go_wp2
 go_ret
 exact ⟨rfl,rfl⟩
theorem slots_any (A:Option Addr) (c:Nat) (F:List Ty) (w:World) (hl:TysAt w A F) (hb:F.length≤1000000) (hk:∀k,k<F.length→(nth ty0 F k).kind≠0) :
  Calls Try.prog 63 #[.slice A F.length c] w fun e w'=>e=.returned (.int .i64 (slotsN F:Nat))∧Bl w w':=by
 obtain ⟨hm,hl⟩:=hl
 clear hm
 have HS:Hid (∀k,k<F.length→slotsN (F.take (k+1))=slotsN (F.take k)+(if (nth ty0 F k).kind=2 then 2 else 1)):=slotsN_take F
 have HB:Hid (∀k,slotsN (F.take k)≤2*k):=fun k=>by have:=slotsN_le (F.take k);have:=List.length_take_le k F;omega
 have HK:Hid (∀k,k<F.length→(nth ty0 F k).kind≠0):=hk
 clear hk
 go_enter Try.func63,Try.ntmps63
 go_wp2
 go_loopw [3,8] (fun n i wr=>∃k:Nat,k≤F.length∧i=.int .i64 k∧n=.int .i64 ((slotsN (F.take k):Nat):Int)∧Hid (Bl w wr)) (fun _ i _=>F.length-(intOf i).toNat)
 case atStart=>exact ⟨0,Nat.zero_le _,rfl,by simp [slotsN],Bl.refl _⟩
 case round =>
  obtain ⟨k,hk,rfl,rfl,hg⟩:=hrel
  have h2:=HB.out k
  by_cases hlt:k<F.length
  ·rcases hl with h0|⟨b,off,rfl,hcell⟩
   ·omega
   have ht:=hg.out.cell (hcell k hlt).1
   have ht':=hg.out.cell (hcell k hlt).2.1
   have hs:=HS.out k hlt
   have hw:((slotsN (F.take (k+1)):Nat):Int)=((slotsN (F.take k):Nat):Int)+widI (nth ty0 F k).kind:=by
    have:=HK.out k hlt
    rw [hs];unfold widI;rw [if_neg this];split<;>simp
   have hwb:=widI_bounds (nth ty0 F k).kind
   have HS':Hid (((slotsN (F.take (k+1)):Nat):Int)=((slotsN (F.take k):Nat):Int)+widI (nth ty0 F k).kind):=hw
   clear hcell hs hw
   generalize hW:widI (nth ty0 F k).kind=W at *
   go_wp2_with (go_at_call 81;refine (width_any _ _).mono ?_;rintro e w1 ⟨he,rfl⟩;rw [hW] at he;subst he)
   go_roundw
   case rel=>exact ⟨k+1,by omega,by go_num,by rw [HS'.out],hg.out.alloc _⟩
   case measure=>simp [intOf];omega
  ·obtain rfl:k=F.length:=by omega
   rw [List.take_length] at *
   go_wp2
   go_ret
   exact ⟨rfl,hg.out⟩
theorem tys_one {w:World} {k c:Int} {t:TypeId} (hk:I64 k) (hc:I64 c):TysAt (w.alloc (.cells #[.int .i64 k,.int .i64 c] t)) (some ⟨w.heap.size,0,none⟩) [⟨k,c⟩]:=by
 refine ⟨by unfold maxLen;simp,Or.inr ⟨_,_,rfl,fun i hi=>?_⟩⟩
 obtain rfl:i=0:=by simpa using hi
 exact ⟨cell_of_new rfl,cell_of_new rfl,hk,hc⟩
theorem tys_two {w:World} {k c:Int} {t:TypeId} {o:Obj} (hk:I64 k) (hc:I64 c):TysAt ((w.alloc o).alloc (.cells #[.int .i64 k,.int .i64 c] t)) (some ⟨w.heap.size+1,0,none⟩) [⟨k,c⟩]:=by
 have:=tys_one (w:=w.alloc o) (t:=t) hk hc
 rwa [World.size_alloc] at this
theorem mayRet_any (k x:Int) (n:Nat) (w:World) (hk:I64 k) (hx:I64 x) :
  Calls Try.prog 61 #[.agg #[.int .i64 k,.int .i64 x],.int .i64 n] w fun e w'=>e=.returned (.bool (retB n ⟨k,x⟩))∧Bl w w':=by
 by_cases h:k=0∧x=0
 ·obtain ⟨rfl,rfl⟩:=h
  go_enter Try.func61,Try.ntmps61
  go_wp2
  go_ret
  exact ⟨rfl,(Bl.refl _).alloc _⟩
 ·have hb:retB n ⟨k,x⟩=tyB n ⟨k,x⟩:=by unfold retB;rw [decide_eq_false h];simp
  rw [hb]
  by_cases h0:k=0
  ·subst h0
   have hx0:(x==0)=false:=by simp;omega
   have hx1:x≠0:=by omega
   go_enter Try.func61,Try.ntmps61
   go_wp2_with (go_at_call 59;refine (mayTypes_any (some ⟨w.heap.size+1,0,none⟩) n 1 [⟨0,x⟩] _ (tys_two hk hx)).mono ?_;rintro e w1 ⟨rfl,hg1⟩)
   go_ret
   exact ⟨ret_bool (by simp),(((Bl.refl _).alloc _).alloc _).trans hg1⟩
  ·have hk0:(k==0)=false:=by simp;omega
   go_enter Try.func61,Try.ntmps61
   go_wp2_with (go_at_call 59;refine (mayTypes_any (some ⟨w.heap.size+1,0,none⟩) n 1 [⟨k,x⟩] _ (tys_two hk hx)).mono ?_;rintro e w1 ⟨rfl,hg1⟩)
   go_ret
   exact ⟨ret_bool (by simp),(((Bl.refl _).alloc _).alloc _).trans hg1⟩
theorem mayHandler_any (h:Hd) (n nc:Nat) (w:World) :
  Calls Try.prog 80 #[.agg #[.int .i64 h.fr,.int .i64 h.til,.int .i64 h.pc,.int .i64 h.cls],.int .i64 n,.int .i64 nc] w fun e w'=>e=.returned (.bool (hdB nc n h))∧Bl w w':=by
 obtain ⟨fr,til,pc,cls⟩:=h
 by_cases t1:0≤fr∧fr<til
 ·have d1:decide (0≤fr∧fr<til)=true:=decide_eq_true t1
  by_cases t2:til≤n
  ·by_cases t3:0≤pc∧pc<n
   ·have d3:decide (0≤pc∧pc<(n:Int))=true:=decide_eq_true t3
    have hb:hdB nc n ⟨fr,til,pc,cls⟩=decide (0≤cls∧cls<(nc:Int)):=by
     unfold hdB;rw [Bool.eq_iff_iff,decide_eq_true_eq,decide_eq_true_eq];dsimp only;omega
    rw [hb]
    clear hb
    go_enter Try.func80,Try.ntmps80
    go_wp2_with (go_at_call 58;refine (numbers_any _ _ _).mono ?_;rintro e w1 ⟨he,rfl⟩;(first|rw [d1] at he|rw [d3] at he|skip);subst he)
    go_ret
    exact ⟨ret_bool (by simp),(Bl.refl _).alloc _⟩
   ·have d3:decide (0≤pc∧pc<(n:Int))=false:=decide_eq_false t3
    have hb:hdB nc n ⟨fr,til,pc,cls⟩=false:=by
     unfold hdB;rw [decide_eq_false_iff_not];dsimp only;omega
    rw [hb]
    clear hb
    go_enter Try.func80,Try.ntmps80
    go_wp2_with (go_at_call 58;refine (numbers_any _ _ _).mono ?_;rintro e w1 ⟨he,rfl⟩;(first|rw [d1] at he|rw [d3] at he|skip);subst he)
    go_ret
    exact ⟨rfl,(Bl.refl _).alloc _⟩
  ·have hb:hdB nc n ⟨fr,til,pc,cls⟩=false:=by
    unfold hdB;rw [decide_eq_false_iff_not];dsimp only;omega
   rw [hb]
   clear hb
   go_enter Try.func80,Try.ntmps80
   go_wp2_with (go_at_call 58;refine (numbers_any _ _ _).mono ?_;rintro e w1 ⟨he,rfl⟩;(first|rw [d1] at he|skip);subst he)
   go_ret
   exact ⟨rfl,(Bl.refl _).alloc _⟩
 ·have d1:decide (0≤fr∧fr<til)=false:=decide_eq_false t1
  have hb:hdB nc n ⟨fr,til,pc,cls⟩=false:=by
   unfold hdB;rw [decide_eq_false_iff_not];dsimp only;omega
  rw [hb]
  clear hb
  go_enter Try.func80,Try.ntmps80
  go_wp2_with (go_at_call 58;refine (numbers_any _ _ _).mono ?_;rintro e w1 ⟨he,rfl⟩;(first|rw [d1] at he|skip);subst he)
  go_ret
  exact ⟨rfl,(Bl.refl _).alloc _⟩
def handsB (nc:Nat) (m:Me):Bool:=decide (m.hands.length≤8)&&m.hands.all (hdB nc m.code.length)
def mhB (nc:Nat) (m:Me):Bool:=decide (m.params.length≤4)&&(m.params.all (tyB nc)&&(retB nc m.ret&&handsB nc m))
def roomB (m:Me):Bool:=decide (m.regs=0)&&(decide (0≤m.stack∧m.stack≤30)&&decide ((slotsN m.params:Int)≤m.locs∧m.locs≤60))
def codeB (cs:List Cl) (nm:Nat) (m:Me):Bool:=decide (1≤(m.code.length:Int)∧(m.code.length:Int)≤400)&&m.code.all (sinB cs nm m.code.length m.locs)
theorem sme_parts (cs:List Cl) (nm:Nat) (m:Me):smeB cs nm m=(mhB cs.length m&&(roomB m&&codeB cs nm m)):=by
 rw [Bool.eq_iff_iff]
 simp only [smeB,headB,mhB,roomB,codeB,handsB,Bool.and_eq_true,decide_eq_true_eq]
 constructor
 ·rintro ⟨⟨⟨⟨⟨⟨a,b,c,d⟩,e⟩,f⟩,g⟩,h,i,j,k,l⟩,o⟩
  exact ⟨⟨a,e,g,b,f⟩,⟨h,⟨i,j⟩,k,l⟩,⟨by omega,d⟩,o⟩
 ·rintro ⟨⟨a,e,g,b,f⟩,⟨h,⟨i,j⟩,k,l⟩,⟨c,d⟩,o⟩
  exact ⟨⟨⟨⟨⟨⟨a,b,by omega,d⟩,e⟩,f⟩,g⟩,h,i,j,k,l⟩,o⟩
theorem mayHandlers_any (m : Me) (P C K : Option Addr) (p c k nc : Nat) (w : World) (hK : HdsAt w K m.hands) :
    Calls Try.prog 62 #[meV m P C K p c k, .int .i64 nc] w fun e w' => e = .returned (.bool (handsB nc m)) ∧ Bl w w' := by
  obtain ⟨hkm, hK⟩ := hK
  unfold maxLen at hkm
  by_cases h8 : m.hands.length ≤ 8
  · have hb : handsB nc m = m.hands.all (hdB nc m.code.length) := by unfold handsB; rw [decide_eq_true h8]; rfl
    rw [hb]
    clear hb
    have HG : Hid ((∀ q, q < m.hands.length → hdB nc m.code.length (nth hd0 m.hands q) = true) → m.hands.all (hdB nc m.code.length) = true) := all_good
    have HB : Hid (∀ q, q < m.hands.length → hdB nc m.code.length (nth hd0 m.hands q) = false → m.hands.all (hdB nc m.code.length) = false) := fun q => all_bad
    obtain ⟨R, hR⟩ : ∃ R, m.hands.all (hdB nc m.code.length) = R := ⟨_, rfl⟩
    rw [hR] at HG HB ⊢
    clear hR
    go_enter Try.func62, Try.ntmps62
    go_wp2
    go_loopw [14] (fun i wr => ∃ q : Nat, q ≤ m.hands.length ∧ i = .int .i64 q ∧ Hid (∀ j, j < q → hdB nc m.code.length (nth hd0 m.hands j) = true) ∧ Hid (Bl w wr) ∧ wr.cell? ⟨w.heap.size, 6, none⟩ = some (.slice C m.code.length c)) (fun i _ => m.hands.length - (intOf i).toNat)
    case atStart => exact ⟨0, Nat.zero_le _, rfl, fun j hj => absurd hj (Nat.not_lt_zero _), (Bl.refl _).alloc _, cell_of_new rfl⟩
    case round =>
      obtain ⟨q, hq, rfl, hgq, hg, h6⟩ := hrel
      by_cases hql : q < m.hands.length
      · rcases hK with h0 | ⟨b, off, rfl, hcell⟩
        · omega
        obtain ⟨g0, g1, g2, g3, -⟩ := hcell q hql
        replace g0 := hg.out.cell g0
        replace g1 := hg.out.cell g1
        replace g2 := hg.out.cell g2
        replace g3 := hg.out.cell g3
        have q6 : ∀ o, (wr.alloc o).cell? ⟨w.heap.size, 6, none⟩ = some (.slice C m.code.length c) := fun o => ((Bl.refl wr).alloc o).cell h6
        clear hcell HG
        cases hT : hdB nc m.code.length (nth hd0 m.hands q)
        · have HF := HB.out q hql hT
          clear HB
          go_wp2_with (go_at_call 80; refine (mayHandler_any (nth hd0 m.hands q) _ _ _).mono ?_; rintro e w1 ⟨he, hg1⟩; rw [hT] at he; subst he)
          go_ret
          exact ⟨ret_bool HF.symm, (hg.out.alloc _).trans hg1⟩
        · have HT1 : Hid (hdB nc m.code.length (nth hd0 m.hands q) = true) := hT
          clear HB
          go_wp2_with (go_at_call 80; refine (mayHandler_any (nth hd0 m.hands q) _ _ _).mono ?_; rintro e w1 ⟨he, hg1⟩; rw [hT] at he; subst he)
          go_roundw
          case rel => exact ⟨q + 1, by omega, by go_num, fun j hj => if h : j < q then hgq.out j h else by have : j = q := by omega
                                                                                                           subst this; exact HT1.out, (hg.out.alloc _).trans hg1, hg1.cell (q6 _)⟩
          case measure => simp [intOf]; omega
      · have hkk : q = m.hands.length := by omega
        subst hkk
        have HF := HG.out hgq.out
        clear HG hK
        go_wp2
        go_ret
        exact ⟨ret_bool HF.symm, hg.out⟩
  · have hb : handsB nc m = false := by unfold handsB; rw [decide_eq_false h8]; rfl
    rw [hb]
    clear hb
    go_enter Try.func62, Try.ntmps62
    go_wp2
    go_ret
    exact ⟨rfl, (Bl.refl _).alloc _⟩
def MeCells (w:World) (b:Nat) (m:Me) (P C K:Option Addr) (p c k:Nat):Prop :=
 w.cell? ⟨b,0,none⟩=some (.slice P m.params.length p)∧w.cell? ⟨b,1,none⟩=some (.int .i64 m.ret.kind)∧w.cell? ⟨b,2,none⟩=some (.int .i64 m.ret.cls)
  ∧ w.cell? ⟨b,3,none⟩=some (.int .i64 m.stack)∧w.cell? ⟨b,4,none⟩=some (.int .i64 m.locs)∧w.cell? ⟨b,5,none⟩=some (.int .i64 m.regs)
  ∧ w.cell? ⟨b,6,none⟩=some (.slice C m.code.length c)∧w.cell? ⟨b,7,none⟩=some (.slice K m.hands.length k)
theorem MeCells.bl {w w':World} (h:Bl w w') {b:Nat} {m:Me} {P C K:Option Addr} {p c k:Nat} (hb:MeCells w b m P C K p c k):MeCells w' b m P C K p c k :=
 ⟨h.cell hb.1,h.cell hb.2.1,h.cell hb.2.2.1,h.cell hb.2.2.2.1,h.cell hb.2.2.2.2.1,h.cell hb.2.2.2.2.2.1,h.cell hb.2.2.2.2.2.2.1,h.cell hb.2.2.2.2.2.2.2⟩
abbrev meO (m:Me) (P C K:Option Addr) (p c k:Nat):Obj:=.cells #[.slice P m.params.length p,.int .i64 m.ret.kind,.int .i64 m.ret.cls,.int .i64 m.stack,.int .i64 m.locs,.int .i64 m.regs,.slice C m.code.length c,.slice K m.hands.length k] 57
theorem MeCells.new (w:World) (m:Me) (P C K:Option Addr) (p c k:Nat):MeCells (w.alloc (meO m P C K p c k)) w.heap.size m P C K p c k :=
 ⟨cell_of_new rfl,cell_of_new rfl,cell_of_new rfl,cell_of_new rfl,cell_of_new rfl,cell_of_new rfl,cell_of_new rfl,cell_of_new rfl⟩
theorem mayHead_any (m:Me) (P C K:Option Addr) (p c k nc:Nat) (w:World) (hm:MeAt w m P C K) :
  Calls Try.prog 44 #[meV m P C K p c k,.int .i64 nc] w fun e w'=>e=.returned (.bool (mhB nc m))∧Bl w w':=by
 have HM:Hid (MeAt w m P C K):=hm
 have hpm:=hm.1.1
 have hr:=hm.2.2.2
 unfold maxLen at hpm
 clear hm
 have hal:Bl w (w.alloc (meO m P C K p c k)):=(Bl.refl _).alloc _
 have hbox:=MeCells.new w m P C K p c k
 by_cases h4:m.params.length≤4
 ·cases hp:m.params.all (tyB nc)
  ·have hb:mhB nc m=false:=by unfold mhB;rw [hp,Bool.false_and,Bool.and_false]
   rw [hb]
   clear hb
   have HAL:Hid (Bl w (w.alloc (meO m P C K p c k))):=hal
   clear hal hbox
   go_enter Try.func44,Try.ntmps44
   go_wp2_with (go_at_call 59;refine (mayTypes_any _ _ _ _ _ (HM.out.1.bl HAL.out)).mono ?_;rintro e w1 ⟨he,hg1⟩;rw [hp] at he;subst he)
   go_ret
   exact ⟨rfl,HAL.out.trans hg1⟩
  ·cases hq:retB nc ⟨m.ret.kind,m.ret.cls⟩
   ·have hb:mhB nc m=false:=by unfold mhB;rw [show retB nc m.ret=false from hq,Bool.false_and,Bool.and_false,Bool.and_false]
    rw [hb]
    clear hb
    have HAL:Hid (Bl w (w.alloc (meO m P C K p c k))):=hal
    have HBOX:Hid (MeCells (w.alloc (meO m P C K p c k)) w.heap.size m P C K p c k):=hbox
    clear hal hbox
    go_enter Try.func44,Try.ntmps44
    go_wp2_with (first
     | (go_at_call 59;refine (mayTypes_any _ _ _ _ _ (HM.out.1.bl HAL.out)).mono ?_;rintro e w1 ⟨he,hg1⟩;rw [hp] at he;subst he;obtain ⟨-,b1,b2,-⟩:=HBOX.out.bl hg1)
     | (go_at_call 61;refine (mayRet_any _ _ _ _ hr.1 hr.2.1).mono ?_;rintro e w2 ⟨he,hg2⟩;rw [hq] at he;subst he))
    go_ret
    exact ⟨rfl,(HAL.out.trans hg1).trans hg2⟩
   ·have hb:mhB nc m=handsB nc m:=by unfold mhB;rw [decide_eq_true h4,hp,show retB nc m.ret=true from hq];rfl
    rw [hb]
    clear hb
    have HAL:Hid (Bl w (w.alloc (meO m P C K p c k))):=hal
    have HBOX:Hid (MeCells (w.alloc (meO m P C K p c k)) w.heap.size m P C K p c k):=hbox
    clear hal hbox
    go_enter Try.func44,Try.ntmps44
    go_wp2_with (first
     | (go_at_call 59;refine (mayTypes_any _ _ _ _ _ (HM.out.1.bl HAL.out)).mono ?_;rintro e w1 ⟨he,hg1⟩;rw [hp] at he;subst he;obtain ⟨-,b1,b2,-⟩:=HBOX.out.bl hg1)
     | (go_at_call 61;refine (mayRet_any _ _ _ _ hr.1 hr.2.1).mono ?_;rintro e w2 ⟨he,hg2⟩;rw [hq] at he;subst he;obtain ⟨e0,e1,e2,e3,e4,e5,e6,e7⟩:=HBOX.out.bl (hg1.trans hg2))
     | (go_at_call 62;refine (mayHandlers_any m _ _ _ _ _ _ _ _ (HM.out.2.2.1.bl ((HAL.out.trans hg1).trans hg2))).mono ?_;rintro e w3 ⟨he,hg3⟩;subst he))
    go_ret
    exact ⟨rfl,((HAL.out.trans hg1).trans hg2).trans hg3⟩
 ·have hb:mhB nc m=false:=by unfold mhB;rw [decide_eq_false h4];rfl
  rw [hb]
  clear hb hbox
  go_enter Try.func44,Try.ntmps44
  go_wp2
  go_ret
  exact ⟨rfl,hal⟩
theorem info_mv3:(Try.prog.info? 110).map (fun i=>(i.zero,i.size,i.bytes))=some (some (.agg #[.int .i64 0,.int .i64 0]),2,16):=by kernel_rfl
theorem RXA.push {s:Nat} {X:Nat→Prop} {wx w0 w w2:World} {g:Mg} {h:Hp} {qs:List Nat} {a:Mc} {c:Cal} {vc vo vx vs v':Value} {l:List Va} (H:RXA s X wx w0 g w h qs a c vc vo vx vs l) (hg:w.grownBy w2 vs.ownBlock) {v:Va} (hv:1≤v.kind∧v.kind≤3)
  (ho:w2.ownsRow w0.heap.size 110 2 v' (c.stk.length+1) (vaCells (c.stk.map im)++vaCells [im v])) (hat:v'.ownBlock=vs.ownBlock∨∀b,v'.ownBlock=some b→w.heap.size≤b) :
  RXA s X wx w0 g (w2.setCell ⟨a.q,12,none⟩ v') h qs a (c.put v) vc vo vx v' l:=by
 have R:=H.rh
 have C:=H.ca
 have hrow:∀b,vs.ownBlock=some b→w0.heap.size≤b:=fun b e=>(C.stk.lt b e).1
 obtain ⟨fq,fl,fs⟩:=C.far R
 have n1:vs.ownBlock≠some a.q:=own_far C.stk C.blk (by decide)
 have hq2:=grown_blk hg C.blk n1
 have hl2:=grown_blk hg C.loc C.apart
 have hg2:=grown_set (w:=w2) a.q 12 v'
 have hql:a.q≠a.lb:=blk_ne C.blk C.loc (by decide)
 have e1:(c.put v).stk.length=c.stk.length+1:=by simp [Cal.put]
 have e2:vaCells ((c.put v).stk.map im)=vaCells (c.stk.map im)++vaCells [im v]:=by rw [←vaCells_append];simp [Cal.put]
 have hap:∀b,v'.ownBlock=some b→b≠a.lb∧¬X b:=fun b e=>by
  rcases hat with q|q
  ·rw [q] at e
   exact ⟨fun z=>C.apart (by rw [←z];exact e),fun hx=>(H.farc b hx).s e⟩
  ·have h1:=q b e
   have h2:=lt_some C.loc
   refine ⟨by omega,fun hx=>?_⟩
   have:=(H.kept.blk b hx).1;have:=H.kept.size;omega
 refine ⟨(R.kept hg (fun b e=>⟨hrow b e,fs b e⟩)).kept hg2 (fun b e=>by cases e;exact ⟨C.own,fq⟩),⟨C.own,C.ownl,?_,?_,C.rel,?_,fun e=>(hap _ e).1 rfl,C.me,C.short,?_⟩,H.farr,fun b hx=>⟨(H.farc b hx).q,(H.farc b hx).l,fun e=>(hap b e).2 hx⟩,?_⟩
 ·rw [block_set hq2];rfl
 ·exact grown_blk hg2 hl2 (fun e=>hql (Option.some.inj e))
 ·rw [e1,e2]
  exact ho.kept hg2 (Or.inr (own_far ho hq2 (by decide)))
 ·intro u hu
  simp only [Cal.put,List.mem_append,List.mem_singleton] at hu
  rcases hu with hu|rfl
  ·exact C.kinds u hu
  ·exact hv
 ·exact (H.kept.kept hg (fun b e hx=>(H.farc b hx).s e)).kept hg2 (fun b e hx=>by cases e;exact (H.farc _ hx).q rfl)
theorem wid_siz {v:Va} (h:1≤v.kind∧v.kind≤3):widI v.kind=if v.kind=2 then 2 else 1:=by
 unfold widI
 split<;>(try split)<;>(try split)<;>omega
theorem sizP_im (l:List Va):sizP (l.map im)=sizP l:=by
 induction l with
 | nil=>rfl
 | cons x l ih =>
  have e:(im x).kind=x.kind:=rfl
  simp only [List.map_cons,sizP,ih,e]
theorem sizP_le2 (l:List Va):sizP l≤2*l.length:=by
 induction l with
 | nil=>simp [sizP]
 | cons t l ih=>simp only [sizP,List.length_cons];split<;>omega
theorem sizP_takeS (l:List Va) (k:Nat) (h:k<l.length):sizP (l.take (k+1))=sizP (l.take k)+(if (nth va0 l k).kind=2 then 2 else 1):=by
 induction l generalizing k with
 | nil=>simp at h
 | cons t l ih =>
  cases k with
  | zero=>simp [sizP,nth]
  | succ k =>
   have:=ih k (by simpa using h)
   have e:nth va0 (t::l) (k+1)=nth va0 l k:=by simp [nth]
   rw [e,List.take_succ_cons,List.take_succ_cons,sizP,sizP,this];omega
theorem stk_read {w0 w:World} {g:Mg} {a:Mc} {c:Cal} {v:Va} {l:List Va} {gb cp:Nat} (H:CA w0 g w a (c.put v) l (.slice (some ⟨gb,0,none⟩) (c.stk.length+1) cp)) :
  ∀k,k<c.stk.length+1→w.cell? ⟨gb,k*2,none⟩=some (.int .i64 (nth va0 (c.stk++[v]) k).kind)∧w.cell? ⟨gb,k*2+1,none⟩=some (.int .i64 (im (nth va0 (c.stk++[v]) k)).n)∧1≤(nth va0 (c.stk++[v]) k).kind∧(nth va0 (c.stk++[v]) k).kind≤3:=by
 intro k hk
 have hl:(c.stk++[v]).length=c.stk.length+1:=by simp
 have hkl:k<(c.stk++[v]).length:=by omega
 have hm:(nth va0 (c.stk++[v]) k)∈(c.put v).stk:=nth_mem hkl
 have hkd:=H.kinds _ hm
 rcases H.stk.2 with ⟨h0,-⟩|⟨g',cap',cur,hv,h2,h3,h4,h5,h6,h7⟩
 ·simp at h0
 ·simp only [Value.slice.injEq,Option.some.injEq,Addr.mk.injEq] at hv
  obtain ⟨⟨rfl,-⟩,-,rfl⟩:=hv
  have e1:(c.put v).stk=c.stk++[v]:=rfl
  have hx:=va_cells ((c.stk++[v]).map im) k (by simpa using hk)
  have e2:nth va0 ((c.stk++[v]).map im) k=im (nth va0 (c.stk++[v]) k):=by
   rw [nth_get (l:=(c.stk++[v]).map im) (by rw [List.length_map];exact hkl),nth_get hkl,List.getElem_map]
  rw [e2,←e1,←h7,List.getElem?_take,List.getElem?_take,e1,hl,if_pos (by omega),if_pos (by omega)] at hx
  refine ⟨?_,?_,hkd⟩
  ·rw [cell_blk h3]
   have hx1:cur[k*2]?=some (.int .i64 (im (nth va0 (c.stk++[v]) k)).kind):=by simpa using hx.1
   exact hx1
  ·rw [cell_blk h3];simpa using hx.2
set_option maxRecDepth 100000 in
theorem mput_any (s:Nat) (X:Nat→Prop) (wx w0:World) (g:Mg) (h:Hp) (qs:List Nat) (a:Mc) (c:Cal) (v:Va) (w:World) (H:RX s X wx w0 g w h qs a c) (hv:1≤v.kind∧v.kind≤3) (hs:c.stk.length≤1000) :
  Calls Try.prog 94 #[.pointer (some ⟨a.q,0,none⟩),mvV (im v)] w fun e w'=>e=(if (sizP (c.stk++[v]):Int)≤c.m.stack then .returned (.tuple #[]) else stopE 6 0 0)∧RX s X wx w0 g w' h qs a (c.put v):=by
 obtain ⟨i0,hi0,hz0,hz1,hz2⟩:=info_parts info_mv3
 have hbs:=H.size
 obtain ⟨vc,vo,vx,vs,l,H⟩:=H
 have HV:=hid hv
 obtain ⟨A,cap,hvs,h1,h2⟩:=own_form H.ca.stk
 subst hvs
 have HH:=hid (H.bl ((Bl.refl w).alloc (mvO (im v))))
 have HL:=hid (blk_new w #[.int .i64 (im v).kind,.int .i64 (im v).n] 110)
 have x0:=c0_of HL.out
 have x1:=c1_of HL.out
 have HX1:=H.ca.stk
 have c12:=HH.out.ca.cells.c12
 have fz:=HH.out.ca.free
 have hq:=lt_some H.ca.blk
 have HO:=hid HH.out.ca.stk
 have HP:=hid (HH.out.ca.blk)
 have HNB:Hid ((Value.slice A c.stk.length cap).ownBlock≠some w.heap.size):=fun e=>by have:=row_lt HX1 e;omega
 have HNH:=hid (own_far HO.out HP.out (by decide))
 clear H HX1 hv
 go_enter Try.func94,Try.ntmps94
 go_wp2
 go_region_law ((refine step_append_lies _ (by rfl) _ _ _ (by rfl) w0.heap.size 110 i0 _ 2 16 Try.underlying90 hi0 hz0 hz1 hz2 rfl (by omega) (.slice A c.stk.length cap) c.stk.length (vaCells (c.stk.map im)) (by rfl) ((HO.out.alloc _).drew) ⟨w.heap.size+1,0,none⟩ 1 1 [.int .i64 (im v).kind,.int .i64 (im v).n] (by rfl) (by rfl) (World.news_of_block (cs:=#[.int .i64 (im v).kind,.int .i64 (im v).n]) (t:=110) (fr:=(0,0)) (by rw [←lt_sz w (mvO (im v))];exact blk_new _ _ _)) (by simp [Value.oneCell']) (by omega) (by unfold maxLen;omega) (by omega) (by simp;omega) _ rfl ?_;intro gb cp w1 hown hgrow hat hlt1;have hp2:=grown_blk hgrow ((Below.heap_alloc _ _ _ (lt_some HP.out)).trans HP.out) HNH.out;have hb2:=grown_blk hgrow ((Below.heap_alloc _ _ _ (lt_some HL.out)).trans HL.out) HNB.out;have q12:w1.cell? ⟨a.q,12,none⟩=some (.slice A c.stk.length cap):=(cell_blk hp2).trans rfl;have z12:=free_blk hp2 12;have y0:=c0_of hb2;have y1:=c1_of hb2;have hql:=lt_some hp2;replace hown:=hid hown;replace hgrow:=hid hgrow;replace hat:=hid hat;clear hb2 hp2))
 all_goals
  obtain ⟨W,hW⟩:∃W,W=w1.setCell ⟨a.q,12,none⟩ (.slice (some ⟨gb,0,none⟩) (c.stk.length+1) cp):=⟨_,rfl⟩
  have HA:RXA s X wx w0 g W h qs a (c.put v) vc vo vx (.slice (some ⟨gb,0,none⟩) (c.stk.length+1) cp) l:=by
   rw [hW]
   exact RXA.push (HH.out.bl (((Bl.refl _).alloc _).drew)) hgrow.out HV.out hown.out (hat.out.elim (fun e=>Or.inl e.symm) (fun e=>Or.inr fun b hb=>Nat.le_of_eq (e.symm.trans (by simpa [Value.ownBlock] using hb))))
  rw [←hW]
  clear hW
  have k12:=HA.ca.cells.c12
  have k5:=HA.ca.cells.c5
  have VR:Hid (∀k,k<c.stk.length+1→W.cell? ⟨gb,k*2,none⟩=some (.int .i64 (nth va0 (c.stk++[v]) k).kind)∧W.cell? ⟨gb,k*2+1,none⟩=some (.int .i64 (im (nth va0 (c.stk++[v]) k)).n)∧1≤(nth va0 (c.stk++[v]) k).kind∧(nth va0 (c.stk++[v]) k).kind≤3):=stk_read HA.ca
  replace HA:=hid HA
  clear hown hgrow hat q12 z12 y0 y1 hql hlt1 w1
  have hsz:∀k,sizP ((c.stk++[v]).take k)≤2*k:=fun k=>by
   have:=sizP_le2 ((c.stk++[v]).take k)
   have:=List.length_take_le k (c.stk++[v])
   omega
  have HSZ:=hid hsz
  clear hsz
  obtain ⟨N,hN⟩:∃N,c.stk.length+1=N:=⟨_,rfl⟩
  have hN1:N≤1001:=by omega
  have HST:Hid ((c.stk++[v]).length=N):=by show (c.stk++[v]).length=N;rw [←hN];simp
  rw [hN] at k12 VR HA ⊢
  clear hN
  go_wp2
  go_loopw [4,22] (fun u i wr=>∃k:Nat,k≤N∧i=.int .i64 k∧u=.int .i64 ((sizP ((c.stk++[v]).take k):Nat):Int)∧Bl W wr) (fun _ i _=>N-(intOf i).toNat)
  case atStart=>exact ⟨0,Nat.zero_le _,rfl,by simp [sizP],Bl.refl _⟩
  case round =>
   obtain ⟨k,hk,rfl,rfl,hbl⟩:=hrel
   have h2:=HSZ.out k
   by_cases hlt:k<N
   ·obtain ⟨r0,r1,r2⟩:=VR.out k hlt
    replace r0:=hbl.cell r0
    replace r1:=hbl.cell r1
    have hgb:=cell_lt r0
    have HS1:=hid (sizP_takeS (c.stk++[v]) k (by rw [HST.out];exact hlt))
    have HW:=hid (wid_siz r2)
    have hk0:(0:Int)≤(k:Int):=by omega
    have hk1:(k:Int)<(N:Int):=by omega
    generalize nth va0 (c.stk++[v]) k=u at *
    obtain ⟨z,hz⟩:∃z,sizP ((c.stk++[v]).take k)=z:=⟨_,rfl⟩
    rw [hz] at HS1 h2
    have HBL:=hid hbl
    have HZ:=hid hz
    rw [hz]
    clear r2 hz hbl
    go_wp2_with (go_at_call 81;refine (width_any _ _).mono ?_;rintro e w2 ⟨he,hw⟩;rw [HW.out] at he;subst he;rw [hw];clear hw w2)
    by_cases hu2:u.kind=2
    ·rw [if_pos hu2] at HS1 ⊢
     go_wp2
     go_roundw
     case rel=>exact ⟨k+1,by omega,by go_num,by rw [HS1.out];go_num,HBL.out.alloc _⟩
     case measure=>simp [intOf];omega
    ·rw [if_neg hu2] at HS1 ⊢
     go_wp2
     go_roundw
     case rel=>exact ⟨k+1,by omega,by go_num,by rw [HS1.out];go_num,HBL.out.alloc _⟩
     case measure=>simp [intOf];omega
   ·have hkN:k=N:=by omega
    subst hkN
    have hfull:(c.stk++[v]).take k=c.stk++[v]:=List.take_of_length_le (Nat.le_of_eq HST.out)
    rw [hfull] at h2 ⊢
    have HA2:=HA.out.bl hbl
    have m5:wr.cell? ⟨a.q,5,none⟩=some (.int .i64 c.m.stack):=HA2.ca.cells.c5
    have HA2:=hid HA2
    clear k5 k12
    by_cases hroom:(sizP (c.stk++[v]):Int)≤c.m.stack
    ·have HRm:=hid hroom
     have hd:decide (c.m.stack<(sizP (c.stk++[v]):Int))=false:=by simpa using hroom
     go_wp2
     go_end0
     exact ⟨rfl,_,_,_,_,_,HA2.out⟩
    ·have HRm:=hid hroom
     have hd:decide (c.m.stack<(sizP (c.stk++[v]):Int))=true:=by simpa using hroom
     go_wp2_with (go_at_call 86;refine (mstuck_any _).mono ?_;rintro e w1 ⟨rfl,hw⟩;rw [hw];clear hw w1)
     exact ⟨rfl,rfl,_,_,_,_,_,HA2.out⟩
def DidE (d:Did):Ending:=if d.h.over=true then stopE d.h.sh.fin 0 0 else if 0≤d.h.thrown then thrE d.h.thrown else .returned (.tuple #[])
structure DidQ (X:Nat→Prop) (wx w0:World) (g:Mg) (qs:List Nat) (a:Mc) (c:Cal) (d:Did) (e:Ending) (w':World):Prop where
 how:e=DidE d
 stop:d.h.stops=true→RS 0 X wx w0 g w' d.h qs a c
 go:d.h.stops=false→RX 0 X wx w0 g w' d.h qs a d.c
theorem RH.less {w0 w:World} {g:Mg} {h:Hp} {qs:List Nat} {vc vo vx:Value} (H:RH 1 w0 g w h qs vc vo vx):RH 0 w0 g w h qs vc vo vx:=by
 obtain ⟨n,D,F⟩:=H.fld
 exact ⟨H.ownr,H.ownh,H.ownm,H.bl,H.run,H.hp,H.out,H.obs,H.calls,n,D,F.own,by have:=F.few;omega,F.hit,F.miss,F.new,F.ks,F.kd⟩
theorem RX.less {X:Nat→Prop} {wx w0 w:World} {g:Mg} {h:Hp} {qs:List Nat} {a:Mc} {c:Cal} (H:RX 1 X wx w0 g w h qs a c):RX 0 X wx w0 g w h qs a c:=by
 obtain ⟨vc,vo,vx,vs,l,H⟩:=H
 exact ⟨vc,vo,vx,vs,l,H.rh.less,H.ca,H.farr,H.farc,H.kept⟩
theorem RS.less {X:Nat→Prop} {wx w0 w:World} {g:Mg} {h:Hp} {qs:List Nat} {a:Mc} {c:Cal} (H:RS 1 X wx w0 g w h qs a c):RS 0 X wx w0 g w h qs a c:=by
 obtain ⟨d,e1,e2,H⟩:=H
 exact ⟨d,e1,e2,H.less⟩
theorem fin6 {h:Hp} (ho:h.over=false) (k:Int):(h.fin k).over=true∧(h.fin k).sh.fin=k:=by
 unfold Hp.fin;rw [if_neg (by rw [ho];decide)];exact ⟨rfl,rfl⟩
theorem did_fin {X:Nat→Prop} {wx w0 w':World} {g:Mg} {h h':Hp} {qs:List Nat} {a:Mc} {c c':Cal} {nx:Int} {k:Int} {s:Nat} (ho:h.over=false) (e:h'=h.fin k) (H:RS 0 X wx w0 g w' h qs a c):DidQ X wx w0 g qs a c ⟨h',c',nx⟩ (stopE k 0 0) w':=by
 subst e
 obtain ⟨h1,h2⟩:=fin6 ho k
 refine ⟨?_,fun _=>H.eqv (fin_eqv h k),fun q=>?_⟩
 ·unfold DidE;dsimp only;rw [if_pos h1,h2]
 ·simp [Hp.stops,h1] at q
theorem did_put {X:Nat→Prop} {wx w0 w':World} {g:Mg} {h:Hp} {qs:List Nat} {a:Mc} {c c1:Cal} {v:Va} {nx:Int} {e:Ending} (hs:h.stops=false) (hm:c1.m=c.m) (hp:c1.pc=c.pc∧c1.locs=c.locs)
  (he:e=if (sizP (c1.stk++[v]):Int)≤c1.m.stack then .returned (.tuple #[]) else stopE 6 0 0) (H:RX 0 X wx w0 g w' h qs a (c1.put v)):DidQ X wx w0 g qs a c ⟨h.putH c1 v,c1.put v,nx⟩ e w':=by
 have hp1:=hs
 unfold Hp.stops at hp1
 rw [Bool.or_eq_false_iff] at hp1
 have ht:¬0≤h.thrown:=by simpa using hp1.2
 by_cases hr:(sizP (c1.stk++[v]):Int)≤c1.m.stack
 ·have e1:h.putH c1 v=h:=by
   unfold Hp.putH Hp.must
   rw [if_neg (by rw [hs];decide),if_pos (by simpa using hr)]
  rw [e1]
  rw [if_pos hr] at he
  refine ⟨?_,fun q=>?_,fun _=>H⟩
  ·unfold DidE;dsimp only;rw [if_neg (by rw [hp1.1];decide),if_neg ht];exact he
  ·rw [hs] at q;exact absurd q (by decide)
 ·have e1:h.putH c1 v=h.fin 6:=by
   unfold Hp.putH Hp.must
   rw [if_neg (by rw [hs];decide),if_neg (by simpa using hr)]
  rw [if_neg hr] at he
  rw [he]
  exact did_fin (s:=0) hp1.1 e1 ⟨c1.put v,hm,hp,H⟩
theorem raise_full {h:Hp} (k:Int) (ho:h.over=false) (hf:h.full=true):h.raise k=h.fin 4:=by
 unfold Hp.raise Hp.new
 rw [if_pos hf,if_pos (fin6 ho 4).1]
theorem raise_new {h:Hp} (k:Int) (ho:h.over=false) (hf:h.full=false):h.raise k={ h with objs:=h.objs++[⟨k,newHeld h.file.classes k.toNat⟩],thrown:=(h.objs.length:Nat) }:=by
 have hn:h.new k={ h with objs:=h.objs++[⟨k,newHeld h.file.classes k.toNat⟩] }:=by unfold Hp.new;rw [if_neg (by rw [hf];decide)]
 have hv:h.newV=⟨3,(h.objs.length:Nat)⟩:=by unfold Hp.newV;rw [if_neg (by rw [hf];decide)]
 unfold Hp.raise
 rw [hn,hv,if_neg (by simp [ho])]
theorem did_raise {X:Nat→Prop} {wx w0 w':World} {g:Mg} {h h':Hp} {qs:List Nat} {a:Mc} {c c':Cal} {nx k:Int} (hs:h.stops=false) (e:h'=h.raise k) (H:RS 0 X wx w0 g w' (h.raise k) qs a c):DidQ X wx w0 g qs a c ⟨h',c',nx⟩ (raiseE h) w':=by
 subst e
 unfold Hp.stops at hs
 rw [Bool.or_eq_false_iff] at hs
 cases hf:h.full with
 | true =>
  have e1:=raise_full k hs.1 hf
  have h1:=fin6 hs.1 4
  refine ⟨?_,fun _=>H,fun q=>?_⟩
  ·unfold DidE raiseE
   dsimp only
   rw [e1,if_pos hf,if_pos h1.1,h1.2]
  ·dsimp only at q;rw [e1] at q;simp [Hp.stops,h1.1] at q
 | false =>
  have e1:=raise_new k hs.1 hf
  refine ⟨?_,fun _=>H,fun q=>?_⟩
  ·unfold DidE raiseE
   dsimp only
   rw [e1,if_neg (by rw [hf];decide)]
   dsimp only
   rw [if_neg (by rw [hs.1];decide),if_pos (by omega)]
  ·dsimp only at q;rw [e1] at q
   simp [Hp.stops] at q
theorem stk_one {c:Cal}:c.stk=[]∨∃l v,c.stk=l++[v]:=by
 rcases List.eq_nil_or_concat c.stk with h|⟨l,v,h⟩
 ·exact Or.inl h
 ·exact Or.inr ⟨l,v,by rw [h,List.concat_eq_append]⟩
theorem has_nil {c:Cal} (h:c.stk=[]):c.has 1=false:=by unfold Cal.has;rw [h];rfl
theorem has_one {c:Cal} {l:List Va} {v:Va} (h:c.stk=l++[v]):c.has 1=true∧nth va0 (c.top 1) 0=v∧c.cut 1={ c with stk:=l }:=by
 have hl:c.stk.length=l.length+1:=by rw [h];simp
 refine ⟨by unfold Cal.has;rw [hl];simp,?_,?_⟩
 ·unfold Cal.top
  rw [if_pos (by omega),hl,h]
  simp [nth]
 ·unfold Cal.cut
  rw [if_pos (by omega),hl,h]
  simp
theorem has_two {c:Cal} {l:List Va} {u v:Va} (h:c.stk=l++[u,v]):c.has 2=true∧nth va0 (c.top 2) 0=u∧nth va0 (c.top 2) 1=v∧c.cut 2={ c with stk:=l }:=by
 have hl:c.stk.length=l.length+2:=by rw [h];simp
 refine ⟨by unfold Cal.has;rw [hl];simp,?_,?_,?_⟩
 ·unfold Cal.top
  rw [if_pos (by omega),hl,h]
  simp [nth]
 ·unfold Cal.top
  rw [if_pos (by omega),hl,h]
  simp [nth]
 ·unfold Cal.cut
  rw [if_pos (by omega),hl,h]
  simp
theorem has_two_no {c:Cal} (h:∀l u v,c.stk≠l++[u,v]):c.has 2=false:=by
 unfold Cal.has
 rw [decide_eq_false_iff_not]
 intro hl
 rcases List.eq_nil_or_concat c.stk with h1|⟨l,v,h1⟩
 ·rw [h1] at hl;simp at hl
 ·rw [List.concat_eq_append] at h1
  rcases List.eq_nil_or_concat l with h2|⟨l',u,h2⟩
  ·rw [h1,h2] at hl;simp at hl
  ·rw [List.concat_eq_append] at h2
   exact h l' u v (by rw [h1,h2];simp)
end Go.Proofs.Ytimjmdfokicbkaa
