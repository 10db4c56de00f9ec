import Derived.Test.YtgiiapenmjollabGreatRlad
namespace Go.Proofs.YtgiiapenmjollabGreat
set_option linter.all false
set_option maxHeartbeats 40000000
set_option maxRecDepth 100000
open Go.RowKit
def widI (k:Int):Int:=if k=0 then 0 else if k=2 then 2 else 1
theorem widI_bounds (k:Int):0≤widI k∧widI k≤2:=by unfold widI;split<;>(try split)<;>omega
theorem width_any (k:Int) (w:World) :
  Calls Tryz.prog 133 #[.int .i64 k] w fun e w'=>e=.returned (.int .i64 (widI k))∧w'=w:=by
 by_cases h0:k=0
 ·subst h0
  go_enter Tryz.func133,Tryz.ntmps133
  go_wp2
  go_ret
  exact ⟨rfl,rfl⟩
 by_cases h2:k=2
 ·subst h2
  go_enter Tryz.func133,Tryz.ntmps133
  go_wp2
  go_ret
  exact ⟨rfl,rfl⟩
 have hk:widI k=1:=by unfold widI;rw [if_neg h0,if_neg h2]
 rw [hk]
 clear hk
 go_enter Tryz.func133,Tryz.ntmps133
 go_wp2
 go_ret
 exact ⟨rfl,rfl⟩
theorem slots_any (A:Option Addr) (c:Nat) (F:List Ty) (w:World) (hl:TysAt w A F) (hb:F.length≤1000000) (hk:∀k,k<F.length→(nth ty0 F k).kind≠0) :
  Calls Tryz.prog 189 #[.slice A F.length c] w fun e w'=>e=.returned (.int .i64 (slotsN F:Nat))∧Bl w w':=by
 obtain ⟨hm,hl⟩:=hl
 clear hm
 have HS:Hid (∀k,k<F.length→slotsN (F.take (k+1))=slotsN (F.take k)+(if (nth ty0 F k).kind=2 then 2 else 1)):=slotsN_take F
 have HB:Hid (∀k,slotsN (F.take k)≤2*k):=fun k=>by have:=slotsN_le (F.take k);have:=List.length_take_le k F;omega
 have HK:Hid (∀k,k<F.length→(nth ty0 F k).kind≠0):=hk
 clear hk
 go_enter Tryz.func189,Tryz.ntmps189
 go_wp2
 go_loopw [3,8] (fun n i wr=>∃k:Nat,k≤F.length∧i=.int .i64 k∧n=.int .i64 ((slotsN (F.take k):Nat):Int)∧Hid (Bl w wr)) (fun _ i _=>F.length-(intOf i).toNat)
 case atStart=>exact ⟨0,Nat.zero_le _,rfl,by simp [slotsN],Bl.refl _⟩
 case round =>
  obtain ⟨k,hk,rfl,rfl,hg⟩:=hrel
  have h2:=HB.out k
  by_cases hlt:k<F.length
  ·rcases hl with h0|⟨b,off,rfl,hcell⟩
   ·omega
   have ht:=hg.out.cell (hcell k hlt).1
   have ht':=hg.out.cell (hcell k hlt).2.1
   have hs:=HS.out k hlt
   have hw:((slotsN (F.take (k+1)):Nat):Int)=((slotsN (F.take k):Nat):Int)+widI (nth ty0 F k).kind:=by
    have:=HK.out k hlt
    rw [hs];unfold widI;rw [if_neg this];split<;>simp
   have hwb:=widI_bounds (nth ty0 F k).kind
   have HS':Hid (((slotsN (F.take (k+1)):Nat):Int)=((slotsN (F.take k):Nat):Int)+widI (nth ty0 F k).kind):=hw
   clear hcell hs hw
   generalize hW:widI (nth ty0 F k).kind=W at *
   go_wp2_with (go_at_call 133;refine (width_any _ _).mono ?_;rintro e w1 ⟨he,rfl⟩;rw [hW] at he;subst he)
   go_roundw
   case rel=>exact ⟨k+1,by omega,by go_num,by rw [HS'.out],hg.out.alloc _⟩
   case measure=>simp [intOf];omega
  ·obtain rfl:k=F.length:=by omega
   rw [List.take_length] at *
   go_wp2
   go_ret
   exact ⟨rfl,hg.out⟩
theorem tys_one {w:World} {k c:Int} {t:TypeId} (hk:I64 k) (hc:I64 c):TysAt (w.alloc (.cells #[.int .i64 k,.int .i64 c] t)) (some ⟨w.heap.size,0,none⟩) [⟨k,c⟩]:=by
 refine ⟨by unfold maxLen;simp,Or.inr ⟨_,_,rfl,fun i hi=>?_⟩⟩
 obtain rfl:i=0:=by simpa using hi
 exact ⟨cell_of_new rfl,cell_of_new rfl,hk,hc⟩
theorem tys_two {w:World} {k c:Int} {t:TypeId} {o:Obj} (hk:I64 k) (hc:I64 c):TysAt ((w.alloc o).alloc (.cells #[.int .i64 k,.int .i64 c] t)) (some ⟨w.heap.size+1,0,none⟩) [⟨k,c⟩]:=by
 have:=tys_one (w:=w.alloc o) (t:=t) hk hc
 rwa [World.size_alloc] at this
theorem mayRet_any (k x:Int) (n:Nat) (w:World) (hk:I64 k) (hx:I64 x) :
  Calls Tryz.prog 187 #[.agg #[.int .i64 k,.int .i64 x],.int .i64 n] w fun e w'=>e=.returned (.bool (retB n ⟨k,x⟩))∧Bl w w':=by
 by_cases h:k=0∧x=0
 ·obtain ⟨rfl,rfl⟩:=h
  go_enter Tryz.func187,Tryz.ntmps187
  go_wp2
  go_ret
  exact ⟨rfl,(Bl.refl _).alloc _⟩
 ·have hb:retB n ⟨k,x⟩=tyB n ⟨k,x⟩:=by unfold retB;rw [decide_eq_false h];simp
  rw [hb]
  by_cases h0:k=0
  ·subst h0
   have hx0:(x==0)=false:=by simp;omega
   have hx1:x≠0:=by omega
   go_enter Tryz.func187,Tryz.ntmps187
   go_wp2_with (go_at_call 186;refine (mayTypes_any (some ⟨w.heap.size+1,0,none⟩) n 1 [⟨0,x⟩] _ (tys_two hk hx)).mono ?_;rintro e w1 ⟨rfl,hg1⟩)
   go_ret
   exact ⟨ret_bool (by simp),(((Bl.refl _).alloc _).alloc _).trans hg1⟩
  ·have hk0:(k==0)=false:=by simp;omega
   go_enter Tryz.func187,Tryz.ntmps187
   go_wp2_with (go_at_call 186;refine (mayTypes_any (some ⟨w.heap.size+1,0,none⟩) n 1 [⟨k,x⟩] _ (tys_two hk hx)).mono ?_;rintro e w1 ⟨rfl,hg1⟩)
   go_ret
   exact ⟨ret_bool (by simp),(((Bl.refl _).alloc _).alloc _).trans hg1⟩
theorem mayHandler_any (h:Hd) (n nc:Nat) (w:World) :
  Calls Tryz.prog 246 #[.agg #[.int .i64 h.fr,.int .i64 h.til,.int .i64 h.pc,.int .i64 h.cls],.int .i64 n,.int .i64 nc] w fun e w'=>e=.returned (.bool (hdB nc n h))∧Bl w w':=by
 obtain ⟨fr,til,pc,cls⟩:=h
 by_cases t1:0≤fr∧fr<til
 ·have d1:decide (0≤fr∧fr<til)=true:=decide_eq_true t1
  by_cases t2:til≤n
  ·by_cases t3:0≤pc∧pc<n
   ·have d3:decide (0≤pc∧pc<(n:Int))=true:=decide_eq_true t3
    have hb:hdB nc n ⟨fr,til,pc,cls⟩=decide (0≤cls∧cls<(nc:Int)):=by
     unfold hdB;rw [Bool.eq_iff_iff,decide_eq_true_eq,decide_eq_true_eq];dsimp only;omega
    rw [hb]
    clear hb
    go_enter Tryz.func246,Tryz.ntmps246
    go_wp2_with (go_at_call 144;refine (numbers_any _ _ _).mono ?_;rintro e w1 ⟨he,rfl⟩;(first|rw [d1] at he|rw [d3] at he|skip);subst he)
    go_ret
    exact ⟨ret_bool (by simp),(Bl.refl _).alloc _⟩
   ·have d3:decide (0≤pc∧pc<(n:Int))=false:=decide_eq_false t3
    have hb:hdB nc n ⟨fr,til,pc,cls⟩=false:=by
     unfold hdB;rw [decide_eq_false_iff_not];dsimp only;omega
    rw [hb]
    clear hb
    go_enter Tryz.func246,Tryz.ntmps246
    go_wp2_with (go_at_call 144;refine (numbers_any _ _ _).mono ?_;rintro e w1 ⟨he,rfl⟩;(first|rw [d1] at he|rw [d3] at he|skip);subst he)
    go_ret
    exact ⟨rfl,(Bl.refl _).alloc _⟩
  ·have hb:hdB nc n ⟨fr,til,pc,cls⟩=false:=by
    unfold hdB;rw [decide_eq_false_iff_not];dsimp only;omega
   rw [hb]
   clear hb
   go_enter Tryz.func246,Tryz.ntmps246
   go_wp2_with (go_at_call 144;refine (numbers_any _ _ _).mono ?_;rintro e w1 ⟨he,rfl⟩;(first|rw [d1] at he|skip);subst he)
   go_ret
   exact ⟨rfl,(Bl.refl _).alloc _⟩
 ·have d1:decide (0≤fr∧fr<til)=false:=decide_eq_false t1
  have hb:hdB nc n ⟨fr,til,pc,cls⟩=false:=by
   unfold hdB;rw [decide_eq_false_iff_not];dsimp only;omega
  rw [hb]
  clear hb
  go_enter Tryz.func246,Tryz.ntmps246
  go_wp2_with (go_at_call 144;refine (numbers_any _ _ _).mono ?_;rintro e w1 ⟨he,rfl⟩;(first|rw [d1] at he|skip);subst he)
  go_ret
  exact ⟨rfl,(Bl.refl _).alloc _⟩
def handsB (nc:Nat) (m:Me):Bool:=decide (m.hands.length≤8)&&m.hands.all (hdB nc m.code.length)
def mhB (nc:Nat) (m:Me):Bool:=decide (m.params.length≤4)&&(m.params.all (tyB nc)&&(retB nc m.ret&&handsB nc m))
theorem mayHandlers_any (m:Me) (P C K:Option Addr) (p c k nc:Nat) (w:World) (hK:HdsAt w K m.hands) :
  Calls Tryz.prog 188 #[meV m P C K p c k,.int .i64 nc] w fun e w'=>e=.returned (.bool (handsB nc m))∧Bl w w':=by
 obtain ⟨hkm,hK⟩:=hK
 unfold maxLen at hkm
 by_cases h8:m.hands.length≤8
 ·have hb:handsB nc m=m.hands.all (hdB nc m.code.length):=by unfold handsB;rw [decide_eq_true h8];rfl
  rw [hb]
  clear hb
  have HG:Hid ((∀q,q<m.hands.length→hdB nc m.code.length (nth hd0 m.hands q)=true)→m.hands.all (hdB nc m.code.length)=true):=all_good
  have HB:Hid (∀q,q<m.hands.length→hdB nc m.code.length (nth hd0 m.hands q)=false→m.hands.all (hdB nc m.code.length)=false):=fun q=>all_bad
  obtain ⟨R,hR⟩:∃R,m.hands.all (hdB nc m.code.length)=R:=⟨_,rfl⟩
  rw [hR] at HG HB ⊢
  clear hR
  go_enter Tryz.func188,Tryz.ntmps188
  go_wp2
  go_loopw [14] (fun i wr=>∃q:Nat,q≤m.hands.length∧i=.int .i64 q∧Hid (∀j,j<q→hdB nc m.code.length (nth hd0 m.hands j)=true)∧Hid (Bl w wr)∧wr.cell? ⟨w.heap.size,6,none⟩=some (.slice C m.code.length c)) (fun i _=>m.hands.length-(intOf i).toNat)
  case atStart=>exact ⟨0,Nat.zero_le _,rfl,fun j hj=>absurd hj (Nat.not_lt_zero _),(Bl.refl _).alloc _,cell_of_new rfl⟩
  case round =>
   obtain ⟨q,hq,rfl,hgq,hg,h6⟩:=hrel
   by_cases hql:q<m.hands.length
   ·rcases hK with h0|⟨b,off,rfl,hcell⟩
    ·omega
    obtain ⟨g0,g1,g2,g3,-⟩:=hcell q hql
    replace g0:=hg.out.cell g0
    replace g1:=hg.out.cell g1
    replace g2:=hg.out.cell g2
    replace g3:=hg.out.cell g3
    have q6:∀o,(wr.alloc o).cell? ⟨w.heap.size,6,none⟩=some (.slice C m.code.length c):=fun o=>((Bl.refl wr).alloc o).cell h6
    clear hcell HG
    cases hT:hdB nc m.code.length (nth hd0 m.hands q)
    ·have HF:=HB.out q hql hT
     clear HB
     go_wp2_with (go_at_call 246;refine (mayHandler_any (nth hd0 m.hands q) _ _ _).mono ?_;rintro e w1 ⟨he,hg1⟩;rw [hT] at he;subst he)
     go_ret
     exact ⟨ret_bool HF.symm,(hg.out.alloc _).trans hg1⟩
    ·have HT1:Hid (hdB nc m.code.length (nth hd0 m.hands q)=true):=hT
     clear HB
     go_wp2_with (go_at_call 246;refine (mayHandler_any (nth hd0 m.hands q) _ _ _).mono ?_;rintro e w1 ⟨he,hg1⟩;rw [hT] at he;subst he)
     go_roundw
     case rel=>exact ⟨q+1,by omega,by go_num,fun j hj=>if h:j<q then hgq.out j h else by have:j=q:=(by omega);subst this;exact HT1.out,(hg.out.alloc _).trans hg1,hg1.cell (q6 _)⟩
     case measure=>simp [intOf];omega
   ·have hkk:q=m.hands.length:=by omega
    subst hkk
    have HF:=HG.out hgq.out
    clear HG hK
    go_wp2
    go_ret
    exact ⟨ret_bool HF.symm,hg.out⟩
 ·have hb:handsB nc m=false:=by unfold handsB;rw [decide_eq_false h8];rfl
  rw [hb]
  clear hb
  go_enter Tryz.func188,Tryz.ntmps188
  go_wp2
  go_ret
  exact ⟨rfl,(Bl.refl _).alloc _⟩
def MeCells (w:World) (b:Nat) (m:Me) (P C K:Option Addr) (p c k:Nat):Prop :=
 w.cell? ⟨b,0,none⟩=some (.slice P m.params.length p)∧w.cell? ⟨b,1,none⟩=some (.int .i64 m.ret.kind)∧w.cell? ⟨b,2,none⟩=some (.int .i64 m.ret.cls)
  ∧ w.cell? ⟨b,3,none⟩=some (.int .i64 m.stack)∧w.cell? ⟨b,4,none⟩=some (.int .i64 m.locs)∧w.cell? ⟨b,5,none⟩=some (.int .i64 m.regs)
  ∧ w.cell? ⟨b,6,none⟩=some (.slice C m.code.length c)∧w.cell? ⟨b,7,none⟩=some (.slice K m.hands.length k)
theorem MeCells.bl {w w':World} (h:Bl w w') {b:Nat} {m:Me} {P C K:Option Addr} {p c k:Nat} (hb:MeCells w b m P C K p c k):MeCells w' b m P C K p c k :=
 ⟨h.cell hb.1,h.cell hb.2.1,h.cell hb.2.2.1,h.cell hb.2.2.2.1,h.cell hb.2.2.2.2.1,h.cell hb.2.2.2.2.2.1,h.cell hb.2.2.2.2.2.2.1,h.cell hb.2.2.2.2.2.2.2⟩
abbrev meO (m:Me) (P C K:Option Addr) (p c k:Nat):Obj:=.cells #[.slice P m.params.length p,.int .i64 m.ret.kind,.int .i64 m.ret.cls,.int .i64 m.stack,.int .i64 m.locs,.int .i64 m.regs,.slice C m.code.length c,.slice K m.hands.length k] 50
theorem MeCells.new (w:World) (m:Me) (P C K:Option Addr) (p c k:Nat):MeCells (w.alloc (meO m P C K p c k)) w.heap.size m P C K p c k :=
 ⟨cell_of_new rfl,cell_of_new rfl,cell_of_new rfl,cell_of_new rfl,cell_of_new rfl,cell_of_new rfl,cell_of_new rfl,cell_of_new rfl⟩
theorem mayHead_any (m:Me) (P C K:Option Addr) (p c k nc:Nat) (w:World) (hm:MeAt w m P C K) :
  Calls Tryz.prog 110 #[meV m P C K p c k,.int .i64 nc] w fun e w'=>e=.returned (.bool (mhB nc m))∧Bl w w':=by
 have HM:Hid (MeAt w m P C K):=hm
 have hpm:=hm.1.1
 have hr:=hm.2.2.2
 unfold maxLen at hpm
 clear hm
 have hal:Bl w (w.alloc (meO m P C K p c k)):=(Bl.refl _).alloc _
 have hbox:=MeCells.new w m P C K p c k
 by_cases h4:m.params.length≤4
 ·cases hp:m.params.all (tyB nc)
  ·have hb:mhB nc m=false:=by unfold mhB;rw [hp,Bool.false_and,Bool.and_false]
   rw [hb]
   clear hb
   have HAL:Hid (Bl w (w.alloc (meO m P C K p c k))):=hal
   clear hal hbox
   go_enter Tryz.func110,Tryz.ntmps110
   go_wp2_with (go_at_call 186;refine (mayTypes_any _ _ _ _ _ (HM.out.1.bl HAL.out)).mono ?_;rintro e w1 ⟨he,hg1⟩;rw [hp] at he;subst he)
   go_ret
   exact ⟨rfl,HAL.out.trans hg1⟩
  ·cases hq:retB nc ⟨m.ret.kind,m.ret.cls⟩
   ·have hb:mhB nc m=false:=by unfold mhB;rw [show retB nc m.ret=false from hq,Bool.false_and,Bool.and_false,Bool.and_false]
    rw [hb]
    clear hb
    have HAL:Hid (Bl w (w.alloc (meO m P C K p c k))):=hal
    have HBOX:Hid (MeCells (w.alloc (meO m P C K p c k)) w.heap.size m P C K p c k):=hbox
    clear hal hbox
    go_enter Tryz.func110,Tryz.ntmps110
    go_wp2_with (first
     | (go_at_call 186;refine (mayTypes_any _ _ _ _ _ (HM.out.1.bl HAL.out)).mono ?_;rintro e w1 ⟨he,hg1⟩;rw [hp] at he;subst he;obtain ⟨-,b1,b2,-⟩:=HBOX.out.bl hg1)
     | (go_at_call 187;refine (mayRet_any _ _ _ _ hr.1 hr.2.1).mono ?_;rintro e w2 ⟨he,hg2⟩;rw [hq] at he;subst he))
    go_ret
    exact ⟨rfl,(HAL.out.trans hg1).trans hg2⟩
   ·have hb:mhB nc m=handsB nc m:=by unfold mhB;rw [decide_eq_true h4,hp,show retB nc m.ret=true from hq];rfl
    rw [hb]
    clear hb
    have HAL:Hid (Bl w (w.alloc (meO m P C K p c k))):=hal
    have HBOX:Hid (MeCells (w.alloc (meO m P C K p c k)) w.heap.size m P C K p c k):=hbox
    clear hal hbox
    go_enter Tryz.func110,Tryz.ntmps110
    go_wp2_with (first
     | (go_at_call 186;refine (mayTypes_any _ _ _ _ _ (HM.out.1.bl HAL.out)).mono ?_;rintro e w1 ⟨he,hg1⟩;rw [hp] at he;subst he;obtain ⟨-,b1,b2,-⟩:=HBOX.out.bl hg1)
     | (go_at_call 187;refine (mayRet_any _ _ _ _ hr.1 hr.2.1).mono ?_;rintro e w2 ⟨he,hg2⟩;rw [hq] at he;subst he;obtain ⟨e0,e1,e2,e3,e4,e5,e6,e7⟩:=HBOX.out.bl (hg1.trans hg2))
     | (go_at_call 188;refine (mayHandlers_any m _ _ _ _ _ _ _ _ (HM.out.2.2.1.bl ((HAL.out.trans hg1).trans hg2))).mono ?_;rintro e w3 ⟨he,hg3⟩;subst he))
    go_ret
    exact ⟨rfl,((HAL.out.trans hg1).trans hg2).trans hg3⟩
 ·have hb:mhB nc m=false:=by unfold mhB;rw [decide_eq_false h4];rfl
  rw [hb]
  clear hb hbox
  go_enter Tryz.func110,Tryz.ntmps110
  go_wp2
  go_ret
  exact ⟨rfl,hal⟩
def phldB (regs kind:Int) (rs:List Int):Bool:=decide (1≤kind∧kind≤3)&&rs.all (fun r=>decide (0≤r∧r≤regs-widI kind))
def kofI (cs:List Cl) (c n:Int):Int:=if 0≤c∧c<cs.length∧0≤n∧n<(nth cl0 cs c.toNat).fields.length then (nth ty0 (nth cl0 cs c.toNat).fields n.toNat).kind else 0
def pargsB (ms:List Me) (regs:Int) (i:In):Bool :=
 decide (0≤i.a∧i.a<ms.length∧i.args.length=(nth me0 ms i.a.toNat).params.length) &&
  (List.range i.args.length).all (fun k=>phldB regs (nth ty0 (nth me0 ms i.a.toNat).params k).kind [nth (0:Int) i.args k])
def pretB (regs ret a:Int):Bool:=if ret=0 then decide (a=0) else phldB regs ret [a]
def pregB (cs:List Cl) (ms:List Me) (regs ret:Int) (i:In):Bool :=
 if i.op=1∨i.op=3∨i.op=13∨i.op=16∨i.op=21∨i.op=22 then phldB regs 1 [i.a]
 else if i.op=2∨i.op=24 then phldB regs 2 [i.a]
 else if i.op=4 then phldB regs i.c [i.a,i.b]
 else if i.op=5 then phldB regs 1 [i.a,i.b,i.c]
 else if i.op=6 then phldB regs 2 [i.a,i.b,i.c]
 else if i.op=7 then phldB regs 2 [i.a]&&phldB regs 1 [i.b]
 else if i.op=8 then phldB regs 1 [i.a]&&phldB regs 2 [i.b]
 else if i.op=9 then phldB regs 1 [i.a]&&phldB regs 2 [i.b,i.c]
 else if i.op=11∨i.op=12 then phldB regs 1 [i.c]
 else if i.op=14∨i.op=15 then phldB regs (kofI cs i.c i.n) [i.a]&&phldB regs 3 [i.b]
 else if i.op=17 then phldB regs 1 [i.a,i.b]
 else if i.op=18 then pargsB ms regs i
 else if i.op=19∨i.op=23 then phldB regs i.b [i.a]
 else if i.op=20 then pretB regs ret i.a
 else true
def pnumB (nc ncode:Nat) (i:In):Bool :=
 if i.op=1 then decide (-2147483648≤i.n∧i.n≤2147483647)
 else if i.op=5∨i.op=6 then decide (1≤i.n∧i.n≤8)
 else if i.op=10∨i.op=12 then decide (0≤i.a∧i.a<ncode)
 else if i.op=11 then decide (0≤i.a∧i.a<ncode)&&decide (1≤i.b∧i.b≤4)
 else if i.op=13∨i.op=16 then decide (0≤i.b∧i.b<nc)
 else if i.op=17 then decide (0≤i.c∧i.c<nc)
 else if i.op=23 then decide (i.b≠3)
 else true
def nmsB (op:Int):Bool:=decide (op=4∨op=5∨op=6∨op=7∨op=8∨op=9∨op=11∨op=13∨op=14∨op=15∨op=16∨op=17∨op=19∨op=23)
def nmsC (op:Int):Bool:=decide (op=4∨op=5∨op=6∨op=9∨op=11∨op=12∨op=14∨op=15∨op=17)
def nmsN (op:Int):Bool:=decide (op=1∨op=2∨op=5∨op=6∨op=14∨op=15)
def prestB (i:In):Bool:=(nmsB i.op||decide (i.b=0))&&((nmsC i.op||decide (i.c=0))&&((nmsN i.op||decide (i.n=0))&&decide (i.op=18∨i.args.length=0)))
def pinB (cs:List Cl) (ms:List Me) (ncode:Nat) (regs ret:Int) (i:In):Bool :=
 decide (1≤i.op∧i.op≤24)&&(pregB cs ms regs ret i&&(pnumB cs.length ncode i&&prestB i))
theorem phld_reg (regs kind n:Int) (h:1≤kind∧kind≤3):phldB regs kind [n]=regB regs n kind:=by
 have:widI kind=if kind=2 then 2 else 1:=by unfold widI;rw [if_neg (by omega)]
 unfold phldB regB;rw [decide_eq_true h,this];simp
theorem phld_bad (regs kind:Int) (l:List Int) (h:¬(1≤kind∧kind≤3)):phldB regs kind l=false:=by unfold phldB;rw [decide_eq_false h];rfl
theorem phld_two (regs kind a b:Int):phldB regs kind [a,b]=(phldB regs kind [a]&&phldB regs kind [b]):=by
 unfold phldB;cases decide (1≤kind∧kind≤3)<;>simp
theorem phld_three (regs kind a b c:Int):phldB regs kind [a,b,c]=(phldB regs kind [a]&&(phldB regs kind [b]&&phldB regs kind [c])):=by
 unfold phldB;cases decide (1≤kind∧kind≤3)<;>simp
structure KindsOk (cs:List Cl) (ms:List Me) (ret:Int):Prop where
 fld:∀c,c<cs.length→∀n,n<(nth cl0 cs c).fields.length→1≤(nth ty0 (nth cl0 cs c).fields n).kind∧(nth ty0 (nth cl0 cs c).fields n).kind≤3
 ret:0≤ret∧ret≤3
 prm:∀m,m<ms.length→∀n,n<(nth me0 ms m).params.length→1≤(nth ty0 (nth me0 ms m).params n).kind∧(nth ty0 (nth me0 ms m).params n).kind≤3
theorem pargs_eq {cs:List Cl} {ms:List Me} {ret:Int} (hk:KindsOk cs ms ret) (regs:Int) (i:In):pargsB ms regs i =
  (decide (0≤i.a∧i.a<ms.length∧i.args.length=(nth me0 ms i.a.toNat).params.length) &&
   (List.range i.args.length).all (fun k=>regB regs (nth (0:Int) i.args k) (nth ty0 (nth me0 ms i.a.toNat).params k).kind)):=by
 unfold pargsB
 by_cases h:0≤i.a∧i.a<ms.length∧i.args.length=(nth me0 ms i.a.toNat).params.length
 ·rw [decide_eq_true h,Bool.true_and,Bool.true_and,Bool.eq_iff_iff,List.all_eq_true,List.all_eq_true]
  constructor
  ·intro g x hx
   have:=g x hx
   rw [List.mem_range] at hx
   rwa [phld_reg _ _ _ (hk.prm _ (by omega) _ (by omega))] at this
  ·intro g x hx
   have:=g x hx
   rw [List.mem_range] at hx
   rwa [phld_reg _ _ _ (hk.prm _ (by omega) _ (by omega))]
 ·rw [decide_eq_false h,Bool.false_and,Bool.false_and]
theorem pin_is {cs:List Cl} {ms:List Me} {ret:Int} (hk:KindsOk cs ms ret) (ncode:Nat) (regs:Int) (i:In) :
  rinB cs ms ncode regs ret i=pinB cs ms ncode regs ret i:=by
 have ha:=pargs_eq hk regs i
 obtain ⟨op,a,b,c,n,args⟩:=i
 dsimp only at ha
 have w1:widI 1=1:=rfl
 have w2:widI 2=2:=rfl
 have w3:widI 3=1:=rfl
 by_cases h:1≤op∧op≤24
 ·have:op=1∨op=2∨op=3∨op=4∨op=5∨op=6∨op=7∨op=8∨op=9∨op=10∨op=11∨op=12∨op=13∨op=14∨op=15∨op=16∨op=17∨op=18∨op=19∨op=20∨op=21∨op=22∨op=23∨op=24:=by omega
  have kf:∀x y:Int,phldB regs (kofI cs x y) [a]=(decide (0≤x∧x<cs.length∧0≤y∧y<(nth cl0 cs x.toNat).fields.length)&&regB regs a (nth ty0 (nth cl0 cs x.toNat).fields y.toNat).kind):=by
   intro x y
   by_cases g:0≤x∧x<cs.length∧0≤y∧y<(nth cl0 cs x.toNat).fields.length
   ·unfold kofI;rw [if_pos g,decide_eq_true g,phld_reg _ _ _ (hk.fld _ (by omega) _ (by omega))];rfl
   ·unfold kofI;rw [if_neg g,decide_eq_false g,phld_bad _ _ _ (by omega)];rfl
  have kr:pretB regs ret a=if ret=0 then decide (a=0) else regB regs a ret:=by
   unfold pretB
   by_cases g:ret=0
   ·rw [if_pos g,if_pos g]
   ·have:=hk.ret;rw [if_neg g,if_neg g,phld_reg _ _ _ (by omega)]
  have kc:∀k x:Int,phldB regs k [x]=(decide (1≤k∧k≤3)&&regB regs x k):=by
   intro k x
   by_cases g:1≤k∧k≤3
   ·rw [phld_reg _ _ _ g,decide_eq_true g];rfl
   ·rw [phld_bad _ _ _ g,decide_eq_false g];rfl
  clear hk
  rcases this with rfl|rfl|rfl|rfl|rfl|rfl|rfl|rfl|rfl|rfl|rfl|rfl|rfl|rfl|rfl|rfl|rfl|rfl|rfl|rfl|rfl|rfl|rfl|rfl
  all_goals
   simp only [rinB,kindsOf,pinB,pregB,pnumB,prestB,rrestB,rfldB,nmsB,nmsC,nmsN,phld_two,phld_three]
   simp only [ha,kf,kr]
   try simp only [kc]
   generalize args.length=L at *
   try generalize (List.range L).all _=AL at *
   try generalize (nth me0 ms a.toNat).params.length=PL at *
   rw [Bool.eq_iff_iff]
   simp [regB]
   try first
    | ((repeat' split)<;>omega)
    | (cases AL<;>simp<;>omega)
 ·have hn:kindsOf op=none:=by
   unfold kindsOf
   repeat rw [if_neg (by omega)]
  have e:decide (1≤op∧op≤24)=false:=decide_eq_false h
  unfold rinB pinB
  dsimp only
  rw [hn,e,Bool.false_and]
def proomB (m:Me):Bool:=decide (m.stack=0)&&(decide (m.locs=0)&&decide (max 1 (slotsN m.params:Int)≤m.regs∧m.regs≤90))
def pcodeB (cs:List Cl) (ms:List Me) (m:Me):Bool:=decide (1≤(m.code.length:Int)∧(m.code.length:Int)≤2400)&&m.code.all (pinB cs ms m.code.length m.regs m.ret.kind)
def pmeB (cs:List Cl) (ms:List Me) (m:Me):Bool:=mhB cs.length m&&(proomB m&&pcodeB cs ms m)
def pmayB (f:Fi):Bool:=mayB f.classes&&(decide (1≤(f.methods.length:Int)∧(f.methods.length:Int)≤8)&&f.methods.all (pmeB f.classes f.methods))
theorem rty_kind {nc:Nat} {t:Ty} (h:tyB nc t=true):1≤t.kind∧t.kind≤3:=by
 unfold tyB at h;rw [decide_eq_true_eq] at h;omega
theorem ret_kind {nc:Nat} {t:Ty} (h:retB nc t=true):0≤t.kind∧t.kind≤3:=by
 unfold retB tyB at h;rw [Bool.or_eq_true,decide_eq_true_eq,decide_eq_true_eq] at h;omega
theorem mh_prm {nc:Nat} {m:Me} (h:mhB nc m=true):∀n,n<m.params.length→1≤(nth ty0 m.params n).kind∧(nth ty0 m.params n).kind≤3:=by
 unfold mhB at h;rw [Bool.and_eq_true,Bool.and_eq_true] at h
 exact fun n hn=>rty_kind (List.all_eq_true.1 h.2.1 _ (nth_mem (d:=ty0) hn))
theorem mh_ret {nc:Nat} {m:Me} (h:mhB nc m=true):0≤m.ret.kind∧m.ret.kind≤3:=by
 unfold mhB at h;rw [Bool.and_eq_true,Bool.and_eq_true,Bool.and_eq_true] at h
 exact ret_kind h.2.2.1
theorem may_fkinds {cs:List Cl} (h:mayB cs=true):∀c,c<cs.length→∀n,n<(nth cl0 cs c).fields.length→1≤(nth ty0 (nth cl0 cs c).fields n).kind∧(nth ty0 (nth cl0 cs c).fields n).kind≤3:=by
 unfold mayB at h;rw [Bool.and_eq_true] at h
 intro c hc n hn
 have:=List.all_eq_true.1 h.2 c (List.mem_range.2 hc)
 unfold clB at this;rw [Bool.and_eq_true] at this
 exact rty_kind (List.all_eq_true.1 this.2 _ (nth_mem (d:=ty0) hn))
theorem all_same {α:Type} {p q:α→Bool} {l:List α} (h:∀x∈l,p x=q x):l.all p=l.all q:=by
 induction l with
 | nil=>rfl
 | cons a l ih =>
  rw [List.all_cons,List.all_cons,h a (List.mem_cons_self ..),ih fun x hx=>h x (List.mem_cons_of_mem _ hx)]
theorem rme_head_of {cs:List Cl} {ms:List Me} {m:Me} (h:rmeB cs ms m=true):mhB cs.length m=true:=by
 simp only [rmeB,headB,mhB,handsB,Bool.and_eq_true,decide_eq_true_eq] at h ⊢
 obtain ⟨⟨⟨⟨⟨⟨a,b,c,d⟩,e⟩,f⟩,g⟩,h,i,j,k,l⟩,o⟩:=h
 exact ⟨a,e,g,b,f⟩
theorem rme_parts {cs:List Cl} {ms:List Me} {m:Me} (hk:KindsOk cs ms m.ret.kind):rmeB cs ms m=pmeB cs ms m:=by
 have hi:m.code.all (rinB cs ms m.code.length m.regs m.ret.kind)=m.code.all (pinB cs ms m.code.length m.regs m.ret.kind):=all_same fun x _=>pin_is hk ..
 rw [Bool.eq_iff_iff]
 simp only [rmeB,pmeB,headB,mhB,proomB,pcodeB,handsB,Bool.and_eq_true,decide_eq_true_eq,hi]
 constructor
 ·rintro ⟨⟨⟨⟨⟨⟨a,b,c,d⟩,e⟩,f⟩,g⟩,h,i,j,k,l⟩,o⟩
  exact ⟨⟨a,e,g,b,f⟩,⟨h,i,by omega,k⟩,⟨by omega,d⟩,o⟩
 ·rintro ⟨⟨a,e,g,b,f⟩,⟨h,i,j,k⟩,⟨c,d⟩,o⟩
  exact ⟨⟨⟨⟨⟨⟨a,b,by omega,d⟩,e⟩,f⟩,g⟩,h,i,by omega,k,by omega⟩,o⟩
theorem pmay_is (f:Fi):rfmayB f=pmayB f:=by
 unfold rfmayB pmayB
 cases hm:mayB f.classes
 ·rfl
 have hn:decide (1≤f.methods.length∧f.methods.length≤8)=decide (1≤(f.methods.length:Int)∧(f.methods.length:Int)≤8):=by
  rw [Bool.eq_iff_iff,decide_eq_true_eq,decide_eq_true_eq];omega
 rw [hn,Bool.and_assoc]
 congr 2
 by_cases hh:∀m∈f.methods,mhB f.classes.length m=true
 ·exact all_same fun m hmm=>rme_parts ⟨may_fkinds hm,mh_ret (hh m hmm),fun k hk=>mh_prm (hh _ (nth_mem (d:=me0) hk))⟩
 ·have e1:f.methods.all (rmeB f.classes f.methods)=false:=by
   rw [Bool.eq_false_iff];intro hc
   exact hh fun m hmm=>rme_head_of (List.all_eq_true.1 hc m hmm)
  have e2:f.methods.all (pmeB f.classes f.methods)=false:=by
   rw [Bool.eq_false_iff];intro hc
   refine hh fun m hmm=>?_
   have:=List.all_eq_true.1 hc m hmm
   unfold pmeB at this;rw [Bool.and_eq_true] at this;exact this.1
  rw [e1,e2]
theorem numbersL_any (x n:Int) (w:World) :
  Calls Tryz.prog 298 #[.int .i64 x,.int .i64 n] w fun e w'=>e=.returned (.bool (decide (0≤x∧x<n)))∧w'=w:=by
 go_enter Tryz.func298,Tryz.ntmps298
 go_wp2
 all_goals
  go_ret
  refine ⟨ret_bool ?_,rfl⟩
  rw [Bool.eq_iff_iff];simp;try omega
theorem spanL_any (n lo hi:Int) (w:World) :
  Calls Tryz.prog 256 #[.int .i64 n,.int .i64 lo,.int .i64 hi] w fun e w'=>e=.returned (.bool (decide (lo≤n∧n≤hi)))∧w'=w:=by
 go_enter Tryz.func256,Tryz.ntmps256
 go_wp2
 all_goals
  go_ret
  refine ⟨ret_bool ?_,rfl⟩
  rw [Bool.eq_iff_iff];simp;try omega
theorem hidp {p:Prop} (h:p):Hid p:=h
abbrev rmV (m:Me) (P C K:Option Addr) (p c k:Nat) (nc nm:Nat) (A B:Option Addr) (x y:Nat):Value :=
 .agg #[.slice P m.params.length p,.int .i64 m.ret.kind,.int .i64 m.ret.cls,.int .i64 m.stack,.int .i64 m.locs,.int .i64 m.regs,.slice C m.code.length c,.slice K m.hands.length k,.slice A nc x,.slice B nm y]
abbrev rmO (m:Me) (P C K:Option Addr) (p c k:Nat) (nc nm:Nat) (A B:Option Addr) (x y:Nat):Obj :=
 .cells #[.slice P m.params.length p,.int .i64 m.ret.kind,.int .i64 m.ret.cls,.int .i64 m.stack,.int .i64 m.locs,.int .i64 m.regs,.slice C m.code.length c,.slice K m.hands.length k,.slice A nc x,.slice B nm y] 101
abbrev riO (i:In) (Q:Option Addr) (q:Nat):Obj:=.cells #[.int .i64 i.op,.int .i64 i.a,.int .i64 i.b,.int .i64 i.c,.int .i64 i.n,.slice Q i.args.length q] 58
abbrev riV (i:In) (Q:Option Addr) (q:Nat):Value:=.agg #[.int .i64 i.op,.int .i64 i.a,.int .i64 i.b,.int .i64 i.c,.int .i64 i.n,.slice Q i.args.length q]
structure RmC (w:World) (b:Nat) (m:Me) (P C K:Option Addr) (p c k:Nat) (nc nm:Nat) (A B:Option Addr) (x y:Nat):Prop where
 m0:w.cell? ⟨b,0,none⟩=some (.slice P m.params.length p)
 m1:w.cell? ⟨b,1,none⟩=some (.int .i64 m.ret.kind)
 m2:w.cell? ⟨b,2,none⟩=some (.int .i64 m.ret.cls)
 m3:w.cell? ⟨b,3,none⟩=some (.int .i64 m.stack)
 m4:w.cell? ⟨b,4,none⟩=some (.int .i64 m.locs)
 m5:w.cell? ⟨b,5,none⟩=some (.int .i64 m.regs)
 m6:w.cell? ⟨b,6,none⟩=some (.slice C m.code.length c)
 m7:w.cell? ⟨b,7,none⟩=some (.slice K m.hands.length k)
 m8:w.cell? ⟨b,8,none⟩=some (.slice A nc x)
 m9:w.cell? ⟨b,9,none⟩=some (.slice B nm y)
theorem RmC.bl {w w':World} (h:Bl w w') {b:Nat} {m:Me} {P C K:Option Addr} {p c k nc nm:Nat} {A B:Option Addr} {x y:Nat} (hb:RmC w b m P C K p c k nc nm A B x y):RmC w' b m P C K p c k nc nm A B x y :=
 ⟨h.cell hb.m0,h.cell hb.m1,h.cell hb.m2,h.cell hb.m3,h.cell hb.m4,h.cell hb.m5,h.cell hb.m6,h.cell hb.m7,h.cell hb.m8,h.cell hb.m9⟩
theorem RmC.new (w:World) (m:Me) (P C K:Option Addr) (p c k:Nat) (nc nm:Nat) (A B:Option Addr) (x y:Nat):RmC (w.alloc (rmO m P C K p c k nc nm A B x y)) w.heap.size m P C K p c k nc nm A B x y :=
 ⟨cell_of_new rfl,cell_of_new rfl,cell_of_new rfl,cell_of_new rfl,cell_of_new rfl,cell_of_new rfl,cell_of_new rfl,cell_of_new rfl,cell_of_new rfl,cell_of_new rfl⟩
structure RiC (w:World) (b:Nat) (i:In) (Q:Option Addr) (q:Nat):Prop where
 i0:w.cell? ⟨b,0,none⟩=some (.int .i64 i.op)
 i1:w.cell? ⟨b,1,none⟩=some (.int .i64 i.a)
 i2:w.cell? ⟨b,2,none⟩=some (.int .i64 i.b)
 i3:w.cell? ⟨b,3,none⟩=some (.int .i64 i.c)
 i4:w.cell? ⟨b,4,none⟩=some (.int .i64 i.n)
 i5:w.cell? ⟨b,5,none⟩=some (.slice Q i.args.length q)
theorem RiC.bl {w w':World} (h:Bl w w') {b:Nat} {i:In} {Q:Option Addr} {q:Nat} (hb:RiC w b i Q q):RiC w' b i Q q :=
 ⟨h.cell hb.i0,h.cell hb.i1,h.cell hb.i2,h.cell hb.i3,h.cell hb.i4,h.cell hb.i5⟩
theorem RiC.new (w:World) (i:In) (Q:Option Addr) (q:Nat):RiC (w.alloc (riO i Q q)) w.heap.size i Q q :=
 ⟨cell_of_new rfl,cell_of_new rfl,cell_of_new rfl,cell_of_new rfl,cell_of_new rfl,cell_of_new rfl⟩
abbrev rmiW (w:World) (m:Me) (P C K:Option Addr) (p c k:Nat) (nc nm:Nat) (A B:Option Addr) (x y:Nat) (i:In) (Q:Option Addr) (q:Nat):World :=
 (w.alloc (rmO m P C K p c k nc nm A B x y)).alloc (riO i Q q)
theorem rmi_m (w:World) (m:Me) (P C K:Option Addr) (p c k:Nat) (nc nm:Nat) (A B:Option Addr) (x y:Nat) (i:In) (Q:Option Addr) (q:Nat) :
  RmC (rmiW w m P C K p c k nc nm A B x y i Q q) w.heap.size m P C K p c k nc nm A B x y:=(RmC.new ..).bl ((Bl.refl _).alloc _)
theorem rmi_i (w:World) (m:Me) (P C K:Option Addr) (p c k:Nat) (nc nm:Nat) (A B:Option Addr) (x y:Nat) (i:In) (Q:Option Addr) (q:Nat) :
  RiC (rmiW w m P C K p c k nc nm A B x y i Q q) (w.heap.size+1) i Q q:=by
 have:=RiC.new (w.alloc (rmO m P C K p c k nc nm A B x y)) i Q q
 rwa [World.size_alloc] at this
theorem ints_one {w:World} {n:Nat} (hn:n=w.heap.size) {a:Int} {t:TypeId} (ha:I64 a):IntsAt (w.alloc (.cells #[.int .i64 a] t)) (some ⟨n,0,none⟩) [a]:=by
 subst hn
 refine ⟨by unfold maxLen;simp,Or.inr ⟨_,_,rfl,fun i hi=>?_⟩⟩
 obtain rfl:i=0:=by simpa using hi
 exact ⟨cell_of_new rfl,ha⟩
theorem ints_two {w:World} {n:Nat} (hn:n=w.heap.size) {a b:Int} {t:TypeId} (ha:I64 a) (hb:I64 b):IntsAt (w.alloc (.cells #[.int .i64 a,.int .i64 b] t)) (some ⟨n,0,none⟩) [a,b]:=by
 subst hn
 refine ⟨by unfold maxLen;simp,Or.inr ⟨_,_,rfl,fun i hi=>?_⟩⟩
 have:i=0∨i=1:=by simp at hi;omega
 rcases this with rfl|rfl
 ·exact ⟨cell_of_new rfl,ha⟩
 ·exact ⟨cell_of_new rfl,hb⟩
theorem ints_three {w:World} {n:Nat} (hn:n=w.heap.size) {a b c:Int} {t:TypeId} (ha:I64 a) (hb:I64 b) (hc:I64 c):IntsAt (w.alloc (.cells #[.int .i64 a,.int .i64 b,.int .i64 c] t)) (some ⟨n,0,none⟩) [a,b,c]:=by
 subst hn
 refine ⟨by unfold maxLen;simp,Or.inr ⟨_,_,rfl,fun i hi=>?_⟩⟩
 have:i=0∨i=1∨i=2:=by simp at hi;omega
 rcases this with rfl|rfl|rfl
 ·exact ⟨cell_of_new rfl,ha⟩
 ·exact ⟨cell_of_new rfl,hb⟩
 ·exact ⟨cell_of_new rfl,hc⟩
theorem namesB_any (op:Int) (w:World) :
  Calls Tryz.prog 257 #[.int .i64 op] w fun e w'=>e=.returned (.bool (nmsB op))∧w'=w:=by
 go_enter Tryz.func257,Tryz.ntmps257
 go_wp2
 all_goals
  go_ret
  refine ⟨ret_bool ?_,rfl⟩
  unfold nmsB
  first
   | (symm;apply decide_eq_true;simp_all;done)
   | (symm;apply decide_eq_false;simp_all;done)
theorem namesC_any (op:Int) (w:World) :
  Calls Tryz.prog 258 #[.int .i64 op] w fun e w'=>e=.returned (.bool (nmsC op))∧w'=w:=by
 go_enter Tryz.func258,Tryz.ntmps258
 go_wp2
 all_goals
  go_ret
  refine ⟨ret_bool ?_,rfl⟩
  unfold nmsC
  first
   | (symm;apply decide_eq_true;simp_all;done)
   | (symm;apply decide_eq_false;simp_all;done)
theorem namesN_any (op:Int) (w:World) :
  Calls Tryz.prog 259 #[.int .i64 op] w fun e w'=>e=.returned (.bool (nmsN op))∧w'=w:=by
 go_enter Tryz.func259,Tryz.ntmps259
 go_wp2
 all_goals
  go_ret
  refine ⟨ret_bool ?_,rfl⟩
  unfold nmsN
  first
   | (symm;apply decide_eq_true;simp_all;done)
   | (symm;apply decide_eq_false;simp_all;done)
theorem prest_any (i:In) (Q:Option Addr) (q:Nat) (w:World) (hq:i.args.length≤maxLen) :
  Calls Tryz.prog 197 #[riV i Q q] w fun e w'=>e=.returned (.bool (prestB i))∧Bl w w':=by
 unfold maxLen at hq
 have hfin:decide (i.op=18∨i.args.length=0)=((i.op==18)||((i.args.length:Int)==0)):=by rw [Bool.eq_iff_iff];simp
 have eb:decide (i.b=0)=(i.b==0):=by rw [Bool.eq_iff_iff];simp
 have ec:decide (i.c=0)=(i.c==0):=by rw [Bool.eq_iff_iff];simp
 have en:decide (i.n=0)=(i.n==0):=by rw [Bool.eq_iff_iff];simp
 unfold prestB
 rw [hfin,eb,ec,en]
 clear hfin eb ec en
 cases hB:nmsB i.op<;>cases hC:nmsC i.op<;>cases hN:nmsN i.op
 all_goals
  go_enter Tryz.func197,Tryz.ntmps197
  go_wp2_with (first
   | (go_at_call 257;refine (namesB_any _ _).mono ?_;rintro e w0 ⟨he,hw0⟩;rw [hB] at he;subst he;rw [hw0];clear hw0 w0)
   | (go_at_call 258;refine (namesC_any _ _).mono ?_;rintro e w0 ⟨he,hw0⟩;rw [hC] at he;subst he;rw [hw0];clear hw0 w0)
   | (go_at_call 259;refine (namesN_any _ _).mono ?_;rintro e w0 ⟨he,hw0⟩;rw [hN] at he;subst he;rw [hw0];clear hw0 w0))
  all_goals
   go_ret
   exact ⟨ret_bool (by simp [*]),(Bl.refl _).alloc _⟩
theorem kof_any (m:Me) (P C K:Option Addr) (p c k:Nat) (cs:List Cl) (nm:Nat) (A B:Option Addr) (x y:Nat) (i:In) (Q:Option Addr) (q:Nat) (w:World) (hl:ClsAt w A cs) :
  Calls Tryz.prog 253 #[rmV m P C K p c k cs.length nm A B x y,riV i Q q] w fun e w'=>e=.returned (.int .i64 (kofI cs i.c i.n))∧Bl w w':=by
 have HAL:Hid (Bl w (rmiW w m P C K p c k cs.length nm A B x y i Q q)):=((Bl.refl _).alloc _).alloc _
 have HL:Hid (ClsAt w A cs):=hl
 have hm:=hl.1
 unfold maxLen at hm
 clear hl
 by_cases h:0≤i.c∧i.c<cs.length
 ·have hd:decide (0≤i.c∧i.c<(cs.length:Int))=true:=decide_eq_true h
  obtain ⟨n,hn⟩:∃n:Nat,i.c=n:=⟨i.c.toNat,by omega⟩
  rcases (HL.out.bl HAL.out).2 with h0|⟨b,off,rfl,hc⟩
  ·omega
  obtain ⟨-,-,A',c',hfl,hty⟩:=hc n (by omega)
  have hfm:=hty.1
  unfold maxLen at hfm
  by_cases h2:0≤i.n∧i.n<(nth cl0 cs n).fields.length
  ·have hd2:decide (0≤i.n∧i.n<((nth cl0 cs n).fields.length:Int))=true:=decide_eq_true h2
   obtain ⟨t,ht⟩:∃t:Nat,i.n=t:=⟨i.n.toNat,by omega⟩
   rcases hty.2 with h0|⟨b2,off2,rfl,hc2⟩
   ·omega
   obtain ⟨g1,g2,-⟩:=hc2 t (by omega)
   have hb:kofI cs i.c i.n=(nth ty0 (nth cl0 cs n).fields t).kind:=by
    unfold kofI;rw [if_pos (by rw [hn,Int.toNat_natCast];omega),hn,ht,Int.toNat_natCast,Int.toNat_natCast]
   rw [hb]
   clear hb hc hty hc2 HL
   obtain ⟨op,a,b',ic,iN,args⟩:=i
   dsimp only at *
   subst hn ht
   go_enter Tryz.func253,Tryz.ntmps253
   go_wp2_with (first
    | (go_at_call 144;refine (numbers_any _ _ _).mono ?_;rintro e w1 ⟨he,hw1⟩;rw [hd] at he;subst he;rw [hw1];clear hw1 w1)
    | (go_at_call 298;refine (numbersL_any _ _ _).mono ?_;rintro e w1 ⟨he,hw1⟩;rw [hd2] at he;subst he;rw [hw1];clear hw1 w1))
   go_ret
   exact ⟨rfl,HAL.out⟩
  ·have hd2:decide (0≤i.n∧i.n<((nth cl0 cs n).fields.length:Int))=false:=decide_eq_false h2
   have hb:kofI cs i.c i.n=0:=by
    unfold kofI;rw [if_neg (by rw [hn,Int.toNat_natCast];omega)]
   rw [hb]
   clear hb hc hty HL
   obtain ⟨op,a,b',ic,iN,args⟩:=i
   dsimp only at *
   subst hn
   go_enter Tryz.func253,Tryz.ntmps253
   go_wp2_with (first
    | (go_at_call 144;refine (numbers_any _ _ _).mono ?_;rintro e w1 ⟨he,hw1⟩;rw [hd] at he;subst he;rw [hw1];clear hw1 w1)
    | (go_at_call 298;refine (numbersL_any _ _ _).mono ?_;rintro e w1 ⟨he,hw1⟩;rw [hd2] at he;subst he;rw [hw1];clear hw1 w1))
   go_ret
   exact ⟨rfl,HAL.out⟩
 ·have hd:decide (0≤i.c∧i.c<(cs.length:Int))=false:=decide_eq_false h
  have hb:kofI cs i.c i.n=0:=by unfold kofI;rw [if_neg (by omega)]
  rw [hb]
  clear hb
  go_enter Tryz.func253,Tryz.ntmps253
  go_wp2_with (go_at_call 144;refine (numbers_any _ _ _).mono ?_;rintro e w1 ⟨he,hw1⟩;rw [hd] at he;subst he;rw [hw1];clear hw1 w1)
  go_ret
  exact ⟨rfl,HAL.out⟩
theorem fholds_any (m:Me) (P C K:Option Addr) (p c k nc nm:Nat) (A B:Option Addr) (x y:Nat) (kind:Int) (R:Option Addr) (r:Nat) (rs:List Int) (w:World) (h1:1≤m.regs) (h2:m.regs≤90) (hR:IntsAt w R rs) :
  Calls Tryz.prog 252 #[rmV m P C K p c k nc nm A B x y,.int .i64 kind,.slice R rs.length r] w fun e w'=>e=.returned (.bool (phldB m.regs kind rs))∧Bl w w':=by
 have HAL:Hid (Bl w (w.alloc (rmO m P C K p c k nc nm A B x y))):=(Bl.refl _).alloc _
 have H5:Hid ((w.alloc (rmO m P C K p c k nc nm A B x y)).cell? ⟨w.heap.size,5,none⟩=some (.int .i64 m.regs)):=cell_of_new rfl
 obtain ⟨hm,hR⟩:=hR
 unfold maxLen at hm
 by_cases hk:1≤kind∧kind≤3
 ·have dk:decide (1≤kind∧kind≤3)=true:=decide_eq_true hk
  have hw:=widI_bounds kind
  obtain ⟨W,hW⟩:∃W,widI kind=W:=⟨_,rfl⟩
  have hb:phldB m.regs kind rs=rs.all (fun r=>decide (0≤r∧r≤m.regs-W)):=by unfold phldB;rw [dk,hW];rfl
  rw [hb]
  rw [hW] at hw
  clear hb hk
  have HG:Hid ((∀q,q<rs.length→decide (0≤nth (0:Int) rs q∧nth (0:Int) rs q≤m.regs-W)=true)→rs.all (fun r=>decide (0≤r∧r≤m.regs-W))=true):=fun h=>all_good (d:=(0:Int)) h
  have HB:Hid (∀q,q<rs.length→decide (0≤nth (0:Int) rs q∧nth (0:Int) rs q≤m.regs-W)=false→rs.all (fun r=>decide (0≤r∧r≤m.regs-W))=false):=fun q hq hf=>all_bad (d:=(0:Int)) hq hf
  obtain ⟨RR,hRR⟩:∃RR,rs.all (fun r=>decide (0≤r∧r≤m.regs-W))=RR:=⟨_,rfl⟩
  rw [hRR] at HG HB ⊢
  clear hRR
  go_enter Tryz.func252,Tryz.ntmps252
  go_wp2_with (go_at_call 63;refine (span_any _ _ _ _).mono ?_;rintro e w0 ⟨he,hw0⟩;rw [dk] at he;subst he;rw [hw0];clear hw0 w0)
  go_loopw [14] (fun i wr=>∃q:Nat,q≤rs.length∧i=.int .i64 q∧Hid (∀j,j<q→decide (0≤nth (0:Int) rs j∧nth (0:Int) rs j≤m.regs-W)=true)∧Hid (Bl w wr)∧Hid (wr.cell? ⟨w.heap.size,5,none⟩=some (.int .i64 m.regs))) (fun i _=>rs.length-(intOf i).toNat)
  case atStart=>exact ⟨0,Nat.zero_le _,rfl,fun j hj=>absurd hj (Nat.not_lt_zero _),HAL.out,H5.out⟩
  case round =>
   clear HAL H5
   obtain ⟨q,hq,rfl,hgq,hg,h5⟩:=hrel
   by_cases hql:q<rs.length
   ·rcases hR with h0|⟨b,off,rfl,hcell⟩
    ·omega
    have g0:=hg.out.cell (hcell q hql).1
    have y5:=fut_cell h5.out
    have HN:Hid (decide (0≤nth (0:Int) rs q∧nth (0:Int) rs q≤m.regs-W)=false→RR=false):=HB.out q hql
    generalize hX:nth (0:Int) rs q=X at *
    have HX:Hid (nth (0:Int) rs q=X):=hX
    clear hcell HB hX
    obtain ⟨T,hT⟩:∃T,decide (0≤X∧X≤m.regs-W)=T:=⟨_,rfl⟩
    cases T
    ·have HF:=HN.out hT
     clear HN HG
     go_wp2
     refine wp_region_fut (by kernel_rfl) (by kernel_rfl) fun hne=>?_
     repeat (go_big_quiet_step (first
      | (go_at_call 133;exact Calls.fut_same_eq _ (width_any _ _) (congrArg (Value.int .i64) hW))
      | (go_at_call 63;exact Calls.fut_same_eq _ (span_any _ _ _ _) (congrArg Value.bool hT))))
     refine wpQuiet_nil ?_
     rintro _ ⟨⟨w2,hw2⟩,rfl⟩
     go_wp2
     go_ret
     exact ⟨ret_bool HF.symm,hg.out.trans hw2⟩
    ·have HT1:Hid (decide (0≤X∧X≤m.regs-W)=true):=hT
     clear HN HG
     go_wp2
     refine wp_region_fut (by kernel_rfl) (by kernel_rfl) fun hne=>?_
     repeat (go_big_quiet_step (first
      | (go_at_call 133;exact Calls.fut_same_eq _ (width_any _ _) (congrArg (Value.int .i64) hW))
      | (go_at_call 63;exact Calls.fut_same_eq _ (span_any _ _ _ _) (congrArg Value.bool hT))))
     refine wpQuiet_nil ?_
     rintro _ ⟨⟨w2,hw2⟩,rfl⟩
     go_wp2
     go_roundw
     case rel=>exact ⟨q+1,by omega,by go_num,fun j hj=>if h:j<q then hgq.out j h else by have:j=q:=(by omega);subst this;rw [HX.out];exact HT1.out,hg.out.trans hw2,hw2.cell h5.out⟩
     case measure=>simp [intOf];omega
   ·have hkk:q=rs.length:=by omega
    subst hkk
    have HF:=HG.out hgq.out
    clear HG
    go_wp2
    go_ret
    exact ⟨ret_bool HF.symm,hg.out⟩
 ·have dk:decide (1≤kind∧kind≤3)=false:=decide_eq_false hk
  rw [phld_bad _ _ _ hk]
  go_enter Tryz.func252,Tryz.ntmps252
  go_wp2_with (go_at_call 63;refine (span_any _ _ _ _).mono ?_;rintro e w0 ⟨he,hw0⟩;rw [dk] at he;subst he;rw [hw0];clear hw0 w0)
  go_ret
  exact ⟨rfl,HAL.out⟩
theorem pret_any (m:Me) (P C K:Option Addr) (p c k nc nm:Nat) (A B:Option Addr) (x y:Nat) (i:In) (Q:Option Addr) (q:Nat) (w:World) (h1:1≤m.regs) (h2:m.regs≤90) (hi:i.ok) :
  Calls Tryz.prog 255 #[rmV m P C K p c k nc nm A B x y,riV i Q q] w fun e w'=>e=.returned (.bool (pretB m.regs m.ret.kind i.a))∧Bl w w':=by
 have HAL:Hid (Bl w (rmiW w m P C K p c k nc nm A B x y i Q q)):=((Bl.refl _).alloc _).alloc _
 have HIA:=hidp hi.2.1
 clear hi
 by_cases h:m.ret.kind=0
 ·have hb:pretB m.regs m.ret.kind i.a=(i.a==0):=by unfold pretB;rw [if_pos h,Bool.eq_iff_iff];simp
  rw [hb]
  clear hb
  go_enter Tryz.func255,Tryz.ntmps255
  go_wp2
  all_goals
   go_ret
   exact ⟨ret_bool (by simp [*]),((Bl.refl _).alloc _).alloc _⟩
 ·have hb:pretB m.regs m.ret.kind i.a=phldB m.regs m.ret.kind [i.a]:=by unfold pretB;rw [if_neg h]
  rw [hb]
  clear hb
  obtain ⟨R,hR⟩:∃R,phldB m.regs m.ret.kind [i.a]=R:=⟨_,rfl⟩
  rw [hR]
  have h0:(m.ret.kind==0)=false:=by simpa using h
  clear h
  go_enter Tryz.func255,Tryz.ntmps255
  go_wp2_with (go_at_call 252;refine (fholds_any m _ _ _ _ _ _ _ _ _ _ _ _ _ _ _ [i.a] _ h1 h2 (ints_one (by simp [World.size_alloc]) HIA.out)).mono ?_;rintro e w1 ⟨he,g1⟩;rw [hR] at he;subst he)
  go_ret
  exact ⟨rfl,(HAL.out.alloc _).trans g1⟩
end Go.Proofs.YtgiiapenmjollabGreat
