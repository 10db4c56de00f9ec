import Derived.Test.YtgiiapenmjollaaSlam
namespace Go.Proofs.Ytgiiapenmjollaa
set_option linter.all false
set_option maxHeartbeats 40000000
open Go.RowKit
def MeBox (w:World) (b off:Nat) (m:Me) (P C K:Option Addr) (p c k:Nat):Prop :=
 w.cell? ⟨b,off,none⟩=some (.slice P m.params.length p)∧w.cell? ⟨b,off+1,none⟩=some (.int .i64 m.ret.kind)∧w.cell? ⟨b,off+2,none⟩=some (.int .i64 m.ret.cls)
  ∧ w.cell? ⟨b,off+3,none⟩=some (.int .i64 m.stack)∧w.cell? ⟨b,off+4,none⟩=some (.int .i64 m.locs)∧w.cell? ⟨b,off+5,none⟩=some (.int .i64 m.regs)
  ∧ w.cell? ⟨b,off+6,none⟩=some (.slice C m.code.length c)∧w.cell? ⟨b,off+7,none⟩=some (.slice K m.hands.length k)
theorem MeBox.bl {w w':World} (h:Bl w w') {b off:Nat} {m:Me} {P C K:Option Addr} {p c k:Nat} (hb:MeBox w b off m P C K p c k):MeBox w' b off m P C K p c k :=
 ⟨h.cell hb.1,h.cell hb.2.1,h.cell hb.2.2.1,h.cell hb.2.2.2.1,h.cell hb.2.2.2.2.1,h.cell hb.2.2.2.2.2.1,h.cell hb.2.2.2.2.2.2.1,h.cell hb.2.2.2.2.2.2.2⟩
abbrev meV (m:Me) (P C K:Option Addr) (p c k:Nat):Value :=
 .agg #[.slice P m.params.length p,.int .i64 m.ret.kind,.int .i64 m.ret.cls,.int .i64 m.stack,.int .i64 m.locs,.int .i64 m.regs,.slice C m.code.length c,.slice K m.hands.length k]
abbrev fiV (nc nm:Nat) (A B:Option Addr) (a b:Nat):Value:=.agg #[.slice A nc a,.slice B nm b]
def FiBox (w:World) (b off:Nat) (nc nm:Nat) (A B:Option Addr) (x y:Nat):Prop :=
 w.cell? ⟨b,off,none⟩=some (.slice A nc x)∧w.cell? ⟨b,off+1,none⟩=some (.slice B nm y)
theorem FiBox.bl {w w':World} (h:Bl w w') {b off nc nm:Nat} {A B:Option Addr} {x y:Nat} (hb:FiBox w b off nc nm A B x y):FiBox w' b off nc nm A B x y:=⟨h.cell hb.1,h.cell hb.2⟩
def widI (k:Int):Int:=if k=0 then 0 else if k=2 then 2 else 1
theorem widI_bounds (k:Int):0≤widI k∧widI k≤2:=by unfold widI;split<;>(try split)<;>omega
def aB (nc nm ncode:Nat) (locs:Int) (i:In):Bool :=
 if i.op=4∨i.op=5 then decide (0≤i.a∧i.a≤locs-widI i.b)
 else if i.op=6∨i.op=7 then decide (1≤i.a∧i.a≤8)
 else if i.op=11∨i.op=12∨i.op=13 then decide (0≤i.a∧i.a<ncode)
 else if i.op=14∨i.op=15∨i.op=16∨i.op=17∨i.op=18 then decide (0≤i.a∧i.a<nc)
 else if i.op=19 then decide (0≤i.a∧i.a<nm)
 else if i.op=24 then decide (1≤i.a∧i.a≤2)
 else decide (i.a=0)
def fieldB (cs:List Cl) (c k:Int):Bool:=decide (0≤c∧c<cs.length∧0≤k∧k<(nth cl0 cs c.toNat).fields.length)
def bB (cs:List Cl) (i:In):Bool :=
 if i.op=4∨i.op=5 then decide (1≤i.b∧i.b≤3)
 else if i.op=12 then decide (1≤i.b∧i.b≤4)
 else if i.op=15∨i.op=16 then fieldB cs i.a i.b
 else decide (i.b=0)
def nB (i:In):Bool :=
 if i.op=1 then decide (-2147483648≤i.n∧i.n≤2147483647)
 else if i.op=2 then true
 else decide (i.n=0)
theorem sin_fields (cs:List Cl) (nm ncode:Nat) (locs:Int) (i:In) :
  sinB cs nm ncode locs i=(decide (1≤i.op∧i.op≤25)&&(aB cs.length nm ncode locs i&&(bB cs i&&(decide (i.c=0)&&(nB i&&decide (i.args.length=0)))))):=by
 obtain ⟨op,a,b,c,n,args⟩:=i
 by_cases h:1≤op∧op≤25
 ·have:op=1∨op=2∨op=3∨op=4∨op=5∨op=6∨op=7∨op=8∨op=9∨op=10∨op=11∨op=12∨op=13∨op=14∨op=15∨op=16∨op=17∨op=18∨op=19∨op=20∨op=21∨op=22∨op=23∨op=24∨op=25:=by omega
  rcases this with rfl|rfl|rfl|rfl|rfl|rfl|rfl|rfl|rfl|rfl|rfl|rfl|rfl|rfl|rfl|rfl|rfl|rfl|rfl|rfl|rfl|rfl|rfl|rfl|rfl
  all_goals
   unfold sinB aB bB nB fieldB widI
   dsimp only
   generalize args.length=L
   rw [Bool.eq_iff_iff]
   simp
   try (repeat' split)<;>omega
 ·have e:decide (1≤op∧op≤25)=false:=decide_eq_false h
  have e':decide (1≤(In.mk op a b c n args).op∧(In.mk op a b c n args).op≤25)=false:=e
  rw [e',Bool.false_and]
  unfold sinB
  dsimp only
  rw [if_neg (by omega),if_neg (by omega),if_neg (by omega),if_neg (by omega),if_neg (by omega),if_neg (by omega),if_neg (by omega),if_neg (by omega),if_neg (by omega),if_neg (by omega),if_neg (by omega)]
  simp
theorem width_any (k:Int) (w:World) :
  Calls Try.prog 82 #[.int .i64 k] w fun e w'=>e=.returned (.int .i64 (widI k))∧w'=w:=by
 by_cases h0:k=0
 ·subst h0
  go_enter Try.func82,Try.ntmps82
  go_wp2
  go_ret
  exact ⟨rfl,rfl⟩
 by_cases h2:k=2
 ·subst h2
  go_enter Try.func82,Try.ntmps82
  go_wp2
  go_ret
  exact ⟨rfl,rfl⟩
 have hk:widI k=1:=by unfold widI;rw [if_neg h0,if_neg h2]
 rw [hk]
 clear hk
 go_enter Try.func82,Try.ntmps82
 go_wp2
 go_ret
 exact ⟨rfl,rfl⟩
theorem slots_any (A:Option Addr) (c:Nat) (F:List Ty) (w:World) (hl:TysAt w A F) (hb:F.length≤1000000) (hk:∀k,k<F.length→(nth ty0 F k).kind≠0) :
  Calls Try.prog 63 #[.slice A F.length c] w fun e w'=>e=.returned (.int .i64 (slotsN F:Nat))∧Bl w w':=by
 obtain ⟨hm,hl⟩:=hl
 clear hm
 have HS:Hid (∀k,k<F.length→slotsN (F.take (k+1))=slotsN (F.take k)+(if (nth ty0 F k).kind=2 then 2 else 1)):=slotsN_take F
 have HB:Hid (∀k,slotsN (F.take k)≤2*k):=fun k=>by have:=slotsN_le (F.take k);have:=List.length_take_le k F;omega
 have HK:Hid (∀k,k<F.length→(nth ty0 F k).kind≠0):=hk
 clear hk
 go_enter Try.func63,Try.ntmps63
 go_wp2
 go_loopw [3,8] (fun n i wr=>∃k:Nat,k≤F.length∧i=.int .i64 k∧n=.int .i64 ((slotsN (F.take k):Nat):Int)∧Hid (Bl w wr)) (fun _ i _=>F.length-(intOf i).toNat)
 case atStart=>exact ⟨0,Nat.zero_le _,rfl,by simp [slotsN],Bl.refl _⟩
 case round =>
  obtain ⟨k,hk,rfl,rfl,hg⟩:=hrel
  have h2:=HB.out k
  by_cases hlt:k<F.length
  ·rcases hl with h0|⟨b,off,rfl,hcell⟩
   ·omega
   have ht:=hg.out.cell (hcell k hlt).1
   have ht':=hg.out.cell (hcell k hlt).2.1
   have hs:=HS.out k hlt
   have hw:((slotsN (F.take (k+1)):Nat):Int)=((slotsN (F.take k):Nat):Int)+widI (nth ty0 F k).kind:=by
    have:=HK.out k hlt
    rw [hs];unfold widI;rw [if_neg this];split<;>simp
   have hwb:=widI_bounds (nth ty0 F k).kind
   have HS':Hid (((slotsN (F.take (k+1)):Nat):Int)=((slotsN (F.take k):Nat):Int)+widI (nth ty0 F k).kind):=hw
   clear hcell hs hw
   generalize hW:widI (nth ty0 F k).kind=W at *
   go_wp2_with (go_at_call 82;refine (width_any _ _).mono ?_;rintro e w1 ⟨he,rfl⟩;rw [hW] at he;subst he)
   go_roundw
   case rel=>exact ⟨k+1,by omega,by go_num,by rw [HS'.out],hg.out.alloc _⟩
   case measure=>simp [intOf];omega
  ·obtain rfl:k=F.length:=by omega
   rw [List.take_length] at *
   go_wp2
   go_ret
   exact ⟨rfl,hg.out⟩
theorem tys_one {w:World} {k c:Int} {t:TypeId} (hk:I64 k) (hc:I64 c):TysAt (w.alloc (.cells #[.int .i64 k,.int .i64 c] t)) (some ⟨w.heap.size,0,none⟩) [⟨k,c⟩]:=by
 refine ⟨by unfold maxLen;simp,Or.inr ⟨_,_,rfl,fun i hi=>?_⟩⟩
 obtain rfl:i=0:=by simpa using hi
 exact ⟨cell_of_new rfl,cell_of_new rfl,hk,hc⟩
theorem tys_two {w:World} {k c:Int} {t:TypeId} {o:Obj} (hk:I64 k) (hc:I64 c):TysAt ((w.alloc o).alloc (.cells #[.int .i64 k,.int .i64 c] t)) (some ⟨w.heap.size+1,0,none⟩) [⟨k,c⟩]:=by
 have:=tys_one (w:=w.alloc o) (t:=t) hk hc
 rwa [World.size_alloc] at this
theorem mayRet_any (k x:Int) (n:Nat) (w:World) (hk:I64 k) (hx:I64 x) :
  Calls Try.prog 61 #[.agg #[.int .i64 k,.int .i64 x],.int .i64 n] w fun e w'=>e=.returned (.bool (retB n ⟨k,x⟩))∧Bl w w':=by
 by_cases h:k=0∧x=0
 ·obtain ⟨rfl,rfl⟩:=h
  go_enter Try.func61,Try.ntmps61
  go_wp2
  go_ret
  exact ⟨rfl,(Bl.refl _).alloc _⟩
 ·have hb:retB n ⟨k,x⟩=tyB n ⟨k,x⟩:=by unfold retB;rw [decide_eq_false h];simp
  rw [hb]
  by_cases h0:k=0
  ·subst h0
   have hx0:(x==0)=false:=by simp;omega
   have hx1:x≠0:=by omega
   go_enter Try.func61,Try.ntmps61
   go_wp2_with (go_at_call 59;refine (mayTypes_any (some ⟨w.heap.size+1,0,none⟩) n 1 [⟨0,x⟩] _ (tys_two hk hx)).mono ?_;rintro e w1 ⟨rfl,hg1⟩)
   go_ret
   exact ⟨ret_bool (by simp),(((Bl.refl _).alloc _).alloc _).trans hg1⟩
  ·have hk0:(k==0)=false:=by simp;omega
   go_enter Try.func61,Try.ntmps61
   go_wp2_with (go_at_call 59;refine (mayTypes_any (some ⟨w.heap.size+1,0,none⟩) n 1 [⟨k,x⟩] _ (tys_two hk hx)).mono ?_;rintro e w1 ⟨rfl,hg1⟩)
   go_ret
   exact ⟨ret_bool (by simp),(((Bl.refl _).alloc _).alloc _).trans hg1⟩
theorem mayHandler_any (h:Hd) (n nc:Nat) (w:World) :
  Calls Try.prog 81 #[.agg #[.int .i64 h.fr,.int .i64 h.til,.int .i64 h.pc,.int .i64 h.cls],.int .i64 n,.int .i64 nc] w fun e w'=>e=.returned (.bool (hdB nc n h))∧Bl w w':=by
 obtain ⟨fr,til,pc,cls⟩:=h
 by_cases t1:0≤fr∧fr<til
 ·have d1:decide (0≤fr∧fr<til)=true:=decide_eq_true t1
  by_cases t2:til≤n
  ·by_cases t3:0≤pc∧pc<n
   ·have d3:decide (0≤pc∧pc<(n:Int))=true:=decide_eq_true t3
    have hb:hdB nc n ⟨fr,til,pc,cls⟩=decide (0≤cls∧cls<(nc:Int)):=by
     unfold hdB;rw [Bool.eq_iff_iff,decide_eq_true_eq,decide_eq_true_eq];dsimp only;omega
    rw [hb]
    clear hb
    go_enter Try.func81,Try.ntmps81
    go_wp2_with (go_at_call 58;refine (numbers_any _ _ _).mono ?_;rintro e w1 ⟨he,rfl⟩;(first|rw [d1] at he|rw [d3] at he|skip);subst he)
    go_ret
    exact ⟨ret_bool (by simp),(Bl.refl _).alloc _⟩
   ·have d3:decide (0≤pc∧pc<(n:Int))=false:=decide_eq_false t3
    have hb:hdB nc n ⟨fr,til,pc,cls⟩=false:=by
     unfold hdB;rw [decide_eq_false_iff_not];dsimp only;omega
    rw [hb]
    clear hb
    go_enter Try.func81,Try.ntmps81
    go_wp2_with (go_at_call 58;refine (numbers_any _ _ _).mono ?_;rintro e w1 ⟨he,rfl⟩;(first|rw [d1] at he|rw [d3] at he|skip);subst he)
    go_ret
    exact ⟨rfl,(Bl.refl _).alloc _⟩
  ·have hb:hdB nc n ⟨fr,til,pc,cls⟩=false:=by
    unfold hdB;rw [decide_eq_false_iff_not];dsimp only;omega
   rw [hb]
   clear hb
   go_enter Try.func81,Try.ntmps81
   go_wp2_with (go_at_call 58;refine (numbers_any _ _ _).mono ?_;rintro e w1 ⟨he,rfl⟩;(first|rw [d1] at he|skip);subst he)
   go_ret
   exact ⟨rfl,(Bl.refl _).alloc _⟩
 ·have d1:decide (0≤fr∧fr<til)=false:=decide_eq_false t1
  have hb:hdB nc n ⟨fr,til,pc,cls⟩=false:=by
   unfold hdB;rw [decide_eq_false_iff_not];dsimp only;omega
  rw [hb]
  clear hb
  go_enter Try.func81,Try.ntmps81
  go_wp2_with (go_at_call 58;refine (numbers_any _ _ _).mono ?_;rintro e w1 ⟨he,rfl⟩;(first|rw [d1] at he|skip);subst he)
  go_ret
  exact ⟨rfl,(Bl.refl _).alloc _⟩
def handsB (nc:Nat) (m:Me):Bool:=decide (m.hands.length≤8)&&m.hands.all (hdB nc m.code.length)
def mhB (nc:Nat) (m:Me):Bool:=decide (m.params.length≤4)&&(m.params.all (tyB nc)&&(retB nc m.ret&&handsB nc m))
def roomB (m:Me):Bool:=decide (m.regs=0)&&(decide (0≤m.stack∧m.stack≤30)&&decide ((slotsN m.params:Int)≤m.locs∧m.locs≤60))
def codeB (cs:List Cl) (nm:Nat) (m:Me):Bool:=decide (1≤(m.code.length:Int)∧(m.code.length:Int)≤400)&&m.code.all (sinB cs nm m.code.length m.locs)
theorem sme_parts (cs:List Cl) (nm:Nat) (m:Me):smeB cs nm m=(mhB cs.length m&&(roomB m&&codeB cs nm m)):=by
 rw [Bool.eq_iff_iff]
 simp only [smeB,headB,mhB,roomB,codeB,handsB,Bool.and_eq_true,decide_eq_true_eq]
 constructor
 ·rintro ⟨⟨⟨⟨⟨⟨a,b,c,d⟩,e⟩,f⟩,g⟩,h,i,j,k,l⟩,o⟩
  exact ⟨⟨a,e,g,b,f⟩,⟨h,⟨i,j⟩,k,l⟩,⟨by omega,d⟩,o⟩
 ·rintro ⟨⟨a,e,g,b,f⟩,⟨h,⟨i,j⟩,k,l⟩,⟨c,d⟩,o⟩
  exact ⟨⟨⟨⟨⟨⟨a,b,by omega,d⟩,e⟩,f⟩,g⟩,h,i,j,k,l⟩,o⟩
theorem mayHandlers_any (m:Me) (P C K:Option Addr) (p c k nc:Nat) (w:World) (hK:HdsAt w K m.hands) :
  Calls Try.prog 62 #[meV m P C K p c k,.int .i64 nc] w fun e w'=>e=.returned (.bool (handsB nc m))∧Bl w w':=by
 obtain ⟨hkm,hK⟩:=hK
 unfold maxLen at hkm
 by_cases h8:m.hands.length≤8
 ·have hb:handsB nc m=m.hands.all (hdB nc m.code.length):=by unfold handsB;rw [decide_eq_true h8];rfl
  rw [hb]
  clear hb
  have HG:Hid ((∀q,q<m.hands.length→hdB nc m.code.length (nth hd0 m.hands q)=true)→m.hands.all (hdB nc m.code.length)=true):=all_good
  have HB:Hid (∀q,q<m.hands.length→hdB nc m.code.length (nth hd0 m.hands q)=false→m.hands.all (hdB nc m.code.length)=false):=fun q=>all_bad
  obtain ⟨R,hR⟩:∃R,m.hands.all (hdB nc m.code.length)=R:=⟨_,rfl⟩
  rw [hR] at HG HB ⊢
  clear hR
  go_enter Try.func62,Try.ntmps62
  go_wp2
  go_loopw [14] (fun i wr=>∃q:Nat,q≤m.hands.length∧i=.int .i64 q∧Hid (∀j,j<q→hdB nc m.code.length (nth hd0 m.hands j)=true)∧Hid (Bl w wr)∧wr.cell? ⟨w.heap.size,6,none⟩=some (.slice C m.code.length c)) (fun i _=>m.hands.length-(intOf i).toNat)
  case atStart=>exact ⟨0,Nat.zero_le _,rfl,fun j hj=>absurd hj (Nat.not_lt_zero _),(Bl.refl _).alloc _,cell_of_new rfl⟩
  case round =>
   obtain ⟨q,hq,rfl,hgq,hg,h6⟩:=hrel
   by_cases hql:q<m.hands.length
   ·rcases hK with h0|⟨b,off,rfl,hcell⟩
    ·omega
    obtain ⟨g0,g1,g2,g3,-⟩:=hcell q hql
    replace g0:=hg.out.cell g0
    replace g1:=hg.out.cell g1
    replace g2:=hg.out.cell g2
    replace g3:=hg.out.cell g3
    have q6:∀o,(wr.alloc o).cell? ⟨w.heap.size,6,none⟩=some (.slice C m.code.length c):=fun o=>((Bl.refl wr).alloc o).cell h6
    clear hcell HG
    cases hT:hdB nc m.code.length (nth hd0 m.hands q)
    ·have HF:=HB.out q hql hT
     clear HB
     go_wp2_with (go_at_call 81;refine (mayHandler_any (nth hd0 m.hands q) _ _ _).mono ?_;rintro e w1 ⟨he,hg1⟩;rw [hT] at he;subst he)
     go_ret
     exact ⟨ret_bool HF.symm,(hg.out.alloc _).trans hg1⟩
    ·have HT1:Hid (hdB nc m.code.length (nth hd0 m.hands q)=true):=hT
     clear HB
     go_wp2_with (go_at_call 81;refine (mayHandler_any (nth hd0 m.hands q) _ _ _).mono ?_;rintro e w1 ⟨he,hg1⟩;rw [hT] at he;subst he)
     go_roundw
     case rel=>exact ⟨q+1,by omega,by go_num,fun j hj=>if h:j<q then hgq.out j h else by have:j=q:=(by omega);subst this;exact HT1.out,(hg.out.alloc _).trans hg1,hg1.cell (q6 _)⟩
     case measure=>simp [intOf];omega
   ·have hkk:q=m.hands.length:=by omega
    subst hkk
    have HF:=HG.out hgq.out
    clear HG hK
    go_wp2
    go_ret
    exact ⟨ret_bool HF.symm,hg.out⟩
 ·have hb:handsB nc m=false:=by unfold handsB;rw [decide_eq_false h8];rfl
  rw [hb]
  clear hb
  go_enter Try.func62,Try.ntmps62
  go_wp2
  go_ret
  exact ⟨rfl,(Bl.refl _).alloc _⟩
def MeCells (w:World) (b:Nat) (m:Me) (P C K:Option Addr) (p c k:Nat):Prop :=
 w.cell? ⟨b,0,none⟩=some (.slice P m.params.length p)∧w.cell? ⟨b,1,none⟩=some (.int .i64 m.ret.kind)∧w.cell? ⟨b,2,none⟩=some (.int .i64 m.ret.cls)
  ∧ w.cell? ⟨b,3,none⟩=some (.int .i64 m.stack)∧w.cell? ⟨b,4,none⟩=some (.int .i64 m.locs)∧w.cell? ⟨b,5,none⟩=some (.int .i64 m.regs)
  ∧ w.cell? ⟨b,6,none⟩=some (.slice C m.code.length c)∧w.cell? ⟨b,7,none⟩=some (.slice K m.hands.length k)
theorem MeCells.bl {w w':World} (h:Bl w w') {b:Nat} {m:Me} {P C K:Option Addr} {p c k:Nat} (hb:MeCells w b m P C K p c k):MeCells w' b m P C K p c k :=
 ⟨h.cell hb.1,h.cell hb.2.1,h.cell hb.2.2.1,h.cell hb.2.2.2.1,h.cell hb.2.2.2.2.1,h.cell hb.2.2.2.2.2.1,h.cell hb.2.2.2.2.2.2.1,h.cell hb.2.2.2.2.2.2.2⟩
abbrev meO (m:Me) (P C K:Option Addr) (p c k:Nat):Obj:=.cells #[.slice P m.params.length p,.int .i64 m.ret.kind,.int .i64 m.ret.cls,.int .i64 m.stack,.int .i64 m.locs,.int .i64 m.regs,.slice C m.code.length c,.slice K m.hands.length k] 57
theorem MeCells.new (w:World) (m:Me) (P C K:Option Addr) (p c k:Nat):MeCells (w.alloc (meO m P C K p c k)) w.heap.size m P C K p c k :=
 ⟨cell_of_new rfl,cell_of_new rfl,cell_of_new rfl,cell_of_new rfl,cell_of_new rfl,cell_of_new rfl,cell_of_new rfl,cell_of_new rfl⟩
theorem mayHead_any (m:Me) (P C K:Option Addr) (p c k nc:Nat) (w:World) (hm:MeAt w m P C K) :
  Calls Try.prog 44 #[meV m P C K p c k,.int .i64 nc] w fun e w'=>e=.returned (.bool (mhB nc m))∧Bl w w':=by
 have HM:Hid (MeAt w m P C K):=hm
 have hpm:=hm.1.1
 have hr:=hm.2.2.2
 unfold maxLen at hpm
 clear hm
 have hal:Bl w (w.alloc (meO m P C K p c k)):=(Bl.refl _).alloc _
 have hbox:=MeCells.new w m P C K p c k
 by_cases h4:m.params.length≤4
 ·cases hp:m.params.all (tyB nc)
  ·have hb:mhB nc m=false:=by unfold mhB;rw [hp,Bool.false_and,Bool.and_false]
   rw [hb]
   clear hb
   have HAL:Hid (Bl w (w.alloc (meO m P C K p c k))):=hal
   clear hal hbox
   go_enter Try.func44,Try.ntmps44
   go_wp2_with (go_at_call 59;refine (mayTypes_any _ _ _ _ _ (HM.out.1.bl HAL.out)).mono ?_;rintro e w1 ⟨he,hg1⟩;rw [hp] at he;subst he)
   go_ret
   exact ⟨rfl,HAL.out.trans hg1⟩
  ·cases hq:retB nc ⟨m.ret.kind,m.ret.cls⟩
   ·have hb:mhB nc m=false:=by unfold mhB;rw [show retB nc m.ret=false from hq,Bool.false_and,Bool.and_false,Bool.and_false]
    rw [hb]
    clear hb
    have HAL:Hid (Bl w (w.alloc (meO m P C K p c k))):=hal
    have HBOX:Hid (MeCells (w.alloc (meO m P C K p c k)) w.heap.size m P C K p c k):=hbox
    clear hal hbox
    go_enter Try.func44,Try.ntmps44
    go_wp2_with (first
     | (go_at_call 59;refine (mayTypes_any _ _ _ _ _ (HM.out.1.bl HAL.out)).mono ?_;rintro e w1 ⟨he,hg1⟩;rw [hp] at he;subst he;obtain ⟨-,b1,b2,-⟩:=HBOX.out.bl hg1)
     | (go_at_call 61;refine (mayRet_any _ _ _ _ hr.1 hr.2.1).mono ?_;rintro e w2 ⟨he,hg2⟩;rw [hq] at he;subst he))
    go_ret
    exact ⟨rfl,(HAL.out.trans hg1).trans hg2⟩
   ·have hb:mhB nc m=handsB nc m:=by unfold mhB;rw [decide_eq_true h4,hp,show retB nc m.ret=true from hq];rfl
    rw [hb]
    clear hb
    have HAL:Hid (Bl w (w.alloc (meO m P C K p c k))):=hal
    have HBOX:Hid (MeCells (w.alloc (meO m P C K p c k)) w.heap.size m P C K p c k):=hbox
    clear hal hbox
    go_enter Try.func44,Try.ntmps44
    go_wp2_with (first
     | (go_at_call 59;refine (mayTypes_any _ _ _ _ _ (HM.out.1.bl HAL.out)).mono ?_;rintro e w1 ⟨he,hg1⟩;rw [hp] at he;subst he;obtain ⟨-,b1,b2,-⟩:=HBOX.out.bl hg1)
     | (go_at_call 61;refine (mayRet_any _ _ _ _ hr.1 hr.2.1).mono ?_;rintro e w2 ⟨he,hg2⟩;rw [hq] at he;subst he;obtain ⟨e0,e1,e2,e3,e4,e5,e6,e7⟩:=HBOX.out.bl (hg1.trans hg2))
     | (go_at_call 62;refine (mayHandlers_any m _ _ _ _ _ _ _ _ (HM.out.2.2.1.bl ((HAL.out.trans hg1).trans hg2))).mono ?_;rintro e w3 ⟨he,hg3⟩;subst he))
    go_ret
    exact ⟨rfl,((HAL.out.trans hg1).trans hg2).trans hg3⟩
 ·have hb:mhB nc m=false:=by unfold mhB;rw [decide_eq_false h4];rfl
  rw [hb]
  clear hb hbox
  go_enter Try.func44,Try.ntmps44
  go_wp2
  go_ret
  exact ⟨rfl,hal⟩
end Go.Proofs.Ytgiiapenmjollaa
