import Derived.Test.YtgbebphpjnmafaaGreatRrab
import Derived.Deep.RegionHeld3
namespace Go.Proofs.YtgbebphpjnmafaaGreat
set_option linter.all false
set_option maxHeartbeats 40000000
set_option maxRecDepth 100000
open Go.RowKit
open Tryz
variable {a:Int} {m:Me} {b:Nat} {t:TypeId} {w w':World}
def km (k:Int):Int:=if k=0 then 0 else if k=2 then 2 else 1
theorem lO (k:Int):0<=km k/\km k<=2:=by unfold km;split<;>(try split)<;>omega
def OJ (cs:List Cl) (c k:Int):Bool:=decide (0<=c/\c<cs.length/\0<=k/\k<(nth bL cs c.toNat).fields.length)
def bB (cs:List Cl) (i:In):Bool :=
 if i.op=4∨i.op=5 then decide (1<=i.b/\i.b<=3)
 else if i.op=12 then decide (1<=i.b/\i.b<=4)
 else if i.op=15∨i.op=16 then OJ cs i.a i.b
 else decide (i.b=0)
theorem mf (k:Int) (w:World) :
  χ 85 #[ι k] w fun e w'=>e=.returned (ι (km k))/\w'=w:=by
 by_cases h0:k=0
 ·subst h0
  go_enter func85,ntmps85
  go_wp2
  go_ret
  exact ⟨rfl,rfl⟩
 by_cases h2:k=2
 ·subst h2
  go_enter func85,ntmps85
  go_wp2
  go_ret
  exact ⟨rfl,rfl⟩
 have hk:km k=1:=by unfold km;rw [if_neg h0,if_neg h2]
 rw [hk]
 clear hk
 go_enter func85,ntmps85
 go_wp2
 go_ret
 exact ⟨rfl,rfl⟩
theorem DY (A:Option Addr) (c:Nat) (F:List Ty) (w:World) (hl:cX w A F) (hb:F.length<=1000000) (hk:∀k,k<F.length->(nth bS F k).kind≠0) :
  χ 82 #[.slice A F.length c] w fun e w'=>e=.returned (ι (cj F:Nat))/\Bl w w':=by
 obtain ⟨hm,hl⟩:=hl
 clear hm
 have HS:Θ (∀k,k<F.length->cj (F.take (k+1))=cj (F.take k)+(if (nth bS F k).kind=2 then 2 else 1)):=pg F
 have HB:Θ (∀k,cj (F.take k)<=2*k):=fun k=>by have:=ov (F.take k);have:=List.length_take_le k F;omega
 have HK:Θ (∀k,k<F.length->(nth bS F k).kind≠0):=hk
 clear hk
 go_enter func82,ntmps82
 go_wp2
 go_loopw [3,8] (fun n i wr=>∃k:Nat,k<=F.length/\i=ι k/\n=ι ((cj (F.take k):Nat):Int)/\Θ (Bl w wr)) (fun _ i _=>F.length-(intOf i).toNat)
 case atStart=>exact ⟨0,Nat.zero_le _,rfl,by simp [cj],Bl.refl _⟩
 case round =>
  obtain ⟨k,hk,rfl,rfl,hg⟩:=hrel
  have h2:=HB.o k
  by_cases hlt:k<F.length
  ·rcases hl with h0|⟨b,off,rfl,hcell⟩
   ·omega
   have ht:=hg.o.cell (hcell k hlt).1
   have Sq:=hg.o.cell (hcell k hlt).2.1
   have hs:=HS.o k hlt
   have hw:((cj (F.take (k+1)):Nat):Int)=((cj (F.take k):Nat):Int)+km (nth bS F k).kind:=by
    have:=HK.o k hlt
    rw [hs];unfold km;rw [if_neg this];split<;>simp
   have hwb:=lO (nth bS F k).kind
   have Ke:Θ (((cj (F.take (k+1)):Nat):Int)=((cj (F.take k):Nat):Int)+km (nth bS F k).kind):=hw
   clear hcell hs hw
   generalize hW:km (nth bS F k).kind=W at *
   go_wp2_with (go_at_call 85;refine (mf _ _).mono ?_;rintro e w1 ⟨he,rfl⟩;rw [hW] at he;subst he)
   go_roundw
   case rel=>exact ⟨k+1,by omega,by go_num,by rw [Ke.o],hg.o.alloc _⟩
   case measure=>simp [intOf];omega
  ·obtain rfl:k=F.length:=by omega
   rw [List.take_length] at *
   go_wp2
   go_ret
   exact ⟨rfl,hg.o⟩
section
variable {w:World} {k c:Int} {t:TypeId}
theorem Lk (hk:cJ k) (hc:cJ c):cX (w.alloc (.cells #[ι k,ι c] t)) (some ⟨w.heap.size,0,none⟩) [⟨k,c⟩]:=by
 refine ⟨by unfold maxLen;simp,Or.inr ⟨_,_,rfl,fun i hi=>?_⟩⟩
 obtain rfl:i=0:=by simpa using hi
 exact ⟨ai rfl,ai rfl,hk,hc⟩
theorem BR {o:Obj} (hk:cJ k) (hc:cJ c):cX ((w.alloc o).alloc (.cells #[ι k,ι c] t)) (some ⟨w.heap.size+1,0,none⟩) [⟨k,c⟩]:=by
 have:=Lk (w:=w.alloc o) (t:=t) hk hc
 rwa [World.size_alloc] at this
end
theorem rY (k x:Int) (n:Nat) (w:World) (hk:cJ k) (hx:cJ x) :
  χ 80 #[.agg #[ι k,ι x],ι n] w fun e w'=>e=.returned (.bool (mh n ⟨k,x⟩))/\Bl w w':=by
 by_cases h:k=0/\x=0
 ·obtain ⟨rfl,rfl⟩:=h
  go_enter func80,ntmps80
  go_wp2
  go_ret
  exact ⟨rfl,(Bl.refl _).alloc _⟩
 ·have hb:mh n ⟨k,x⟩=fP n ⟨k,x⟩:=by unfold mh;rw [decide_eq_false h];simp
  rw [hb]
  by_cases h0:k=0
  ·subst h0
   have JE:(x==0)=false:=by simp;omega
   have mK:x≠0:=by omega
   go_enter func80,ntmps80
   go_wp2_with (go_at_call 79;refine (fy (some ⟨w.heap.size+1,0,none⟩) n 1 [⟨0,x⟩] _ (BR hk hx)).mono ?_;rintro e w1 ⟨rfl,kN⟩)
   go_ret
   exact ⟨ag (by simp),(((Bl.refl _).alloc _).alloc _).trans kN⟩
  ·have Fh:(k==0)=false:=by simp;omega
   go_enter func80,ntmps80
   go_wp2_with (go_at_call 79;refine (fy (some ⟨w.heap.size+1,0,none⟩) n 1 [⟨k,x⟩] _ (BR hk hx)).mono ?_;rintro e w1 ⟨rfl,kN⟩)
   go_ret
   exact ⟨ag (by simp),(((Bl.refl _).alloc _).alloc _).trans kN⟩
theorem lP (h:Hd) (n nc:Nat) (w:World) :
  χ 139 #[.agg #[ι h.fr,ι h.til,ι h.pc,ι h.cls],ι n,ι nc] w fun e w'=>e=.returned (.bool (mZ nc n h))/\Bl w w':=by
 obtain ⟨fr,til,pc,cls⟩:=h
 by_cases t1:0<=fr/\fr<til
 ·have d1:decide (0<=fr/\fr<til)=true:=decide_eq_true t1
  by_cases t2:til<=n
  ·by_cases t3:0<=pc/\pc<n
   ·have d3:decide (0<=pc/\pc<(n:Int))=true:=decide_eq_true t3
    have hb:mZ nc n ⟨fr,til,pc,cls⟩=decide (0<=cls/\cls<(nc:Int)):=by
     unfold mZ;rw [Bool.eq_iff_iff,decide_eq_true_eq,decide_eq_true_eq];dsimp only;omega
    rw [hb]
    clear hb
    go_enter func139,ntmps139
    go_wp2_with (go_at_call 97;refine (bk _ _ _).mono ?_;rintro e w1 ⟨he,rfl⟩;(first|rw [d1] at he|rw [d3] at he|skip);subst he)
    go_ret
    exact ⟨ag (by simp),(Bl.refl _).alloc _⟩
   ·have d3:decide (0<=pc/\pc<(n:Int))=false:=decide_eq_false t3
    have hb:mZ nc n ⟨fr,til,pc,cls⟩=false:=by
     unfold mZ;rw [decide_eq_false_iff_not];dsimp only;omega
    rw [hb]
    clear hb
    go_enter func139,ntmps139
    go_wp2_with (go_at_call 97;refine (bk _ _ _).mono ?_;rintro e w1 ⟨he,rfl⟩;(first|rw [d1] at he|rw [d3] at he|skip);subst he)
    go_ret
    exact ⟨rfl,(Bl.refl _).alloc _⟩
  ·have hb:mZ nc n ⟨fr,til,pc,cls⟩=false:=by
    unfold mZ;rw [decide_eq_false_iff_not];dsimp only;omega
   rw [hb]
   clear hb
   go_enter func139,ntmps139
   go_wp2_with (go_at_call 97;refine (bk _ _ _).mono ?_;rintro e w1 ⟨he,rfl⟩;(first|rw [d1] at he|skip);subst he)
   go_ret
   exact ⟨rfl,(Bl.refl _).alloc _⟩
 ·have d1:decide (0<=fr/\fr<til)=false:=decide_eq_false t1
  have hb:mZ nc n ⟨fr,til,pc,cls⟩=false:=by
   unfold mZ;rw [decide_eq_false_iff_not];dsimp only;omega
  rw [hb]
  clear hb
  go_enter func139,ntmps139
  go_wp2_with (go_at_call 97;refine (bk _ _ _).mono ?_;rintro e w1 ⟨he,rfl⟩;(first|rw [d1] at he|skip);subst he)
  go_ret
  exact ⟨rfl,(Bl.refl _).alloc _⟩
def kJ (nc:Nat) (m:Me):Bool:=decide (m.hands.length<=8)&&m.hands.all (mZ nc m.code.length)
def tL (nc:Nat) (m:Me):Bool:=decide (m.params.length<=4)&&(m.params.all (fP nc)&&(mh nc m.ret&&kJ nc m))
theorem pR (m:Me) (P C K:Option Addr) (p c k nc:Nat) (w:World) (hK:kM w K m.hands) :
  χ 81 #[sF m P C K p c k,ι nc] w fun e w'=>e=.returned (.bool (kJ nc m))/\Bl w w':=by
 obtain ⟨Py,hK⟩:=hK
 unfold maxLen at Py
 by_cases h8:m.hands.length<=8
 ·have hb:kJ nc m=m.hands.all (mZ nc m.code.length):=by unfold kJ;rw [decide_eq_true h8];rfl
  rw [hb]
  clear hb
  have HG:Θ ((∀q,q<m.hands.length->mZ nc m.code.length (nth eK m.hands q)=true)->m.hands.all (mZ nc m.code.length)=true):=g8
  have HB:Θ (∀q,q<m.hands.length->mZ nc m.code.length (nth eK m.hands q)=false->m.hands.all (mZ nc m.code.length)=false):=fun q=>jv
  obtain ⟨R,hR⟩:∃R,m.hands.all (mZ nc m.code.length)=R:=⟨_,rfl⟩
  rw [hR] at HG HB ⊢
  clear hR
  go_enter func81,ntmps81
  go_wp2
  go_loopw [14] (fun i wr=>∃q:Nat,q<=m.hands.length/\i=ι q/\Θ (∀j,j<q->mZ nc m.code.length (nth eK m.hands j)=true)/\Θ (Bl w wr)/\wr.cell? ⟨w.heap.size,6,none⟩=some (.slice C m.code.length c)) (fun i _=>m.hands.length-(intOf i).toNat)
  case atStart=>exact ⟨0,Nat.zero_le _,rfl,fun j hj=>absurd hj (Nat.not_lt_zero _),(Bl.refl _).alloc _,ai rfl⟩
  case round =>
   obtain ⟨q,hq,rfl,lg,hg,h6⟩:=hrel
   by_cases dI:q<m.hands.length
   ·rcases hK with h0|⟨b,off,rfl,hcell⟩
    ·omega
    obtain ⟨g0,g1,g2,g3,-⟩:=hcell q dI
    replace g0:=hg.o.cell g0
    replace g1:=hg.o.cell g1
    replace g2:=hg.o.cell g2
    replace g3:=hg.o.cell g3
    have q6:∀o,(wr.alloc o).cell? ⟨w.heap.size,6,none⟩=some (.slice C m.code.length c):=fun o=>((Bl.refl wr).alloc o).cell h6
    clear hcell HG
    cases hT:mZ nc m.code.length (nth eK m.hands q)
    ·have HF:=HB.o q dI hT
     clear HB
     go_wp2_with (go_at_call 139;refine (lP (nth eK m.hands q) _ _ _).mono ?_;rintro e w1 ⟨he,kN⟩;rw [hT] at he;subst he)
     go_ret
     exact ⟨ag HF.symm,(hg.o.alloc _).trans kN⟩
    ·have s9:Θ (mZ nc m.code.length (nth eK m.hands q)=true):=hT
     clear HB
     go_wp2_with (go_at_call 139;refine (lP (nth eK m.hands q) _ _ _).mono ?_;rintro e w1 ⟨he,kN⟩;rw [hT] at he;subst he)
     go_roundw
     case rel=>exact ⟨q+1,by omega,by go_num,fun j hj=>if h:j<q then lg.o j h else by have:j=q:=(by omega);subst this;exact s9.o,(hg.o.alloc _).trans kN,kN.cell (q6 _)⟩
     case measure=>simp [intOf];omega
   ·have hkk:q=m.hands.length:=by omega
    subst hkk
    have HF:=HG.o lg.o
    clear HG hK
    go_wp2
    go_ret
    exact ⟨ag HF.symm,hg.o⟩
 ·have hb:kJ nc m=false:=by unfold kJ;rw [decide_eq_false h8];rfl
  rw [hb]
  clear hb
  go_enter func81,ntmps81
  go_wp2
  go_ret
  exact ⟨rfl,(Bl.refl _).alloc _⟩
def fD (w:World) (b:Nat) (m:Me) (P C K:Option Addr) (p c k:Nat):Prop :=
 w.cell? ⟨b,0,none⟩=some (.slice P m.params.length p)/\w.cell? ⟨b,1,none⟩=some (ι m.ret.kind)/\w.cell? ⟨b,2,none⟩=some (ι m.ret.cls)
  /\ w.cell? ⟨b,3,none⟩=some (ι m.stack)/\w.cell? ⟨b,4,none⟩=some (ι m.locs)/\w.cell? ⟨b,5,none⟩=some (ι m.regs)
  /\ w.cell? ⟨b,6,none⟩=some (.slice C m.code.length c)/\w.cell? ⟨b,7,none⟩=some (.slice K m.hands.length k)
theorem fD.bl (h:Bl w w') {P C K:Option Addr} {p c k:Nat} (hb:fD w b m P C K p c k):fD w' b m P C K p c k :=
 ⟨h.cell hb.1,h.cell hb.2.1,h.cell hb.2.2.1,h.cell hb.2.2.2.1,h.cell hb.2.2.2.2.1,h.cell hb.2.2.2.2.2.1,h.cell hb.2.2.2.2.2.2.1,h.cell hb.2.2.2.2.2.2.2⟩
abbrev mT (m:Me) (P C K:Option Addr) (p c k:Nat):Obj:=.cells #[.slice P m.params.length p,ι m.ret.kind,ι m.ret.cls,ι m.stack,ι m.locs,ι m.regs,.slice C m.code.length c,.slice K m.hands.length k] 49
theorem fD.new (w:World) (m:Me) (P C K:Option Addr) (p c k:Nat):fD (w.alloc (mT m P C K p c k)) w.heap.size m P C K p c k :=
 ⟨ai rfl,ai rfl,ai rfl,ai rfl,ai rfl,ai rfl,ai rfl,ai rfl⟩
theorem lQ (m:Me) (P C K:Option Addr) (p c k nc:Nat) (w:World) (hm:kV w m P C K) :
  χ 37 #[sF m P C K p c k,ι nc] w fun e w'=>e=.returned (.bool (tL nc m))/\Bl w w':=by
 have HM:Θ (kV w m P C K):=hm
 have CI:=hm.1.1
 have hr:=hm.2.2.2
 unfold maxLen at CI
 clear hm
 have hal:Bl w (w.alloc (mT m P C K p c k)):=(Bl.refl _).alloc _
 have DZ:=fD.new w m P C K p c k
 by_cases h4:m.params.length<=4
 ·cases hp:m.params.all (fP nc)
  ·have hb:tL nc m=false:=by unfold tL;rw [hp,Bool.false_and,Bool.and_false]
   rw [hb]
   clear hb
   have bM:Θ (Bl w (w.alloc (mT m P C K p c k))):=hal
   clear hal DZ
   go_enter func37,ntmps37
   go_wp2_with (go_at_call 79;refine (fy _ _ _ _ _ (HM.o.1.bl bM.o)).mono ?_;rintro e w1 ⟨he,kN⟩;rw [hp] at he;subst he)
   go_ret
   exact ⟨rfl,bM.o.trans kN⟩
  ·cases hq:mh nc ⟨m.ret.kind,m.ret.cls⟩
   ·have hb:tL nc m=false:=by unfold tL;rw [show mh nc m.ret=false from hq,Bool.false_and,Bool.and_false,Bool.and_false]
    rw [hb]
    clear hb
    have bM:Θ (Bl w (w.alloc (mT m P C K p c k))):=hal
    have Ll:Θ (fD (w.alloc (mT m P C K p c k)) w.heap.size m P C K p c k):=DZ
    clear hal DZ
    go_enter func37,ntmps37
    go_wp2_with (first
     | (go_at_call 79;refine (fy _ _ _ _ _ (HM.o.1.bl bM.o)).mono ?_;rintro e w1 ⟨he,kN⟩;rw [hp] at he;subst he;obtain ⟨-,b1,b2,-⟩:=Ll.o.bl kN)
     | (go_at_call 80;refine (rY _ _ _ _ hr.1 hr.2.1).mono ?_;rintro e w2 ⟨he,eF⟩;rw [hq] at he;subst he))
    go_ret
    exact ⟨rfl,(bM.o.trans kN).trans eF⟩
   ·have hb:tL nc m=kJ nc m:=by unfold tL;rw [decide_eq_true h4,hp,show mh nc m.ret=true from hq];rfl
    rw [hb]
    clear hb
    have bM:Θ (Bl w (w.alloc (mT m P C K p c k))):=hal
    have Ll:Θ (fD (w.alloc (mT m P C K p c k)) w.heap.size m P C K p c k):=DZ
    clear hal DZ
    go_enter func37,ntmps37
    go_wp2_with (first
     | (go_at_call 79;refine (fy _ _ _ _ _ (HM.o.1.bl bM.o)).mono ?_;rintro e w1 ⟨he,kN⟩;rw [hp] at he;subst he;obtain ⟨-,b1,b2,-⟩:=Ll.o.bl kN)
     | (go_at_call 80;refine (rY _ _ _ _ hr.1 hr.2.1).mono ?_;rintro e w2 ⟨he,eF⟩;rw [hq] at he;subst he;obtain ⟨e0,e1,e2,e3,e4,e5,e6,e7⟩:=Ll.o.bl (kN.trans eF))
     | (go_at_call 81;refine (pR m _ _ _ _ _ _ _ _ (HM.o.2.2.1.bl ((bM.o.trans kN).trans eF))).mono ?_;rintro e w3 ⟨he,wm⟩;subst he))
    go_ret
    exact ⟨rfl,((bM.o.trans kN).trans eF).trans wm⟩
 ·have hb:tL nc m=false:=by unfold tL;rw [decide_eq_false h4];rfl
  rw [hb]
  clear hb DZ
  go_enter func37,ntmps37
  go_wp2
  go_ret
  exact ⟨rfl,hal⟩
def aQ (regs kind:Int) (rs:List Int):Bool:=decide (1<=kind/\kind<=3)&&rs.all (fun r=>decide (0<=r/\r<=regs-km kind))
def mU (cs:List Cl) (c n:Int):Int:=if 0<=c/\c<cs.length/\0<=n/\n<(nth bL cs c.toNat).fields.length then (nth bS (nth bL cs c.toNat).fields n.toNat).kind else 0
def fk (ms:List Me) (regs:Int) (i:In):Bool :=
 decide (0<=i.a/\i.a<ms.length/\i.args.length=(nth bT ms i.a.toNat).params.length) &&
  (List.range i.args.length).all (fun k=>aQ regs (nth bS (nth bT ms i.a.toNat).params k).kind [nth (0:Int) i.args k])
def mF (regs ret a:Int):Bool:=if ret=0 then decide (a=0) else aQ regs ret [a]
def cA (cs:List Cl) (ms:List Me) (regs ret:Int) (i:In):Bool :=
 if i.op=1∨i.op=3∨i.op=13∨i.op=16∨i.op=21∨i.op=22 then aQ regs 1 [i.a]
 else if i.op=2∨i.op=24 then aQ regs 2 [i.a]
 else if i.op=4 then aQ regs i.c [i.a,i.b]
 else if i.op=5 then aQ regs 1 [i.a,i.b,i.c]
 else if i.op=6 then aQ regs 2 [i.a,i.b,i.c]
 else if i.op=7 then aQ regs 2 [i.a]&&aQ regs 1 [i.b]
 else if i.op=8 then aQ regs 1 [i.a]&&aQ regs 2 [i.b]
 else if i.op=9 then aQ regs 1 [i.a]&&aQ regs 2 [i.b,i.c]
 else if i.op=11∨i.op=12 then aQ regs 1 [i.c]
 else if i.op=14∨i.op=15 then aQ regs (mU cs i.c i.n) [i.a]&&aQ regs 3 [i.b]
 else if i.op=17 then aQ regs 1 [i.a,i.b]
 else if i.op=18 then fk ms regs i
 else if i.op=19∨i.op=23 then aQ regs i.b [i.a]
 else if i.op=20 then mF regs ret i.a
 else true
def gK (nc fS:Nat) (i:In):Bool :=
 if i.op=1 then decide (-2147483648<=i.n/\i.n<=2147483647)
 else if i.op=5∨i.op=6 then decide (1<=i.n/\i.n<=8)
 else if i.op=10∨i.op=12 then decide (0<=i.a/\i.a<fS)
 else if i.op=11 then decide (0<=i.a/\i.a<fS)&&decide (1<=i.b/\i.b<=4)
 else if i.op=13∨i.op=16 then decide (0<=i.b/\i.b<nc)
 else if i.op=17 then decide (0<=i.c/\i.c<nc)
 else if i.op=23 then decide (i.b≠3)
 else true
def H8 (op:Int):Bool:=decide (op=4∨op=5∨op=6∨op=7∨op=8∨op=9∨op=11∨op=13∨op=14∨op=15∨op=16∨op=17∨op=19∨op=23)
def Ia (op:Int):Bool:=decide (op=4∨op=5∨op=6∨op=9∨op=11∨op=12∨op=14∨op=15∨op=17)
def Ib (op:Int):Bool:=decide (op=1∨op=2∨op=5∨op=6∨op=14∨op=15)
def o5 (i:In):Bool:=(H8 i.op||decide (i.b=0))&&((Ia i.op||decide (i.c=0))&&((Ib i.op||decide (i.n=0))&&decide (i.op=18∨i.args.length=0)))
def mV (cs:List Cl) (ms:List Me) (fS:Nat) (regs ret:Int) (i:In):Bool :=
 decide (1<=i.op/\i.op<=24)&&(cA cs ms regs ret i&&(gK cs.length fS i&&o5 i))
section
variable (regs kind:Int)
theorem lR (n:Int) (h:1<=kind/\kind<=3):aQ regs kind [n]=dJ regs n kind:=by
 have:km kind=if kind=2 then 2 else 1:=by unfold km;rw [if_neg (by omega)]
 unfold aQ dJ;rw [decide_eq_true h,this];simp
theorem rZ (l:List Int) (h:¬(1<=kind/\kind<=3)):aQ regs kind l=false:=by unfold aQ;rw [decide_eq_false h];rfl
theorem Ic (a b:Int):aQ regs kind [a,b]=(aQ regs kind [a]&&aQ regs kind [b]):=by
 unfold aQ;cases decide (1<=kind/\kind<=3)<;>simp
theorem Ap (a b c:Int):aQ regs kind [a,b,c]=(aQ regs kind [a]&&(aQ regs kind [b]&&aQ regs kind [c])):=by
 unfold aQ;cases decide (1<=kind/\kind<=3)<;>simp
end
structure vY (cs:List Cl) (ms:List Me) (ret:Int):Prop where
 fld:∀c,c<cs.length->∀n,n<(nth bL cs c).fields.length->1<=(nth bS (nth bL cs c).fields n).kind/\(nth bS (nth bL cs c).fields n).kind<=3
 ret:0<=ret/\ret<=3
 prm:∀m,m<ms.length->∀n,n<(nth bT ms m).params.length->1<=(nth bS (nth bT ms m).params n).kind/\(nth bS (nth bT ms m).params n).kind<=3
section
variable {cs:List Cl} {ms:List Me} {ret:Int}
theorem Ie (hk:vY cs ms ret) (regs:Int) (i:In):fk ms regs i =
  (decide (0<=i.a/\i.a<ms.length/\i.args.length=(nth bT ms i.a.toNat).params.length) &&
   (List.range i.args.length).all (fun k=>dJ regs (nth (0:Int) i.args k) (nth bS (nth bT ms i.a.toNat).params k).kind)):=by
 unfold fk
 by_cases h:0<=i.a/\i.a<ms.length/\i.args.length=(nth bT ms i.a.toNat).params.length
 ·rw [decide_eq_true h,Bool.true_and,Bool.true_and,Bool.eq_iff_iff,List.all_eq_true,List.all_eq_true]
  constructor
  ·intro g x hx
   have:=g x hx
   rw [List.mem_range] at hx
   rwa [lR _ _ _ (hk.prm _ (by omega) _ (by omega))] at this
  ·intro g x hx
   have:=g x hx
   rw [List.mem_range] at hx
   rwa [lR _ _ _ (hk.prm _ (by omega) _ (by omega))]
 ·rw [decide_eq_false h,Bool.false_and,Bool.false_and]
theorem OK (hk:vY cs ms ret) (fS:Nat) (regs:Int) (i:In) :
  bU cs ms fS regs ret i=mV cs ms fS regs ret i:=by
 have ha:=Ie hk regs i
 obtain ⟨op,a,b,c,n,args⟩:=i
 dsimp only at ha
 have w1:km 1=1:=rfl
 have w2:km 2=2:=rfl
 have w3:km 3=1:=rfl
 by_cases h:1<=op/\op<=24
 ·have:op=1∨op=2∨op=3∨op=4∨op=5∨op=6∨op=7∨op=8∨op=9∨op=10∨op=11∨op=12∨op=13∨op=14∨op=15∨op=16∨op=17∨op=18∨op=19∨op=20∨op=21∨op=22∨op=23∨op=24:=by omega
  have kf:∀x y:Int,aQ regs (mU cs x y) [a]=(decide (0<=x/\x<cs.length/\0<=y/\y<(nth bL cs x.toNat).fields.length)&&dJ regs a (nth bS (nth bL cs x.toNat).fields y.toNat).kind):=by
   intro x y
   by_cases g:0<=x/\x<cs.length/\0<=y/\y<(nth bL cs x.toNat).fields.length
   ·unfold mU;rw [if_pos g,decide_eq_true g,lR _ _ _ (hk.fld _ (by omega) _ (by omega))];rfl
   ·unfold mU;rw [if_neg g,decide_eq_false g,rZ _ _ _ (by omega)];rfl
  have kr:mF regs ret a=if ret=0 then decide (a=0) else dJ regs a ret:=by
   unfold mF
   by_cases g:ret=0
   ·rw [if_pos g,if_pos g]
   ·have:=hk.ret;rw [if_neg g,if_neg g,lR _ _ _ (by omega)]
  have kc:∀k x:Int,aQ regs k [x]=(decide (1<=k/\k<=3)&&dJ regs x k):=by
   intro k x
   by_cases g:1<=k/\k<=3
   ·rw [lR _ _ _ g,decide_eq_true g];rfl
   ·rw [rZ _ _ _ g,decide_eq_false g];rfl
  clear hk
  rcases this with rfl|rfl|rfl|rfl|rfl|rfl|rfl|rfl|rfl|rfl|rfl|rfl|rfl|rfl|rfl|rfl|rfl|rfl|rfl|rfl|rfl|rfl|rfl|rfl
  all_goals
   simp only [bU,aW,mV,cA,gK,o5,aM,bp,H8,Ia,Ib,Ic,Ap]
   simp only [ha,kf,kr]
   try simp only [kc]
   generalize args.length=L at *
   try generalize (List.range L).all _=AL at *
   try generalize (nth bT ms a.toNat).params.length=PL at *
   rw [Bool.eq_iff_iff]
   simp [dJ]
   try first
    | ((repeat' split)<;>omega)
    | (cases AL<;>simp<;>omega)
 ·have hn:aW op=none:=by
   unfold aW
   repeat rw [if_neg (by omega)]
  have e:decide (1<=op/\op<=24)=false:=decide_eq_false h
  unfold bU mV
  dsimp only
  rw [hn,e,Bool.false_and]
end
def o6 (m:Me):Bool:=decide (m.stack=0)&&(decide (m.locs=0)&&decide (max 1 (cj m.params:Int)<=m.regs/\m.regs<=90))
def ru (cs:List Cl) (ms:List Me) (m:Me):Bool:=decide (1<=(m.code.length:Int)/\(m.code.length:Int)<=2400)&&m.code.all (mV cs ms m.code.length m.regs m.ret.kind)
def nU (cs:List Cl) (ms:List Me) (m:Me):Bool:=tL cs.length m&&(o6 m&&ru cs ms m)
def jm (f:Fi):Bool:=dt f.classes&&(decide (1<=(f.methods.length:Int)/\(f.methods.length:Int)<=8)&&f.methods.all (nU f.classes f.methods))
section
variable {nc:Nat}
theorem yb {t:Ty} (h:fP nc t=true):1<=t.kind/\t.kind<=3:=by
 unfold fP at h;rw [decide_eq_true_eq] at h;omega
theorem Ig {t:Ty} (h:mh nc t=true):0<=t.kind/\t.kind<=3:=by
 unfold mh fP at h;rw [Bool.or_eq_true,decide_eq_true_eq,decide_eq_true_eq] at h;omega
theorem Ih (h:tL nc m=true):∀n,n<m.params.length->1<=(nth bS m.params n).kind/\(nth bS m.params n).kind<=3:=by
 unfold tL at h;rw [Bool.and_eq_true,Bool.and_eq_true] at h
 exact fun n hn=>yb (List.all_eq_true.1 h.2.1 _ (bE (d:=bS) hn))
theorem OL (h:tL nc m=true):0<=m.ret.kind/\m.ret.kind<=3:=by
 unfold tL at h;rw [Bool.and_eq_true,Bool.and_eq_true,Bool.and_eq_true] at h
 exact Ig h.2.2.1
end
theorem Aq {cs:List Cl} (h:dt cs=true):∀c,c<cs.length->∀n,n<(nth bL cs c).fields.length->1<=(nth bS (nth bL cs c).fields n).kind/\(nth bS (nth bL cs c).fields n).kind<=3:=by
 unfold dt at h;rw [Bool.and_eq_true] at h
 intro c hc n hn
 have:=List.all_eq_true.1 h.2 c (List.mem_range.2 hc)
 unfold qt at this;rw [Bool.and_eq_true] at this
 exact yb (List.all_eq_true.1 this.2 _ (bE (d:=bS) hn))
theorem yd {α:Type} {p q:α->Bool} {l:List α} (h:∀x∈l,p x=q x):l.all p=l.all q:=by
 induction l with
 | nil=>rfl
 | cons a l ih =>
  rw [List.all_cons,List.all_cons,h a (List.mem_cons_self ..),ih fun x hx=>h x (List.mem_cons_of_mem _ hx)]
section
variable {cs:List Cl} {ms:List Me} {m:Me}
theorem ye (h:fG cs ms m=true):tL cs.length m=true:=by
 simp only [fG,dS,tL,kJ,Bool.and_eq_true,decide_eq_true_eq] at h ⊢
 obtain ⟨⟨⟨⟨⟨⟨a,b,c,d⟩,e⟩,f⟩,g⟩,h,i,j,k,l⟩,o⟩:=h
 exact ⟨a,e,g,b,f⟩
theorem Du (hk:vY cs ms m.ret.kind):fG cs ms m=nU cs ms m:=by
 have hi:m.code.all (bU cs ms m.code.length m.regs m.ret.kind)=m.code.all (mV cs ms m.code.length m.regs m.ret.kind):=yd fun x _=>OK hk ..
 rw [Bool.eq_iff_iff]
 simp only [fG,nU,dS,tL,o6,ru,kJ,Bool.and_eq_true,decide_eq_true_eq,hi]
 constructor
 ·rintro ⟨⟨⟨⟨⟨⟨a,b,c,d⟩,e⟩,f⟩,g⟩,h,i,j,k,l⟩,o⟩
  exact ⟨⟨a,e,g,b,f⟩,⟨h,i,by omega,k⟩,⟨by omega,d⟩,o⟩
 ·rintro ⟨⟨a,e,g,b,f⟩,⟨h,i,j,k⟩,⟨c,d⟩,o⟩
  exact ⟨⟨⟨⟨⟨⟨a,b,by omega,d⟩,e⟩,f⟩,g⟩,h,i,by omega,k,by omega⟩,o⟩
end
theorem Lm (f:Fi):bJ f=jm f:=by
 unfold bJ jm
 cases hm:dt f.classes
 ·rfl
 have hn:decide (1<=f.methods.length/\f.methods.length<=8)=decide (1<=(f.methods.length:Int)/\(f.methods.length:Int)<=8):=by
  rw [Bool.eq_iff_iff,decide_eq_true_eq,decide_eq_true_eq];omega
 rw [hn,Bool.and_assoc]
 congr 2
 by_cases hh:∀m∈f.methods,tL f.classes.length m=true
 ·exact yd fun m iG=>Du ⟨Aq hm,OL (hh m iG),fun k hk=>Ih (hh _ (bE (d:=bT) hk))⟩
 ·have e1:f.methods.all (fG f.classes f.methods)=false:=by
   rw [Bool.eq_false_iff];intro hc
   exact hh fun m iG=>ye (List.all_eq_true.1 hc m iG)
  have e2:f.methods.all (nU f.classes f.methods)=false:=by
   rw [Bool.eq_false_iff];intro hc
   refine hh fun m iG=>?_
   have:=List.all_eq_true.1 hc m iG
   unfold nU at this;rw [Bool.and_eq_true] at this;exact this.1
  rw [e1,e2]
theorem nV (x n:Int) (w:World) :
  χ 244 #[ι x,ι n] w fun e w'=>e=.returned (.bool (decide (0<=x/\x<n)))/\w'=w:=by
 go_enter func244,ntmps244
 go_wp2
 all_goals
  go_ret
  refine ⟨ag ?_,rfl⟩
  rw [Bool.eq_iff_iff];simp;try omega
theorem gY (n lo hi:Int) (w:World) :
  χ 226 #[ι n,ι lo,ι hi] w fun e w'=>e=.returned (.bool (decide (lo<=n/\n<=hi)))/\w'=w:=by
 go_enter func226,ntmps226
 go_wp2
 all_goals
  go_ret
  refine ⟨ag ?_,rfl⟩
  rw [Bool.eq_iff_iff];simp;try omega
theorem bj {p:Prop} (h:p):Θ p:=h
abbrev nW (m:Me) (P C K:Option Addr) (p c k:Nat) (nc nm:Nat) (A B:Option Addr) (x y:Nat):Value :=
 .agg #[.slice P m.params.length p,ι m.ret.kind,ι m.ret.cls,ι m.stack,ι m.locs,ι m.regs,.slice C m.code.length c,.slice K m.hands.length k,.slice A nc x,.slice B nm y]
abbrev OM (m:Me) (P C K:Option Addr) (p c k:Nat) (nc nm:Nat) (A B:Option Addr) (x y:Nat):Obj :=
 .cells #[.slice P m.params.length p,ι m.ret.kind,ι m.ret.cls,ι m.stack,ι m.locs,ι m.regs,.slice C m.code.length c,.slice K m.hands.length k,.slice A nc x,.slice B nm y] 137
abbrev SL (i:In) (Q:Option Addr) (q:Nat):Obj:=.cells #[ι i.op,ι i.a,ι i.b,ι i.c,ι i.n,.slice Q i.args.length q] 55
abbrev o7 (i:In) (Q:Option Addr) (q:Nat):Value:=.agg #[ι i.op,ι i.a,ι i.b,ι i.c,ι i.n,.slice Q i.args.length q]
structure D1 (w:World) (b:Nat) (m:Me) (P C K:Option Addr) (p c k:Nat) (nc nm:Nat) (A B:Option Addr) (x y:Nat):Prop where
 m0:w.cell? ⟨b,0,none⟩=some (.slice P m.params.length p)
 m1:w.cell? ⟨b,1,none⟩=some (ι m.ret.kind)
 m2:w.cell? ⟨b,2,none⟩=some (ι m.ret.cls)
 m3:w.cell? ⟨b,3,none⟩=some (ι m.stack)
 m4:w.cell? ⟨b,4,none⟩=some (ι m.locs)
 m5:w.cell? ⟨b,5,none⟩=some (ι m.regs)
 m6:w.cell? ⟨b,6,none⟩=some (.slice C m.code.length c)
 m7:w.cell? ⟨b,7,none⟩=some (.slice K m.hands.length k)
 m8:w.cell? ⟨b,8,none⟩=some (.slice A nc x)
 m9:w.cell? ⟨b,9,none⟩=some (.slice B nm y)
theorem D1.bl (h:Bl w w') {P C K:Option Addr} {p c k nc nm:Nat} {A B:Option Addr} {x y:Nat} (hb:D1 w b m P C K p c k nc nm A B x y):D1 w' b m P C K p c k nc nm A B x y :=
 ⟨h.cell hb.m0,h.cell hb.m1,h.cell hb.m2,h.cell hb.m3,h.cell hb.m4,h.cell hb.m5,h.cell hb.m6,h.cell hb.m7,h.cell hb.m8,h.cell hb.m9⟩
theorem D1.new (w:World) (m:Me) (P C K:Option Addr) (p c k nc nm:Nat) (A B:Option Addr) (x y:Nat):D1 (w.alloc (OM m P C K p c k nc nm A B x y)) w.heap.size m P C K p c k nc nm A B x y :=
 ⟨ai rfl,ai rfl,ai rfl,ai rfl,ai rfl,ai rfl,ai rfl,ai rfl,ai rfl,ai rfl⟩
structure Ln (w:World) (b:Nat) (i:In) (Q:Option Addr) (q:Nat):Prop where
 i0:w.cell? ⟨b,0,none⟩=some (ι i.op)
 i1:w.cell? ⟨b,1,none⟩=some (ι i.a)
 i2:w.cell? ⟨b,2,none⟩=some (ι i.b)
 i3:w.cell? ⟨b,3,none⟩=some (ι i.c)
 i4:w.cell? ⟨b,4,none⟩=some (ι i.n)
 i5:w.cell? ⟨b,5,none⟩=some (.slice Q i.args.length q)
theorem Ln.bl (h:Bl w w') {i:In} {Q:Option Addr} {q:Nat} (hb:Ln w b i Q q):Ln w' b i Q q :=
 ⟨h.cell hb.i0,h.cell hb.i1,h.cell hb.i2,h.cell hb.i3,h.cell hb.i4,h.cell hb.i5⟩
theorem Ln.new (w:World) (i:In) (Q:Option Addr) (q:Nat):Ln (w.alloc (SL i Q q)) w.heap.size i Q q :=
 ⟨ai rfl,ai rfl,ai rfl,ai rfl,ai rfl,ai rfl⟩
abbrev eW (w:World) (m:Me) (P C K:Option Addr) (p c k:Nat) (nc nm:Nat) (A B:Option Addr) (x y:Nat) (i:In) (Q:Option Addr) (q:Nat):World :=
 (w.alloc (OM m P C K p c k nc nm A B x y)).alloc (SL i Q q)
section
variable (w:World) (m:Me) (P C K:Option Addr) (p c k nc nm:Nat) (A B:Option Addr) (x y:Nat) (i:In) (Q:Option Addr) (q:Nat)
theorem fF :
  D1 (eW w m P C K p c k nc nm A B x y i Q q) w.heap.size m P C K p c k nc nm A B x y:=(D1.new ..).bl ((Bl.refl _).alloc _)
theorem fp :
  Ln (eW w m P C K p c k nc nm A B x y i Q q) (w.heap.size+1) i Q q:=by
 have:=Ln.new (w.alloc (OM m P C K p c k nc nm A B x y)) i Q q
 rwa [World.size_alloc] at this
end
section
variable {w:World} {n:Nat}
theorem bz (hn:n=w.heap.size) (ha:cJ a):aU (w.alloc (.cells #[ι a] t)) (some ⟨n,0,none⟩) [a]:=by
 subst hn
 refine ⟨by unfold maxLen;simp,Or.inr ⟨_,_,rfl,fun i hi=>?_⟩⟩
 obtain rfl:i=0:=by simpa using hi
 exact ⟨ai rfl,ha⟩
theorem r9 (hn:n=w.heap.size) {b:Int} (ha:cJ a) (hb:cJ b):aU (w.alloc (.cells #[ι a,ι b] t)) (some ⟨n,0,none⟩) [a,b]:=by
 subst hn
 refine ⟨by unfold maxLen;simp,Or.inr ⟨_,_,rfl,fun i hi=>?_⟩⟩
 have:i=0∨i=1:=by simp at hi;omega
 rcases this with rfl|rfl
 ·exact ⟨ai rfl,ha⟩
 ·exact ⟨ai rfl,hb⟩
theorem sa (hn:n=w.heap.size) {b c:Int} (ha:cJ a) (hb:cJ b) (hc:cJ c):aU (w.alloc (.cells #[ι a,ι b,ι c] t)) (some ⟨n,0,none⟩) [a,b,c]:=by
 subst hn
 refine ⟨by unfold maxLen;simp,Or.inr ⟨_,_,rfl,fun i hi=>?_⟩⟩
 have:i=0∨i=1∨i=2:=by simp at hi;omega
 rcases this with rfl|rfl|rfl
 ·exact ⟨ai rfl,ha⟩
 ·exact ⟨ai rfl,hb⟩
 ·exact ⟨ai rfl,hc⟩
end
section
variable (op:Int) (w:World)
theorem Ar :
  χ 227 #[ι op] w fun e w'=>e=.returned (.bool (H8 op))/\w'=w:=by
 go_enter func227,ntmps227
 go_wp2
 all_goals
  go_ret
  refine ⟨ag ?_,rfl⟩
  unfold H8
  first
   | (symm;apply decide_eq_true;simp_all;done)
   | (symm;apply decide_eq_false;simp_all;done)
theorem Av :
  χ 228 #[ι op] w fun e w'=>e=.returned (.bool (Ia op))/\w'=w:=by
 go_enter func228,ntmps228
 go_wp2
 all_goals
  go_ret
  refine ⟨ag ?_,rfl⟩
  unfold Ia
  first
   | (symm;apply decide_eq_true;simp_all;done)
   | (symm;apply decide_eq_false;simp_all;done)
theorem Aw :
  χ 229 #[ι op] w fun e w'=>e=.returned (.bool (Ib op))/\w'=w:=by
 go_enter func229,ntmps229
 go_wp2
 all_goals
  go_ret
  refine ⟨ag ?_,rfl⟩
  unfold Ib
  first
   | (symm;apply decide_eq_true;simp_all;done)
   | (symm;apply decide_eq_false;simp_all;done)
end
theorem tM (i:In) (Q:Option Addr) (q:Nat) (w:World) (hq:i.args.length<=maxLen) :
  χ 183 #[o7 i Q q] w fun e w'=>e=.returned (.bool (o5 i))/\Bl w w':=by
 unfold maxLen at hq
 have hfin:decide (i.op=18∨i.args.length=0)=((i.op==18)||((i.args.length:Int)==0)):=by rw [Bool.eq_iff_iff];simp
 have eb:decide (i.b=0)=(i.b==0):=by rw [Bool.eq_iff_iff];simp
 have ec:decide (i.c=0)=(i.c==0):=by rw [Bool.eq_iff_iff];simp
 have en:decide (i.n=0)=(i.n==0):=by rw [Bool.eq_iff_iff];simp
 unfold o5
 rw [hfin,eb,ec,en]
 clear hfin eb ec en
 cases hB:H8 i.op<;>cases hC:Ia i.op<;>cases hN:Ib i.op
 all_goals
  go_enter func183,ntmps183
  go_wp2_with (first
   | (go_at_call 227;refine (Ar _ _).mono ?_;rintro e w0 ⟨he,gH⟩;rw [hB] at he;subst he;rw [gH];clear gH w0)
   | (go_at_call 228;refine (Av _ _).mono ?_;rintro e w0 ⟨he,gH⟩;rw [hC] at he;subst he;rw [gH];clear gH w0)
   | (go_at_call 229;refine (Aw _ _).mono ?_;rintro e w0 ⟨he,gH⟩;rw [hN] at he;subst he;rw [gH];clear gH w0))
  all_goals
   go_ret
   exact ⟨ag (by simp [*]),(Bl.refl _).alloc _⟩
theorem jH (m:Me) (P C K:Option Addr) (p c k:Nat) (cs:List Cl) (nm:Nat) (A B:Option Addr) (x y:Nat) (i:In) (Q:Option Addr) (q:Nat) (w:World) (hl:bK w A cs) :
  χ 223 #[nW m P C K p c k cs.length nm A B x y,o7 i Q q] w fun e w'=>e=.returned (ι (mU cs i.c i.n))/\Bl w w':=by
 have bM:Θ (Bl w (eW w m P C K p c k cs.length nm A B x y i Q q)):=((Bl.refl _).alloc _).alloc _
 have HL:Θ (bK w A cs):=hl
 have hm:=hl.1
 unfold maxLen at hm
 clear hl
 by_cases h:0<=i.c/\i.c<cs.length
 ·have hd:decide (0<=i.c/\i.c<(cs.length:Int))=true:=decide_eq_true h
  obtain ⟨n,hn⟩:∃n:Nat,i.c=n:=⟨i.c.toNat,by omega⟩
  rcases (HL.o.bl bM.o).2 with h0|⟨b,off,rfl,hc⟩
  ·omega
  obtain ⟨-,-,A',c',hfl,hty⟩:=hc n (by omega)
  have Jy:=hty.1
  unfold maxLen at Jy
  by_cases h2:0<=i.n/\i.n<(nth bL cs n).fields.length
  ·have Qh:decide (0<=i.n/\i.n<((nth bL cs n).fields.length:Int))=true:=decide_eq_true h2
   obtain ⟨t,ht⟩:∃t:Nat,i.n=t:=⟨i.n.toNat,by omega⟩
   rcases hty.2 with h0|⟨b2,Ux,rfl,BG⟩
   ·omega
   obtain ⟨g1,g2,-⟩:=BG t (by omega)
   have hb:mU cs i.c i.n=(nth bS (nth bL cs n).fields t).kind:=by
    unfold mU;rw [if_pos (by rw [hn,Int.toNat_natCast];omega),hn,ht,Int.toNat_natCast,Int.toNat_natCast]
   rw [hb]
   clear hb hc hty BG HL
   obtain ⟨op,a,b',ic,iN,args⟩:=i
   dsimp only at *
   subst hn ht
   go_enter func223,ntmps223
   go_wp2_with (first
    | (go_at_call 97;refine (bk _ _ _).mono ?_;rintro e w1 ⟨he,hw1⟩;rw [hd] at he;subst he;rw [hw1];clear hw1 w1)
    | (go_at_call 244;refine (nV _ _ _).mono ?_;rintro e w1 ⟨he,hw1⟩;rw [Qh] at he;subst he;rw [hw1];clear hw1 w1))
   go_ret
   exact ⟨rfl,bM.o⟩
  ·have Qh:decide (0<=i.n/\i.n<((nth bL cs n).fields.length:Int))=false:=decide_eq_false h2
   have hb:mU cs i.c i.n=0:=by
    unfold mU;rw [if_neg (by rw [hn,Int.toNat_natCast];omega)]
   rw [hb]
   clear hb hc hty HL
   obtain ⟨op,a,b',ic,iN,args⟩:=i
   dsimp only at *
   subst hn
   go_enter func223,ntmps223
   go_wp2_with (first
    | (go_at_call 97;refine (bk _ _ _).mono ?_;rintro e w1 ⟨he,hw1⟩;rw [hd] at he;subst he;rw [hw1];clear hw1 w1)
    | (go_at_call 244;refine (nV _ _ _).mono ?_;rintro e w1 ⟨he,hw1⟩;rw [Qh] at he;subst he;rw [hw1];clear hw1 w1))
   go_ret
   exact ⟨rfl,bM.o⟩
 ·have hd:decide (0<=i.c/\i.c<(cs.length:Int))=false:=decide_eq_false h
  have hb:mU cs i.c i.n=0:=by unfold mU;rw [if_neg (by omega)]
  rw [hb]
  clear hb
  go_enter func223,ntmps223
  go_wp2_with (go_at_call 97;refine (bk _ _ _).mono ?_;rintro e w1 ⟨he,hw1⟩;rw [hd] at he;subst he;rw [hw1];clear hw1 w1)
  go_ret
  exact ⟨rfl,bM.o⟩
theorem eE {P:Program} {md:Region.Mode} {ops:Array Oper} {Q:Exit->Act->World->Prop} {S:World->Prop} {i:Nat} {oi:Oper} {d:Option Tmp} {fuel:Nat} {listed:Array Bool} {a:Act} (hi:ops[i]?=some oi) (hd:oi.dst=d) (hs:Region.noSelect ops=true) (hf:Region.free md ops listed i=true) (hr:(Region.ready md ops listed).contains i=true) (hQ:∀c a w,Q (.panic c) (a.put oi.dst undef) w->Q (.panic c) a w) (hw:Region.wanted oi (yielded ops a.tmps)=false) (hS:S w) (h:wpAnyH P md ops Q S fuel (listed.setIfInBounds i true) (a.put d undef) w):wpAnyH P md ops Q S (fuel+1) listed a w :=
 wpAnyH_take hi hs hf hr hQ (Or.inr ⟨hw,rfl⟩) hS (hd▸h)
section
variable (m:Me) (P C K:Option Addr) (p c k nc nm:Nat) (A B:Option Addr) (x y:Nat)
theorem aP (kind:Int) (R:Option Addr) (r:Nat) (rs:List Int) (w:World) (h1:1<=m.regs) (h2:m.regs<=90) (hR:aU w R rs) :
  χ 222 #[nW m P C K p c k nc nm A B x y,ι kind,.slice R rs.length r] w fun e w'=>e=.returned (.bool (aQ m.regs kind rs))/\Bl w w':=by
 have bM:Θ (Bl w (w.alloc (OM m P C K p c k nc nm A B x y))):=(Bl.refl _).alloc _
 have H5:Θ ((w.alloc (OM m P C K p c k nc nm A B x y)).cell? ⟨w.heap.size,5,none⟩=some (ι m.regs)):=ai rfl
 obtain ⟨hm,hR⟩:=hR
 unfold maxLen at hm
 by_cases hk:1<=kind/\kind<=3
 ·have dk:decide (1<=kind/\kind<=3)=true:=decide_eq_true hk
  have hw:=lO kind
  obtain ⟨W,hW⟩:∃W,km kind=W:=⟨_,rfl⟩
  have hb:aQ m.regs kind rs=rs.all (fun r=>decide (0<=r/\r<=m.regs-W)):=by unfold aQ;rw [dk,hW];rfl
  rw [hb]
  rw [hW] at hw
  clear hb hk
  have HG:Θ ((∀q,q<rs.length->decide (0<=nth (0:Int) rs q/\nth (0:Int) rs q<=m.regs-W)=true)->rs.all (fun r=>decide (0<=r/\r<=m.regs-W))=true):=fun h=>g8 (d:=(0:Int)) h
  have HB:Θ (∀q,q<rs.length->decide (0<=nth (0:Int) rs q/\nth (0:Int) rs q<=m.regs-W)=false->rs.all (fun r=>decide (0<=r/\r<=m.regs-W))=false):=fun q hq hf=>jv (d:=(0:Int)) hq hf
  obtain ⟨RR,Qu⟩:∃RR,rs.all (fun r=>decide (0<=r/\r<=m.regs-W))=RR:=⟨_,rfl⟩
  rw [Qu] at HG HB ⊢
  clear Qu
  go_enter func222,ntmps222
  go_wp2_with (go_at_call 36;refine (bP _ _ _ _).mono ?_;rintro e w0 ⟨he,gH⟩;rw [dk] at he;subst he;rw [gH];clear gH w0)
  go_loopw [14] (fun i wr=>∃q:Nat,q<=rs.length/\i=ι q/\Θ (∀j,j<q->decide (0<=nth (0:Int) rs j/\nth (0:Int) rs j<=m.regs-W)=true)/\Θ (Bl w wr)/\Θ (wr.cell? ⟨w.heap.size,5,none⟩=some (ι m.regs))) (fun i _=>rs.length-(intOf i).toNat)
  case atStart=>exact ⟨0,Nat.zero_le _,rfl,fun j hj=>absurd hj (Nat.not_lt_zero _),bM.o,H5.o⟩
  case round =>
   clear bM H5
   obtain ⟨q,hq,rfl,lg,hg,h5⟩:=hrel
   by_cases dI:q<rs.length
   ·rcases hR with h0|⟨b,off,rfl,hcell⟩
    ·omega
    have g0:=hg.o.cell (hcell q dI).1
    have y5:=aj h5.o
    have HN:Θ (decide (0<=nth (0:Int) rs q/\nth (0:Int) rs q<=m.regs-W)=false->RR=false):=HB.o q dI
    generalize hX:nth (0:Int) rs q=X at *
    have HX:Θ (nth (0:Int) rs q=X):=hX
    clear hcell HB hX
    obtain ⟨T,hT⟩:∃T,decide (0<=X/\X<=m.regs-W)=T:=⟨_,rfl⟩
    cases T
    ·have HF:=HN.o hT
     clear HN HG
     go_wp2
     refine az (by kernel_rfl) (by kernel_rfl) fun hne=>?_
     repeat (go_big_quiet_step (first
      | (go_at_call 85;exact Calls.fut_same_eq _ (mf _ _) (congrArg (Value.int .i64) hW))
      | (go_at_call 36;exact Calls.fut_same_eq _ (bP _ _ _ _) (congrArg Value.bool hT))))
     refine wpQuiet_nil ?_
     rintro _ ⟨⟨w2,bX⟩,rfl⟩
     go_wp2
     go_ret
     exact ⟨ag HF.symm,hg.o.trans bX⟩
    ·have s9:Θ (decide (0<=X/\X<=m.regs-W)=true):=hT
     clear HN HG
     go_wp2
     refine az (by kernel_rfl) (by kernel_rfl) fun hne=>?_
     repeat (go_big_quiet_step (first
      | (go_at_call 85;exact Calls.fut_same_eq _ (mf _ _) (congrArg (Value.int .i64) hW))
      | (go_at_call 36;exact Calls.fut_same_eq _ (bP _ _ _ _) (congrArg Value.bool hT))))
     refine wpQuiet_nil ?_
     rintro _ ⟨⟨w2,bX⟩,rfl⟩
     go_wp2
     go_roundw
     case rel=>exact ⟨q+1,by omega,by go_num,fun j hj=>if h:j<q then lg.o j h else by have:j=q:=(by omega);subst this;rw [HX.o];exact s9.o,hg.o.trans bX,bX.cell h5.o⟩
     case measure=>simp [intOf];omega
   ·have hkk:q=rs.length:=by omega
    subst hkk
    have HF:=HG.o lg.o
    clear HG
    go_wp2
    go_ret
    exact ⟨ag HF.symm,hg.o⟩
 ·have dk:decide (1<=kind/\kind<=3)=false:=decide_eq_false hk
  rw [rZ _ _ _ hk]
  go_enter func222,ntmps222
  go_wp2_with (go_at_call 36;refine (bP _ _ _ _).mono ?_;rintro e w0 ⟨he,gH⟩;rw [dk] at he;subst he;rw [gH];clear gH w0)
  go_ret
  exact ⟨rfl,bM.o⟩
theorem Ii (i:In) (Q:Option Addr) (q:Nat) (w:World) (h1:1<=m.regs) (h2:m.regs<=90) (hi:i.ok) :
  χ 225 #[nW m P C K p c k nc nm A B x y,o7 i Q q] w fun e w'=>e=.returned (.bool (mF m.regs m.ret.kind i.a))/\Bl w w':=by
 have bM:Θ (Bl w (eW w m P C K p c k nc nm A B x y i Q q)):=((Bl.refl _).alloc _).alloc _
 have g7:=bj hi.2.1
 clear hi
 by_cases h:m.ret.kind=0
 ·have hb:mF m.regs m.ret.kind i.a=(i.a==0):=by unfold mF;rw [if_pos h,Bool.eq_iff_iff];simp
  rw [hb]
  clear hb
  go_enter func225,ntmps225
  go_wp2
  all_goals
   go_ret
   exact ⟨ag (by simp [*]),((Bl.refl _).alloc _).alloc _⟩
 ·have hb:mF m.regs m.ret.kind i.a=aQ m.regs m.ret.kind [i.a]:=by unfold mF;rw [if_neg h]
  rw [hb]
  clear hb
  obtain ⟨R,hR⟩:∃R,aQ m.regs m.ret.kind [i.a]=R:=⟨_,rfl⟩
  rw [hR]
  have h0:(m.ret.kind==0)=false:=by simpa using h
  clear h
  go_enter func225,ntmps225
  go_wp2_with (go_at_call 222;refine (aP m _ _ _ _ _ _ _ _ _ _ _ _ _ _ _ [i.a] _ h1 h2 (bz (by simp [World.size_alloc]) g7.o)).mono ?_;rintro e w1 ⟨he,g1⟩;rw [hR] at he;subst he)
  go_ret
  exact ⟨rfl,(bM.o.alloc _).trans g1⟩
end
def sd (w:World) (b off:Nat) (i:In) (Q:Option Addr) (q:Nat):Prop :=
 w.cell? ⟨b,off,none⟩=some (ι i.op)/\w.cell? ⟨b,off+1,none⟩=some (ι i.a)/\w.cell? ⟨b,off+2,none⟩=some (ι i.b)
  /\ w.cell? ⟨b,off+3,none⟩=some (ι i.c)/\w.cell? ⟨b,off+4,none⟩=some (ι i.n)/\w.cell? ⟨b,off+5,none⟩=some (.slice Q i.args.length q)
abbrev inV (i:In) (Q:Option Addr) (q:Nat):Value:=.agg #[ι i.op,ι i.a,ι i.b,ι i.c,ι i.n,.slice Q i.args.length q]
theorem D2 (n:Int):(n==wrap32 n)=decide (-2147483648<=n/\n<=2147483647):=by
 rw [Bool.eq_iff_iff];simp;unfold wrap32;omega
abbrev Zj (i:In) (Q:Option Addr) (q:Nat):Obj:=.cells #[ι i.op,ι i.a,ι i.b,ι i.c,ι i.n,.slice Q i.args.length q] 55
abbrev D3 (nc nm:Nat) (A B:Option Addr) (x y:Nat):Obj:=.cells #[.slice A nc x,.slice B nm y] 25
end Go.Proofs.YtgbebphpjnmafaaGreat
