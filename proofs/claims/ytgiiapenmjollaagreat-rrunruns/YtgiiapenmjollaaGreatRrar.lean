import Derived.Test.YtgiiapenmjollaaGreatRrab
import Derived.Deep.RegionHeld3
namespace Go.Proofs.YtgiiapenmjollaaGreat
set_option linter.all false
set_option maxHeartbeats 40000000
set_option maxRecDepth 100000
open Go.RowKit
open Tryz
variable {a:Int} {m:Me} {b:Nat} {t:TypeId} {w w':World}
def kx (k:Int):Int:=if k=0 then 0 else if k=2 then 2 else 1
theorem lT (k:Int):0<=kx k/\kx k<=2:=by unfold kx;split<;>(try split)<;>omega
def OQ (cs:List Cl) (c k:Int):Bool:=decide (0<=c/\c<cs.length/\0<=k/\k<(nth bL cs c.toNat).fields.length)
def bB (cs:List Cl) (i:In):Bool :=
 if i.op=4∨i.op=5 then decide (1<=i.b/\i.b<=3)
 else if i.op=12 then decide (1<=i.b/\i.b<=4)
 else if i.op=15∨i.op=16 then OQ cs i.a i.b
 else decide (i.b=0)
theorem ml (k:Int) (w:World) :
  χ 85 #[ι k] w fun e w'=>e=.returned (ι (kx k))/\w'=w:=by
 by_cases h0:k=0
 ·subst h0
  go_enter func85,ntmps85
  go_wp2
  go_ret
  exact ⟨rfl,rfl⟩
 by_cases h2:k=2
 ·subst h2
  go_enter func85,ntmps85
  go_wp2
  go_ret
  exact ⟨rfl,rfl⟩
 have hk:kx k=1:=by unfold kx;rw [if_neg h0,if_neg h2]
 rw [hk]
 clear hk
 go_enter func85,ntmps85
 go_wp2
 go_ret
 exact ⟨rfl,rfl⟩
theorem D3 (A:Option Addr) (c:Nat) (F:List Ty) (w:World) (hl:cX w A F) (hb:F.length<=1000000) (hk:∀k,k<F.length->(nth bS F k).kind≠0) :
  χ 82 #[.slice A F.length c] w fun e w'=>e=.returned (ι (cj F:Nat))/\Bl w w':=by
 obtain ⟨hm,hl⟩:=hl
 clear hm
 have HS:Θ (∀k,k<F.length->cj (F.take (k+1))=cj (F.take k)+(if (nth bS F k).kind=2 then 2 else 1)):=po F
 have HB:Θ (∀k,cj (F.take k)<=2*k):=fun k=>by have:=oC (F.take k);have:=List.length_take_le k F;omega
 have HK:Θ (∀k,k<F.length->(nth bS F k).kind≠0):=hk
 clear hk
 go_enter func82,ntmps82
 go_wp2
 go_loopw [3,8] (fun n i wr=>∃k:Nat,k<=F.length/\i=ι k/\n=ι ((cj (F.take k):Nat):Int)/\Θ (Bl w wr)) (fun _ i _=>F.length-(intOf i).toNat)
 case atStart=>exact ⟨0,Nat.zero_le _,rfl,by simp [cj],Bl.refl _⟩
 case round =>
  obtain ⟨k,hk,rfl,rfl,hg⟩:=hrel
  have h2:=HB.o k
  by_cases hlt:k<F.length
  ·rcases hl with h0|⟨b,off,rfl,hcell⟩
   ·omega
   have ht:=hg.o.cell (hcell k hlt).1
   have St:=hg.o.cell (hcell k hlt).2.1
   have hs:=HS.o k hlt
   have hw:((cj (F.take (k+1)):Nat):Int)=((cj (F.take k):Nat):Int)+kx (nth bS F k).kind:=by
    have:=HK.o k hlt
    rw [hs];unfold kx;rw [if_neg this];split<;>simp
   have hwb:=lT (nth bS F k).kind
   have Kk:Θ (((cj (F.take (k+1)):Nat):Int)=((cj (F.take k):Nat):Int)+kx (nth bS F k).kind):=hw
   clear hcell hs hw
   generalize hW:kx (nth bS F k).kind=W at *
   go_wp2_with (go_at_call 85;refine (ml _ _).mono ?_;rintro e w1 ⟨he,rfl⟩;rw [hW] at he;subst he)
   go_roundw
   case rel=>exact ⟨k+1,by omega,by go_num,by rw [Kk.o],hg.o.alloc _⟩
   case measure=>simp [intOf];omega
  ·obtain rfl:k=F.length:=by omega
   rw [List.take_length] at *
   go_wp2
   go_ret
   exact ⟨rfl,hg.o⟩
section
variable {w:World} {k c:Int} {t:TypeId}
theorem Lr (hk:cJ k) (hc:cJ c):cX (w.alloc (.cells #[ι k,ι c] t)) (some ⟨w.heap.size,0,none⟩) [⟨k,c⟩]:=by
 refine ⟨by unfold maxLen;simp,Or.inr ⟨_,_,rfl,fun i hi=>?_⟩⟩
 obtain rfl:i=0:=by simpa using hi
 exact ⟨ai rfl,ai rfl,hk,hc⟩
theorem BW {o:Obj} (hk:cJ k) (hc:cJ c):cX ((w.alloc o).alloc (.cells #[ι k,ι c] t)) (some ⟨w.heap.size+1,0,none⟩) [⟨k,c⟩]:=by
 have:=Lr (w:=w.alloc o) (t:=t) hk hc
 rwa [World.size_alloc] at this
end
theorem sd (k x:Int) (n:Nat) (w:World) (hk:cJ k) (hx:cJ x) :
  χ 80 #[.agg #[ι k,ι x],ι n] w fun e w'=>e=.returned (.bool (mn n ⟨k,x⟩))/\Bl w w':=by
 by_cases h:k=0/\x=0
 ·obtain ⟨rfl,rfl⟩:=h
  go_enter func80,ntmps80
  go_wp2
  go_ret
  exact ⟨rfl,(Bl.refl _).alloc _⟩
 ·have hb:mn n ⟨k,x⟩=fP n ⟨k,x⟩:=by unfold mn;rw [decide_eq_false h];simp
  rw [hb]
  by_cases h0:k=0
  ·subst h0
   have JK:(x==0)=false:=by simp;omega
   have mP:x≠0:=by omega
   go_enter func80,ntmps80
   go_wp2_with (go_at_call 79;refine (fy (some ⟨w.heap.size+1,0,none⟩) n 1 [⟨0,x⟩] _ (BW hk hx)).mono ?_;rintro e w1 ⟨rfl,kS⟩)
   go_ret
   exact ⟨ag (by simp),(((Bl.refl _).alloc _).alloc _).trans kS⟩
  ·have Fo:(k==0)=false:=by simp;omega
   go_enter func80,ntmps80
   go_wp2_with (go_at_call 79;refine (fy (some ⟨w.heap.size+1,0,none⟩) n 1 [⟨k,x⟩] _ (BW hk hx)).mono ?_;rintro e w1 ⟨rfl,kS⟩)
   go_ret
   exact ⟨ag (by simp),(((Bl.refl _).alloc _).alloc _).trans kS⟩
theorem lU (h:Hd) (n nc:Nat) (w:World) :
  χ 138 #[.agg #[ι h.fr,ι h.til,ι h.pc,ι h.cls],ι n,ι nc] w fun e w'=>e=.returned (.bool (nk nc n h))/\Bl w w':=by
 obtain ⟨fr,til,pc,cls⟩:=h
 by_cases t1:0<=fr/\fr<til
 ·have d1:decide (0<=fr/\fr<til)=true:=decide_eq_true t1
  by_cases t2:til<=n
  ·by_cases t3:0<=pc/\pc<n
   ·have d3:decide (0<=pc/\pc<(n:Int))=true:=decide_eq_true t3
    have hb:nk nc n ⟨fr,til,pc,cls⟩=decide (0<=cls/\cls<(nc:Int)):=by
     unfold nk;rw [Bool.eq_iff_iff,decide_eq_true_eq,decide_eq_true_eq];dsimp only;omega
    rw [hb]
    clear hb
    go_enter func138,ntmps138
    go_wp2_with (go_at_call 97;refine (bk _ _ _).mono ?_;rintro e w1 ⟨he,rfl⟩;(first|rw [d1] at he|rw [d3] at he|skip);subst he)
    go_ret
    exact ⟨ag (by simp),(Bl.refl _).alloc _⟩
   ·have d3:decide (0<=pc/\pc<(n:Int))=false:=decide_eq_false t3
    have hb:nk nc n ⟨fr,til,pc,cls⟩=false:=by
     unfold nk;rw [decide_eq_false_iff_not];dsimp only;omega
    rw [hb]
    clear hb
    go_enter func138,ntmps138
    go_wp2_with (go_at_call 97;refine (bk _ _ _).mono ?_;rintro e w1 ⟨he,rfl⟩;(first|rw [d1] at he|rw [d3] at he|skip);subst he)
    go_ret
    exact ⟨rfl,(Bl.refl _).alloc _⟩
  ·have hb:nk nc n ⟨fr,til,pc,cls⟩=false:=by
    unfold nk;rw [decide_eq_false_iff_not];dsimp only;omega
   rw [hb]
   clear hb
   go_enter func138,ntmps138
   go_wp2_with (go_at_call 97;refine (bk _ _ _).mono ?_;rintro e w1 ⟨he,rfl⟩;(first|rw [d1] at he|skip);subst he)
   go_ret
   exact ⟨rfl,(Bl.refl _).alloc _⟩
 ·have d1:decide (0<=fr/\fr<til)=false:=decide_eq_false t1
  have hb:nk nc n ⟨fr,til,pc,cls⟩=false:=by
   unfold nk;rw [decide_eq_false_iff_not];dsimp only;omega
  rw [hb]
  clear hb
  go_enter func138,ntmps138
  go_wp2_with (go_at_call 97;refine (bk _ _ _).mono ?_;rintro e w1 ⟨he,rfl⟩;(first|rw [d1] at he|skip);subst he)
  go_ret
  exact ⟨rfl,(Bl.refl _).alloc _⟩
def kO (nc:Nat) (m:Me):Bool:=decide (m.hands.length<=8)&&m.hands.all (nk nc m.code.length)
def tQ (nc:Nat) (m:Me):Bool:=decide (m.params.length<=4)&&(m.params.all (fP nc)&&(mn nc m.ret&&kO nc m))
theorem pW (m:Me) (P C K:Option Addr) (p c k nc:Nat) (w:World) (hK:kR w K m.hands) :
  χ 81 #[sK m P C K p c k,ι nc] w fun e w'=>e=.returned (.bool (kO nc m))/\Bl w w':=by
 obtain ⟨PE,hK⟩:=hK
 unfold maxLen at PE
 by_cases h8:m.hands.length<=8
 ·have hb:kO nc m=m.hands.all (nk nc m.code.length):=by unfold kO;rw [decide_eq_true h8];rfl
  rw [hb]
  clear hb
  have HG:Θ ((∀q,q<m.hands.length->nk nc m.code.length (nth eK m.hands q)=true)->m.hands.all (nk nc m.code.length)=true):=iq
  have HB:Θ (∀q,q<m.hands.length->nk nc m.code.length (nth eK m.hands q)=false->m.hands.all (nk nc m.code.length)=false):=fun q=>jA
  obtain ⟨R,hR⟩:∃R,m.hands.all (nk nc m.code.length)=R:=⟨_,rfl⟩
  rw [hR] at HG HB ⊢
  clear hR
  go_enter func81,ntmps81
  go_wp2
  go_loopw [14] (fun i wr=>∃q:Nat,q<=m.hands.length/\i=ι q/\Θ (∀j,j<q->nk nc m.code.length (nth eK m.hands j)=true)/\Θ (Bl w wr)/\wr.cell? ⟨w.heap.size,6,none⟩=some (.slice C m.code.length c)) (fun i _=>m.hands.length-(intOf i).toNat)
  case atStart=>exact ⟨0,Nat.zero_le _,rfl,fun j hj=>absurd hj (Nat.not_lt_zero _),(Bl.refl _).alloc _,ai rfl⟩
  case round =>
   obtain ⟨q,hq,rfl,lq,hg,h6⟩:=hrel
   by_cases dI:q<m.hands.length
   ·rcases hK with h0|⟨b,off,rfl,hcell⟩
    ·omega
    obtain ⟨g0,g1,g2,g3,-⟩:=hcell q dI
    replace g0:=hg.o.cell g0
    replace g1:=hg.o.cell g1
    replace g2:=hg.o.cell g2
    replace g3:=hg.o.cell g3
    have q6:∀o,(wr.alloc o).cell? ⟨w.heap.size,6,none⟩=some (.slice C m.code.length c):=fun o=>((Bl.refl wr).alloc o).cell h6
    clear hcell HG
    cases hT:nk nc m.code.length (nth eK m.hands q)
    ·have HF:=HB.o q dI hT
     clear HB
     go_wp2_with (go_at_call 138;refine (lU (nth eK m.hands q) _ _ _).mono ?_;rintro e w1 ⟨he,kS⟩;rw [hT] at he;subst he)
     go_ret
     exact ⟨ag HF.symm,(hg.o.alloc _).trans kS⟩
    ·have tl:Θ (nk nc m.code.length (nth eK m.hands q)=true):=hT
     clear HB
     go_wp2_with (go_at_call 138;refine (lU (nth eK m.hands q) _ _ _).mono ?_;rintro e w1 ⟨he,kS⟩;rw [hT] at he;subst he)
     go_roundw
     case rel=>exact ⟨q+1,by omega,by go_num,fun j hj=>if h:j<q then lq.o j h else by have:j=q:=(by omega);subst this;exact tl.o,(hg.o.alloc _).trans kS,kS.cell (q6 _)⟩
     case measure=>simp [intOf];omega
   ·have hkk:q=m.hands.length:=by omega
    subst hkk
    have HF:=HG.o lq.o
    clear HG hK
    go_wp2
    go_ret
    exact ⟨ag HF.symm,hg.o⟩
 ·have hb:kO nc m=false:=by unfold kO;rw [decide_eq_false h8];rfl
  rw [hb]
  clear hb
  go_enter func81,ntmps81
  go_wp2
  go_ret
  exact ⟨rfl,(Bl.refl _).alloc _⟩
def fD (w:World) (b:Nat) (m:Me) (P C K:Option Addr) (p c k:Nat):Prop :=
 w.cell? ⟨b,0,none⟩=some (.slice P m.params.length p)/\w.cell? ⟨b,1,none⟩=some (ι m.ret.kind)/\w.cell? ⟨b,2,none⟩=some (ι m.ret.cls)
  /\ w.cell? ⟨b,3,none⟩=some (ι m.stack)/\w.cell? ⟨b,4,none⟩=some (ι m.locs)/\w.cell? ⟨b,5,none⟩=some (ι m.regs)
  /\ w.cell? ⟨b,6,none⟩=some (.slice C m.code.length c)/\w.cell? ⟨b,7,none⟩=some (.slice K m.hands.length k)
theorem fD.bl (h:Bl w w') {P C K:Option Addr} {p c k:Nat} (hb:fD w b m P C K p c k):fD w' b m P C K p c k :=
 ⟨h.cell hb.1,h.cell hb.2.1,h.cell hb.2.2.1,h.cell hb.2.2.2.1,h.cell hb.2.2.2.2.1,h.cell hb.2.2.2.2.2.1,h.cell hb.2.2.2.2.2.2.1,h.cell hb.2.2.2.2.2.2.2⟩
abbrev mY (m:Me) (P C K:Option Addr) (p c k:Nat):Obj:=.cells #[.slice P m.params.length p,ι m.ret.kind,ι m.ret.cls,ι m.stack,ι m.locs,ι m.regs,.slice C m.code.length c,.slice K m.hands.length k] 49
theorem fD.new (w:World) (m:Me) (P C K:Option Addr) (p c k:Nat):fD (w.alloc (mY m P C K p c k)) w.heap.size m P C K p c k :=
 ⟨ai rfl,ai rfl,ai rfl,ai rfl,ai rfl,ai rfl,ai rfl,ai rfl⟩
theorem lV (m:Me) (P C K:Option Addr) (p c k nc:Nat) (w:World) (hm:ku w m P C K) :
  χ 36 #[sK m P C K p c k,ι nc] w fun e w'=>e=.returned (.bool (tQ nc m))/\Bl w w':=by
 have HM:Θ (ku w m P C K):=hm
 have CP:=hm.1.1
 have hr:=hm.2.2.2
 unfold maxLen at CP
 clear hm
 have hal:Bl w (w.alloc (mY m P C K p c k)):=(Bl.refl _).alloc _
 have D4:=fD.new w m P C K p c k
 by_cases h4:m.params.length<=4
 ·cases hp:m.params.all (fP nc)
  ·have hb:tQ nc m=false:=by unfold tQ;rw [hp,Bool.false_and,Bool.and_false]
   rw [hb]
   clear hb
   have bM:Θ (Bl w (w.alloc (mY m P C K p c k))):=hal
   clear hal D4
   go_enter func36,ntmps36
   go_wp2_with (go_at_call 79;refine (fy _ _ _ _ _ (HM.o.1.bl bM.o)).mono ?_;rintro e w1 ⟨he,kS⟩;rw [hp] at he;subst he)
   go_ret
   exact ⟨rfl,bM.o.trans kS⟩
  ·cases hq:mn nc ⟨m.ret.kind,m.ret.cls⟩
   ·have hb:tQ nc m=false:=by unfold tQ;rw [show mn nc m.ret=false from hq,Bool.false_and,Bool.and_false,Bool.and_false]
    rw [hb]
    clear hb
    have bM:Θ (Bl w (w.alloc (mY m P C K p c k))):=hal
    have Ls:Θ (fD (w.alloc (mY m P C K p c k)) w.heap.size m P C K p c k):=D4
    clear hal D4
    go_enter func36,ntmps36
    go_wp2_with (first
     | (go_at_call 79;refine (fy _ _ _ _ _ (HM.o.1.bl bM.o)).mono ?_;rintro e w1 ⟨he,kS⟩;rw [hp] at he;subst he;obtain ⟨-,b1,b2,-⟩:=Ls.o.bl kS)
     | (go_at_call 80;refine (sd _ _ _ _ hr.1 hr.2.1).mono ?_;rintro e w2 ⟨he,eF⟩;rw [hq] at he;subst he))
    go_ret
    exact ⟨rfl,(bM.o.trans kS).trans eF⟩
   ·have hb:tQ nc m=kO nc m:=by unfold tQ;rw [decide_eq_true h4,hp,show mn nc m.ret=true from hq];rfl
    rw [hb]
    clear hb
    have bM:Θ (Bl w (w.alloc (mY m P C K p c k))):=hal
    have Ls:Θ (fD (w.alloc (mY m P C K p c k)) w.heap.size m P C K p c k):=D4
    clear hal D4
    go_enter func36,ntmps36
    go_wp2_with (first
     | (go_at_call 79;refine (fy _ _ _ _ _ (HM.o.1.bl bM.o)).mono ?_;rintro e w1 ⟨he,kS⟩;rw [hp] at he;subst he;obtain ⟨-,b1,b2,-⟩:=Ls.o.bl kS)
     | (go_at_call 80;refine (sd _ _ _ _ hr.1 hr.2.1).mono ?_;rintro e w2 ⟨he,eF⟩;rw [hq] at he;subst he;obtain ⟨e0,e1,e2,e3,e4,e5,e6,e7⟩:=Ls.o.bl (kS.trans eF))
     | (go_at_call 81;refine (pW m _ _ _ _ _ _ _ _ (HM.o.2.2.1.bl ((bM.o.trans kS).trans eF))).mono ?_;rintro e w3 ⟨he,wA⟩;subst he))
    go_ret
    exact ⟨rfl,((bM.o.trans kS).trans eF).trans wA⟩
 ·have hb:tQ nc m=false:=by unfold tQ;rw [decide_eq_false h4];rfl
  rw [hb]
  clear hb D4
  go_enter func36,ntmps36
  go_wp2
  go_ret
  exact ⟨rfl,hal⟩
def aQ (regs kind:Int) (rs:List Int):Bool:=decide (1<=kind/\kind<=3)&&rs.all (fun r=>decide (0<=r/\r<=regs-kx kind))
def mZ (cs:List Cl) (c n:Int):Int:=if 0<=c/\c<cs.length/\0<=n/\n<(nth bL cs c.toNat).fields.length then (nth bS (nth bL cs c.toNat).fields n.toNat).kind else 0
def fk (ms:List Me) (regs:Int) (i:In):Bool :=
 decide (0<=i.a/\i.a<ms.length/\i.args.length=(nth bT ms i.a.toNat).params.length) &&
  (List.range i.args.length).all (fun k=>aQ regs (nth bS (nth bT ms i.a.toNat).params k).kind [nth (0:Int) i.args k])
def mK (regs ret a:Int):Bool:=if ret=0 then decide (a=0) else aQ regs ret [a]
def cA (cs:List Cl) (ms:List Me) (regs ret:Int) (i:In):Bool :=
 if i.op=1∨i.op=3∨i.op=13∨i.op=16∨i.op=21∨i.op=22 then aQ regs 1 [i.a]
 else if i.op=2∨i.op=24 then aQ regs 2 [i.a]
 else if i.op=4 then aQ regs i.c [i.a,i.b]
 else if i.op=5 then aQ regs 1 [i.a,i.b,i.c]
 else if i.op=6 then aQ regs 2 [i.a,i.b,i.c]
 else if i.op=7 then aQ regs 2 [i.a]&&aQ regs 1 [i.b]
 else if i.op=8 then aQ regs 1 [i.a]&&aQ regs 2 [i.b]
 else if i.op=9 then aQ regs 1 [i.a]&&aQ regs 2 [i.b,i.c]
 else if i.op=11∨i.op=12 then aQ regs 1 [i.c]
 else if i.op=14∨i.op=15 then aQ regs (mZ cs i.c i.n) [i.a]&&aQ regs 3 [i.b]
 else if i.op=17 then aQ regs 1 [i.a,i.b]
 else if i.op=18 then fk ms regs i
 else if i.op=19∨i.op=23 then aQ regs i.b [i.a]
 else if i.op=20 then mK regs ret i.a
 else true
def gK (nc fS:Nat) (i:In):Bool :=
 if i.op=1 then decide (-2147483648<=i.n/\i.n<=2147483647)
 else if i.op=5∨i.op=6 then decide (1<=i.n/\i.n<=8)
 else if i.op=10∨i.op=12 then decide (0<=i.a/\i.a<fS)
 else if i.op=11 then decide (0<=i.a/\i.a<fS)&&decide (1<=i.b/\i.b<=4)
 else if i.op=13∨i.op=16 then decide (0<=i.b/\i.b<nc)
 else if i.op=17 then decide (0<=i.c/\i.c<nc)
 else if i.op=23 then decide (i.b≠3)
 else true
def Ih (op:Int):Bool:=decide (op=4∨op=5∨op=6∨op=7∨op=8∨op=9∨op=11∨op=13∨op=14∨op=15∨op=16∨op=17∨op=19∨op=23)
def Ii (op:Int):Bool:=decide (op=4∨op=5∨op=6∨op=9∨op=11∨op=12∨op=14∨op=15∨op=17)
def Ij (op:Int):Bool:=decide (op=1∨op=2∨op=5∨op=6∨op=14∨op=15)
def pb (i:In):Bool:=(Ih i.op||decide (i.b=0))&&((Ii i.op||decide (i.c=0))&&((Ij i.op||decide (i.n=0))&&decide (i.op=18∨i.args.length=0)))
def nd (cs:List Cl) (ms:List Me) (fS:Nat) (regs ret:Int) (i:In):Bool :=
 decide (1<=i.op/\i.op<=24)&&(cA cs ms regs ret i&&(gK cs.length fS i&&pb i))
section
variable (regs kind:Int)
theorem lW (n:Int) (h:1<=kind/\kind<=3):aQ regs kind [n]=dJ regs n kind:=by
 have:kx kind=if kind=2 then 2 else 1:=by unfold kx;rw [if_neg (by omega)]
 unfold aQ dJ;rw [decide_eq_true h,this];simp
theorem se (l:List Int) (h:¬(1<=kind/\kind<=3)):aQ regs kind l=false:=by unfold aQ;rw [decide_eq_false h];rfl
theorem Ik (a b:Int):aQ regs kind [a,b]=(aQ regs kind [a]&&aQ regs kind [b]):=by
 unfold aQ;cases decide (1<=kind/\kind<=3)<;>simp
theorem Ay (a b c:Int):aQ regs kind [a,b,c]=(aQ regs kind [a]&&(aQ regs kind [b]&&aQ regs kind [c])):=by
 unfold aQ;cases decide (1<=kind/\kind<=3)<;>simp
end
structure wa (cs:List Cl) (ms:List Me) (ret:Int):Prop where
 fld:∀c,c<cs.length->∀n,n<(nth bL cs c).fields.length->1<=(nth bS (nth bL cs c).fields n).kind/\(nth bS (nth bL cs c).fields n).kind<=3
 ret:0<=ret/\ret<=3
 prm:∀m,m<ms.length->∀n,n<(nth bT ms m).params.length->1<=(nth bS (nth bT ms m).params n).kind/\(nth bS (nth bT ms m).params n).kind<=3
section
variable {cs:List Cl} {ms:List Me} {ret:Int}
theorem Il (hk:wa cs ms ret) (regs:Int) (i:In):fk ms regs i =
  (decide (0<=i.a/\i.a<ms.length/\i.args.length=(nth bT ms i.a.toNat).params.length) &&
   (List.range i.args.length).all (fun k=>dJ regs (nth (0:Int) i.args k) (nth bS (nth bT ms i.a.toNat).params k).kind)):=by
 unfold fk
 by_cases h:0<=i.a/\i.a<ms.length/\i.args.length=(nth bT ms i.a.toNat).params.length
 ·rw [decide_eq_true h,Bool.true_and,Bool.true_and,Bool.eq_iff_iff,List.all_eq_true,List.all_eq_true]
  constructor
  ·intro g x hx
   have:=g x hx
   rw [List.mem_range] at hx
   rwa [lW _ _ _ (hk.prm _ (by omega) _ (by omega))] at this
  ·intro g x hx
   have:=g x hx
   rw [List.mem_range] at hx
   rwa [lW _ _ _ (hk.prm _ (by omega) _ (by omega))]
 ·rw [decide_eq_false h,Bool.false_and,Bool.false_and]
theorem OS (hk:wa cs ms ret) (fS:Nat) (regs:Int) (i:In) :
  bU cs ms fS regs ret i=nd cs ms fS regs ret i:=by
 have ha:=Il hk regs i
 obtain ⟨op,a,b,c,n,args⟩:=i
 dsimp only at ha
 have w1:kx 1=1:=rfl
 have w2:kx 2=2:=rfl
 have w3:kx 3=1:=rfl
 by_cases h:1<=op/\op<=24
 ·have:op=1∨op=2∨op=3∨op=4∨op=5∨op=6∨op=7∨op=8∨op=9∨op=10∨op=11∨op=12∨op=13∨op=14∨op=15∨op=16∨op=17∨op=18∨op=19∨op=20∨op=21∨op=22∨op=23∨op=24:=by omega
  have kf:∀x y:Int,aQ regs (mZ cs x y) [a]=(decide (0<=x/\x<cs.length/\0<=y/\y<(nth bL cs x.toNat).fields.length)&&dJ regs a (nth bS (nth bL cs x.toNat).fields y.toNat).kind):=by
   intro x y
   by_cases g:0<=x/\x<cs.length/\0<=y/\y<(nth bL cs x.toNat).fields.length
   ·unfold mZ;rw [if_pos g,decide_eq_true g,lW _ _ _ (hk.fld _ (by omega) _ (by omega))];rfl
   ·unfold mZ;rw [if_neg g,decide_eq_false g,se _ _ _ (by omega)];rfl
  have kr:mK regs ret a=if ret=0 then decide (a=0) else dJ regs a ret:=by
   unfold mK
   by_cases g:ret=0
   ·rw [if_pos g,if_pos g]
   ·have:=hk.ret;rw [if_neg g,if_neg g,lW _ _ _ (by omega)]
  have kc:∀k x:Int,aQ regs k [x]=(decide (1<=k/\k<=3)&&dJ regs x k):=by
   intro k x
   by_cases g:1<=k/\k<=3
   ·rw [lW _ _ _ g,decide_eq_true g];rfl
   ·rw [se _ _ _ g,decide_eq_false g];rfl
  clear hk
  rcases this with rfl|rfl|rfl|rfl|rfl|rfl|rfl|rfl|rfl|rfl|rfl|rfl|rfl|rfl|rfl|rfl|rfl|rfl|rfl|rfl|rfl|rfl|rfl|rfl
  all_goals
   simp only [bU,aW,nd,cA,gK,pb,aM,bp,Ih,Ii,Ij,Ik,Ay]
   simp only [ha,kf,kr]
   try simp only [kc]
   generalize args.length=L at *
   try generalize (List.range L).all _=AL at *
   try generalize (nth bT ms a.toNat).params.length=PL at *
   rw [Bool.eq_iff_iff]
   simp [dJ]
   try first
    | ((repeat' split)<;>omega)
    | (cases AL<;>simp<;>omega)
 ·have hn:aW op=none:=by
   unfold aW
   repeat rw [if_neg (by omega)]
  have e:decide (1<=op/\op<=24)=false:=decide_eq_false h
  unfold bU nd
  dsimp only
  rw [hn,e,Bool.false_and]
end
def pd (m:Me):Bool:=decide (m.stack=0)&&(decide (m.locs=0)&&decide (max 1 (cj m.params:Int)<=m.regs/\m.regs<=90))
def si (cs:List Cl) (ms:List Me) (m:Me):Bool:=decide (1<=(m.code.length:Int)/\(m.code.length:Int)<=2400)&&m.code.all (nd cs ms m.code.length m.regs m.ret.kind)
def nZ (cs:List Cl) (ms:List Me) (m:Me):Bool:=tQ cs.length m&&(pd m&&si cs ms m)
def js (f:Fi):Bool:=dt f.classes&&(decide (1<=(f.methods.length:Int)/\(f.methods.length:Int)<=8)&&f.methods.all (nZ f.classes f.methods))
section
variable {nc:Nat}
theorem yh {t:Ty} (h:fP nc t=true):1<=t.kind/\t.kind<=3:=by
 unfold fP at h;rw [decide_eq_true_eq] at h;omega
theorem Im {t:Ty} (h:mn nc t=true):0<=t.kind/\t.kind<=3:=by
 unfold mn fP at h;rw [Bool.or_eq_true,decide_eq_true_eq,decide_eq_true_eq] at h;omega
theorem Io (h:tQ nc m=true):∀n,n<m.params.length->1<=(nth bS m.params n).kind/\(nth bS m.params n).kind<=3:=by
 unfold tQ at h;rw [Bool.and_eq_true,Bool.and_eq_true] at h
 exact fun n hn=>yh (List.all_eq_true.1 h.2.1 _ (bE (d:=bS) hn))
theorem OT (h:tQ nc m=true):0<=m.ret.kind/\m.ret.kind<=3:=by
 unfold tQ at h;rw [Bool.and_eq_true,Bool.and_eq_true,Bool.and_eq_true] at h
 exact Im h.2.2.1
end
theorem Az {cs:List Cl} (h:dt cs=true):∀c,c<cs.length->∀n,n<(nth bL cs c).fields.length->1<=(nth bS (nth bL cs c).fields n).kind/\(nth bS (nth bL cs c).fields n).kind<=3:=by
 unfold dt at h;rw [Bool.and_eq_true] at h
 intro c hc n hn
 have:=List.all_eq_true.1 h.2 c (List.mem_range.2 hc)
 unfold qC at this;rw [Bool.and_eq_true] at this
 exact yh (List.all_eq_true.1 this.2 _ (bE (d:=bS) hn))
theorem yi {α:Type} {p q:α->Bool} {l:List α} (h:∀x∈l,p x=q x):l.all p=l.all q:=by
 induction l with
 | nil=>rfl
 | cons a l ih =>
  rw [List.all_cons,List.all_cons,h a (List.mem_cons_self ..),ih fun x hx=>h x (List.mem_cons_of_mem _ hx)]
section
variable {cs:List Cl} {ms:List Me} {m:Me}
theorem yj (h:fG cs ms m=true):tQ cs.length m=true:=by
 simp only [fG,dS,tQ,kO,Bool.and_eq_true,decide_eq_true_eq] at h ⊢
 obtain ⟨⟨⟨⟨⟨⟨a,b,c,d⟩,e⟩,f⟩,g⟩,h,i,j,k,l⟩,o⟩:=h
 exact ⟨a,e,g,b,f⟩
theorem D5 (hk:wa cs ms m.ret.kind):fG cs ms m=nZ cs ms m:=by
 have hi:m.code.all (bU cs ms m.code.length m.regs m.ret.kind)=m.code.all (nd cs ms m.code.length m.regs m.ret.kind):=yi fun x _=>OS hk ..
 rw [Bool.eq_iff_iff]
 simp only [fG,nZ,dS,tQ,pd,si,kO,Bool.and_eq_true,decide_eq_true_eq,hi]
 constructor
 ·rintro ⟨⟨⟨⟨⟨⟨a,b,c,d⟩,e⟩,f⟩,g⟩,h,i,j,k,l⟩,o⟩
  exact ⟨⟨a,e,g,b,f⟩,⟨h,i,by omega,k⟩,⟨by omega,d⟩,o⟩
 ·rintro ⟨⟨a,e,g,b,f⟩,⟨h,i,j,k⟩,⟨c,d⟩,o⟩
  exact ⟨⟨⟨⟨⟨⟨a,b,by omega,d⟩,e⟩,f⟩,g⟩,h,i,by omega,k,by omega⟩,o⟩
end
theorem Lt (f:Fi):bJ f=js f:=by
 unfold bJ js
 cases hm:dt f.classes
 ·rfl
 have hn:decide (1<=f.methods.length/\f.methods.length<=8)=decide (1<=(f.methods.length:Int)/\(f.methods.length:Int)<=8):=by
  rw [Bool.eq_iff_iff,decide_eq_true_eq,decide_eq_true_eq];omega
 rw [hn,Bool.and_assoc]
 congr 2
 by_cases hh:∀m∈f.methods,tQ f.classes.length m=true
 ·exact yi fun m iL=>D5 ⟨Az hm,OT (hh m iL),fun k hk=>Io (hh _ (bE (d:=bT) hk))⟩
 ·have e1:f.methods.all (fG f.classes f.methods)=false:=by
   rw [Bool.eq_false_iff];intro hc
   exact hh fun m iL=>yj (List.all_eq_true.1 hc m iL)
  have e2:f.methods.all (nZ f.classes f.methods)=false:=by
   rw [Bool.eq_false_iff];intro hc
   refine hh fun m iL=>?_
   have:=List.all_eq_true.1 hc m iL
   unfold nZ at this;rw [Bool.and_eq_true] at this;exact this.1
  rw [e1,e2]
theorem nu (x n:Int) (w:World) :
  χ 243 #[ι x,ι n] w fun e w'=>e=.returned (.bool (decide (0<=x/\x<n)))/\w'=w:=by
 go_enter func243,ntmps243
 go_wp2
 all_goals
  go_ret
  refine ⟨ag ?_,rfl⟩
  rw [Bool.eq_iff_iff];simp;try omega
theorem gY (n lo hi:Int) (w:World) :
  χ 225 #[ι n,ι lo,ι hi] w fun e w'=>e=.returned (.bool (decide (lo<=n/\n<=hi)))/\w'=w:=by
 go_enter func225,ntmps225
 go_wp2
 all_goals
  go_ret
  refine ⟨ag ?_,rfl⟩
  rw [Bool.eq_iff_iff];simp;try omega
theorem bj {p:Prop} (h:p):Θ p:=h
abbrev n8 (m:Me) (P C K:Option Addr) (p c k:Nat) (nc nm:Nat) (A B:Option Addr) (x y:Nat):Value :=
 .agg #[.slice P m.params.length p,ι m.ret.kind,ι m.ret.cls,ι m.stack,ι m.locs,ι m.regs,.slice C m.code.length c,.slice K m.hands.length k,.slice A nc x,.slice B nm y]
abbrev OU (m:Me) (P C K:Option Addr) (p c k:Nat) (nc nm:Nat) (A B:Option Addr) (x y:Nat):Obj :=
 .cells #[.slice P m.params.length p,ι m.ret.kind,ι m.ret.cls,ι m.stack,ι m.locs,ι m.regs,.slice C m.code.length c,.slice K m.hands.length k,.slice A nc x,.slice B nm y] 138
abbrev SP (i:In) (Q:Option Addr) (q:Nat):Obj:=.cells #[ι i.op,ι i.a,ι i.b,ι i.c,ι i.n,.slice Q i.args.length q] 55
abbrev pg (i:In) (Q:Option Addr) (q:Nat):Value:=.agg #[ι i.op,ι i.a,ι i.b,ι i.c,ι i.n,.slice Q i.args.length q]
structure D6 (w:World) (b:Nat) (m:Me) (P C K:Option Addr) (p c k:Nat) (nc nm:Nat) (A B:Option Addr) (x y:Nat):Prop where
 m0:w.cell? ⟨b,0,none⟩=some (.slice P m.params.length p)
 m1:w.cell? ⟨b,1,none⟩=some (ι m.ret.kind)
 m2:w.cell? ⟨b,2,none⟩=some (ι m.ret.cls)
 m3:w.cell? ⟨b,3,none⟩=some (ι m.stack)
 m4:w.cell? ⟨b,4,none⟩=some (ι m.locs)
 m5:w.cell? ⟨b,5,none⟩=some (ι m.regs)
 m6:w.cell? ⟨b,6,none⟩=some (.slice C m.code.length c)
 m7:w.cell? ⟨b,7,none⟩=some (.slice K m.hands.length k)
 m8:w.cell? ⟨b,8,none⟩=some (.slice A nc x)
 m9:w.cell? ⟨b,9,none⟩=some (.slice B nm y)
theorem D6.bl (h:Bl w w') {P C K:Option Addr} {p c k nc nm:Nat} {A B:Option Addr} {x y:Nat} (hb:D6 w b m P C K p c k nc nm A B x y):D6 w' b m P C K p c k nc nm A B x y :=
 ⟨h.cell hb.m0,h.cell hb.m1,h.cell hb.m2,h.cell hb.m3,h.cell hb.m4,h.cell hb.m5,h.cell hb.m6,h.cell hb.m7,h.cell hb.m8,h.cell hb.m9⟩
theorem D6.new (w:World) (m:Me) (P C K:Option Addr) (p c k nc nm:Nat) (A B:Option Addr) (x y:Nat):D6 (w.alloc (OU m P C K p c k nc nm A B x y)) w.heap.size m P C K p c k nc nm A B x y :=
 ⟨ai rfl,ai rfl,ai rfl,ai rfl,ai rfl,ai rfl,ai rfl,ai rfl,ai rfl,ai rfl⟩
structure Lv (w:World) (b:Nat) (i:In) (Q:Option Addr) (q:Nat):Prop where
 i0:w.cell? ⟨b,0,none⟩=some (ι i.op)
 i1:w.cell? ⟨b,1,none⟩=some (ι i.a)
 i2:w.cell? ⟨b,2,none⟩=some (ι i.b)
 i3:w.cell? ⟨b,3,none⟩=some (ι i.c)
 i4:w.cell? ⟨b,4,none⟩=some (ι i.n)
 i5:w.cell? ⟨b,5,none⟩=some (.slice Q i.args.length q)
theorem Lv.bl (h:Bl w w') {i:In} {Q:Option Addr} {q:Nat} (hb:Lv w b i Q q):Lv w' b i Q q :=
 ⟨h.cell hb.i0,h.cell hb.i1,h.cell hb.i2,h.cell hb.i3,h.cell hb.i4,h.cell hb.i5⟩
theorem Lv.new (w:World) (i:In) (Q:Option Addr) (q:Nat):Lv (w.alloc (SP i Q q)) w.heap.size i Q q :=
 ⟨ai rfl,ai rfl,ai rfl,ai rfl,ai rfl,ai rfl⟩
abbrev eW (w:World) (m:Me) (P C K:Option Addr) (p c k:Nat) (nc nm:Nat) (A B:Option Addr) (x y:Nat) (i:In) (Q:Option Addr) (q:Nat):World :=
 (w.alloc (OU m P C K p c k nc nm A B x y)).alloc (SP i Q q)
section
variable (w:World) (m:Me) (P C K:Option Addr) (p c k nc nm:Nat) (A B:Option Addr) (x y:Nat) (i:In) (Q:Option Addr) (q:Nat)
theorem fF :
  D6 (eW w m P C K p c k nc nm A B x y i Q q) w.heap.size m P C K p c k nc nm A B x y:=(D6.new ..).bl ((Bl.refl _).alloc _)
theorem fp :
  Lv (eW w m P C K p c k nc nm A B x y i Q q) (w.heap.size+1) i Q q:=by
 have:=Lv.new (w.alloc (OU m P C K p c k nc nm A B x y)) i Q q
 rwa [World.size_alloc] at this
end
section
variable {w:World} {n:Nat}
theorem bz (hn:n=w.heap.size) (ha:cJ a):aU (w.alloc (.cells #[ι a] t)) (some ⟨n,0,none⟩) [a]:=by
 subst hn
 refine ⟨by unfold maxLen;simp,Or.inr ⟨_,_,rfl,fun i hi=>?_⟩⟩
 obtain rfl:i=0:=by simpa using hi
 exact ⟨ai rfl,ha⟩
theorem sj (hn:n=w.heap.size) {b:Int} (ha:cJ a) (hb:cJ b):aU (w.alloc (.cells #[ι a,ι b] t)) (some ⟨n,0,none⟩) [a,b]:=by
 subst hn
 refine ⟨by unfold maxLen;simp,Or.inr ⟨_,_,rfl,fun i hi=>?_⟩⟩
 have:i=0∨i=1:=by simp at hi;omega
 rcases this with rfl|rfl
 ·exact ⟨ai rfl,ha⟩
 ·exact ⟨ai rfl,hb⟩
theorem sk (hn:n=w.heap.size) {b c:Int} (ha:cJ a) (hb:cJ b) (hc:cJ c):aU (w.alloc (.cells #[ι a,ι b,ι c] t)) (some ⟨n,0,none⟩) [a,b,c]:=by
 subst hn
 refine ⟨by unfold maxLen;simp,Or.inr ⟨_,_,rfl,fun i hi=>?_⟩⟩
 have:i=0∨i=1∨i=2:=by simp at hi;omega
 rcases this with rfl|rfl|rfl
 ·exact ⟨ai rfl,ha⟩
 ·exact ⟨ai rfl,hb⟩
 ·exact ⟨ai rfl,hc⟩
end
section
variable (op:Int) (w:World)
theorem AA :
  χ 226 #[ι op] w fun e w'=>e=.returned (.bool (Ih op))/\w'=w:=by
 go_enter func226,ntmps226
 go_wp2
 all_goals
  go_ret
  refine ⟨ag ?_,rfl⟩
  unfold Ih
  first
   | (symm;apply decide_eq_true;simp_all;done)
   | (symm;apply decide_eq_false;simp_all;done)
theorem AB :
  χ 227 #[ι op] w fun e w'=>e=.returned (.bool (Ii op))/\w'=w:=by
 go_enter func227,ntmps227
 go_wp2
 all_goals
  go_ret
  refine ⟨ag ?_,rfl⟩
  unfold Ii
  first
   | (symm;apply decide_eq_true;simp_all;done)
   | (symm;apply decide_eq_false;simp_all;done)
theorem AE :
  χ 228 #[ι op] w fun e w'=>e=.returned (.bool (Ij op))/\w'=w:=by
 go_enter func228,ntmps228
 go_wp2
 all_goals
  go_ret
  refine ⟨ag ?_,rfl⟩
  unfold Ij
  first
   | (symm;apply decide_eq_true;simp_all;done)
   | (symm;apply decide_eq_false;simp_all;done)
end
theorem tR (i:In) (Q:Option Addr) (q:Nat) (w:World) (hq:i.args.length<=maxLen) :
  χ 182 #[pg i Q q] w fun e w'=>e=.returned (.bool (pb i))/\Bl w w':=by
 unfold maxLen at hq
 have hfin:decide (i.op=18∨i.args.length=0)=((i.op==18)||((i.args.length:Int)==0)):=by rw [Bool.eq_iff_iff];simp
 have eb:decide (i.b=0)=(i.b==0):=by rw [Bool.eq_iff_iff];simp
 have ec:decide (i.c=0)=(i.c==0):=by rw [Bool.eq_iff_iff];simp
 have en:decide (i.n=0)=(i.n==0):=by rw [Bool.eq_iff_iff];simp
 unfold pb
 rw [hfin,eb,ec,en]
 clear hfin eb ec en
 cases hB:Ih i.op<;>cases hC:Ii i.op<;>cases hN:Ij i.op
 all_goals
  go_enter func182,ntmps182
  go_wp2_with (first
   | (go_at_call 226;refine (AA _ _).mono ?_;rintro e w0 ⟨he,gH⟩;rw [hB] at he;subst he;rw [gH];clear gH w0)
   | (go_at_call 227;refine (AB _ _).mono ?_;rintro e w0 ⟨he,gH⟩;rw [hC] at he;subst he;rw [gH];clear gH w0)
   | (go_at_call 228;refine (AE _ _).mono ?_;rintro e w0 ⟨he,gH⟩;rw [hN] at he;subst he;rw [gH];clear gH w0))
  all_goals
   go_ret
   exact ⟨ag (by simp [*]),(Bl.refl _).alloc _⟩
theorem jM (m:Me) (P C K:Option Addr) (p c k:Nat) (cs:List Cl) (nm:Nat) (A B:Option Addr) (x y:Nat) (i:In) (Q:Option Addr) (q:Nat) (w:World) (hl:bK w A cs) :
  χ 222 #[n8 m P C K p c k cs.length nm A B x y,pg i Q q] w fun e w'=>e=.returned (ι (mZ cs i.c i.n))/\Bl w w':=by
 have bM:Θ (Bl w (eW w m P C K p c k cs.length nm A B x y i Q q)):=((Bl.refl _).alloc _).alloc _
 have HL:Θ (bK w A cs):=hl
 have hm:=hl.1
 unfold maxLen at hm
 clear hl
 by_cases h:0<=i.c/\i.c<cs.length
 ·have hd:decide (0<=i.c/\i.c<(cs.length:Int))=true:=decide_eq_true h
  obtain ⟨n,hn⟩:∃n:Nat,i.c=n:=⟨i.c.toNat,by omega⟩
  rcases (HL.o.bl bM.o).2 with h0|⟨b,off,rfl,hc⟩
  ·omega
  obtain ⟨-,-,A',c',hfl,hty⟩:=hc n (by omega)
  have JE:=hty.1
  unfold maxLen at JE
  by_cases h2:0<=i.n/\i.n<(nth bL cs n).fields.length
  ·have Ql:decide (0<=i.n/\i.n<((nth bL cs n).fields.length:Int))=true:=decide_eq_true h2
   obtain ⟨t,ht⟩:∃t:Nat,i.n=t:=⟨i.n.toNat,by omega⟩
   rcases hty.2 with h0|⟨b2,UA,rfl,BL⟩
   ·omega
   obtain ⟨g1,g2,-⟩:=BL t (by omega)
   have hb:mZ cs i.c i.n=(nth bS (nth bL cs n).fields t).kind:=by
    unfold mZ;rw [if_pos (by rw [hn,Int.toNat_natCast];omega),hn,ht,Int.toNat_natCast,Int.toNat_natCast]
   rw [hb]
   clear hb hc hty BL HL
   obtain ⟨op,a,b',ic,iN,args⟩:=i
   dsimp only at *
   subst hn ht
   go_enter func222,ntmps222
   go_wp2_with (first
    | (go_at_call 97;refine (bk _ _ _).mono ?_;rintro e w1 ⟨he,hw1⟩;rw [hd] at he;subst he;rw [hw1];clear hw1 w1)
    | (go_at_call 243;refine (nu _ _ _).mono ?_;rintro e w1 ⟨he,hw1⟩;rw [Ql] at he;subst he;rw [hw1];clear hw1 w1))
   go_ret
   exact ⟨rfl,bM.o⟩
  ·have Ql:decide (0<=i.n/\i.n<((nth bL cs n).fields.length:Int))=false:=decide_eq_false h2
   have hb:mZ cs i.c i.n=0:=by
    unfold mZ;rw [if_neg (by rw [hn,Int.toNat_natCast];omega)]
   rw [hb]
   clear hb hc hty HL
   obtain ⟨op,a,b',ic,iN,args⟩:=i
   dsimp only at *
   subst hn
   go_enter func222,ntmps222
   go_wp2_with (first
    | (go_at_call 97;refine (bk _ _ _).mono ?_;rintro e w1 ⟨he,hw1⟩;rw [hd] at he;subst he;rw [hw1];clear hw1 w1)
    | (go_at_call 243;refine (nu _ _ _).mono ?_;rintro e w1 ⟨he,hw1⟩;rw [Ql] at he;subst he;rw [hw1];clear hw1 w1))
   go_ret
   exact ⟨rfl,bM.o⟩
 ·have hd:decide (0<=i.c/\i.c<(cs.length:Int))=false:=decide_eq_false h
  have hb:mZ cs i.c i.n=0:=by unfold mZ;rw [if_neg (by omega)]
  rw [hb]
  clear hb
  go_enter func222,ntmps222
  go_wp2_with (go_at_call 97;refine (bk _ _ _).mono ?_;rintro e w1 ⟨he,hw1⟩;rw [hd] at he;subst he;rw [hw1];clear hw1 w1)
  go_ret
  exact ⟨rfl,bM.o⟩
theorem eE {P:Program} {md:Region.Mode} {ops:Array Oper} {Q:Exit->Act->World->Prop} {S:World->Prop} {i:Nat} {oi:Oper} {d:Option Tmp} {fuel:Nat} {listed:Array Bool} {a:Act} (hi:ops[i]?=some oi) (hd:oi.dst=d) (hs:Region.noSelect ops=true) (hf:Region.free md ops listed i=true) (hr:(Region.ready md ops listed).contains i=true) (hQ:∀c a w,Q (.panic c) (a.put oi.dst undef) w->Q (.panic c) a w) (hw:Region.wanted oi (yielded ops a.tmps)=false) (hS:S w) (h:wpAnyH P md ops Q S fuel (listed.setIfInBounds i true) (a.put d undef) w):wpAnyH P md ops Q S (fuel+1) listed a w :=
 wpAnyH_take hi hs hf hr hQ (Or.inr ⟨hw,rfl⟩) hS (hd▸h)
section
variable (m:Me) (P C K:Option Addr) (p c k nc nm:Nat) (A B:Option Addr) (x y:Nat)
theorem aP (kind:Int) (R:Option Addr) (r:Nat) (rs:List Int) (w:World) (h1:1<=m.regs) (h2:m.regs<=90) (hR:aU w R rs) :
  χ 221 #[n8 m P C K p c k nc nm A B x y,ι kind,.slice R rs.length r] w fun e w'=>e=.returned (.bool (aQ m.regs kind rs))/\Bl w w':=by
 have bM:Θ (Bl w (w.alloc (OU m P C K p c k nc nm A B x y))):=(Bl.refl _).alloc _
 have H5:Θ ((w.alloc (OU m P C K p c k nc nm A B x y)).cell? ⟨w.heap.size,5,none⟩=some (ι m.regs)):=ai rfl
 obtain ⟨hm,hR⟩:=hR
 unfold maxLen at hm
 by_cases hk:1<=kind/\kind<=3
 ·have dk:decide (1<=kind/\kind<=3)=true:=decide_eq_true hk
  have hw:=lT kind
  obtain ⟨W,hW⟩:∃W,kx kind=W:=⟨_,rfl⟩
  have hb:aQ m.regs kind rs=rs.all (fun r=>decide (0<=r/\r<=m.regs-W)):=by unfold aQ;rw [dk,hW];rfl
  rw [hb]
  rw [hW] at hw
  clear hb hk
  have HG:Θ ((∀q,q<rs.length->decide (0<=nth (0:Int) rs q/\nth (0:Int) rs q<=m.regs-W)=true)->rs.all (fun r=>decide (0<=r/\r<=m.regs-W))=true):=fun h=>iq (d:=(0:Int)) h
  have HB:Θ (∀q,q<rs.length->decide (0<=nth (0:Int) rs q/\nth (0:Int) rs q<=m.regs-W)=false->rs.all (fun r=>decide (0<=r/\r<=m.regs-W))=false):=fun q hq hf=>jA (d:=(0:Int)) hq hf
  obtain ⟨RR,Q5⟩:∃RR,rs.all (fun r=>decide (0<=r/\r<=m.regs-W))=RR:=⟨_,rfl⟩
  rw [Q5] at HG HB ⊢
  clear Q5
  go_enter func221,ntmps221
  go_wp2_with (go_at_call 35;refine (bP _ _ _ _).mono ?_;rintro e w0 ⟨he,gH⟩;rw [dk] at he;subst he;rw [gH];clear gH w0)
  go_loopw [14] (fun i wr=>∃q:Nat,q<=rs.length/\i=ι q/\Θ (∀j,j<q->decide (0<=nth (0:Int) rs j/\nth (0:Int) rs j<=m.regs-W)=true)/\Θ (Bl w wr)/\Θ (wr.cell? ⟨w.heap.size,5,none⟩=some (ι m.regs))) (fun i _=>rs.length-(intOf i).toNat)
  case atStart=>exact ⟨0,Nat.zero_le _,rfl,fun j hj=>absurd hj (Nat.not_lt_zero _),bM.o,H5.o⟩
  case round =>
   clear bM H5
   obtain ⟨q,hq,rfl,lq,hg,h5⟩:=hrel
   by_cases dI:q<rs.length
   ·rcases hR with h0|⟨b,off,rfl,hcell⟩
    ·omega
    have g0:=hg.o.cell (hcell q dI).1
    have y5:=aj h5.o
    have HN:Θ (decide (0<=nth (0:Int) rs q/\nth (0:Int) rs q<=m.regs-W)=false->RR=false):=HB.o q dI
    generalize hX:nth (0:Int) rs q=X at *
    have HX:Θ (nth (0:Int) rs q=X):=hX
    clear hcell HB hX
    obtain ⟨T,hT⟩:∃T,decide (0<=X/\X<=m.regs-W)=T:=⟨_,rfl⟩
    cases T
    ·have HF:=HN.o hT
     clear HN HG
     go_wp2
     refine az (by kernel_rfl) (by kernel_rfl) fun hne=>?_
     repeat (go_big_quiet_step (first
      | (go_at_call 85;exact Calls.fut_same_eq _ (ml _ _) (congrArg (Value.int .i64) hW))
      | (go_at_call 35;exact Calls.fut_same_eq _ (bP _ _ _ _) (congrArg Value.bool hT))))
     refine wpQuiet_nil ?_
     rintro _ ⟨⟨w2,bX⟩,rfl⟩
     go_wp2
     go_ret
     exact ⟨ag HF.symm,hg.o.trans bX⟩
    ·have tl:Θ (decide (0<=X/\X<=m.regs-W)=true):=hT
     clear HN HG
     go_wp2
     refine az (by kernel_rfl) (by kernel_rfl) fun hne=>?_
     repeat (go_big_quiet_step (first
      | (go_at_call 85;exact Calls.fut_same_eq _ (ml _ _) (congrArg (Value.int .i64) hW))
      | (go_at_call 35;exact Calls.fut_same_eq _ (bP _ _ _ _) (congrArg Value.bool hT))))
     refine wpQuiet_nil ?_
     rintro _ ⟨⟨w2,bX⟩,rfl⟩
     go_wp2
     go_roundw
     case rel=>exact ⟨q+1,by omega,by go_num,fun j hj=>if h:j<q then lq.o j h else by have:j=q:=(by omega);subst this;rw [HX.o];exact tl.o,hg.o.trans bX,bX.cell h5.o⟩
     case measure=>simp [intOf];omega
   ·have hkk:q=rs.length:=by omega
    subst hkk
    have HF:=HG.o lq.o
    clear HG
    go_wp2
    go_ret
    exact ⟨ag HF.symm,hg.o⟩
 ·have dk:decide (1<=kind/\kind<=3)=false:=decide_eq_false hk
  rw [se _ _ _ hk]
  go_enter func221,ntmps221
  go_wp2_with (go_at_call 35;refine (bP _ _ _ _).mono ?_;rintro e w0 ⟨he,gH⟩;rw [dk] at he;subst he;rw [gH];clear gH w0)
  go_ret
  exact ⟨rfl,bM.o⟩
theorem Ip (i:In) (Q:Option Addr) (q:Nat) (w:World) (h1:1<=m.regs) (h2:m.regs<=90) (hi:i.ok) :
  χ 224 #[n8 m P C K p c k nc nm A B x y,pg i Q q] w fun e w'=>e=.returned (.bool (mK m.regs m.ret.kind i.a))/\Bl w w':=by
 have bM:Θ (Bl w (eW w m P C K p c k nc nm A B x y i Q q)):=((Bl.refl _).alloc _).alloc _
 have il:=bj hi.2.1
 clear hi
 by_cases h:m.ret.kind=0
 ·have hb:mK m.regs m.ret.kind i.a=(i.a==0):=by unfold mK;rw [if_pos h,Bool.eq_iff_iff];simp
  rw [hb]
  clear hb
  go_enter func224,ntmps224
  go_wp2
  all_goals
   go_ret
   exact ⟨ag (by simp [*]),((Bl.refl _).alloc _).alloc _⟩
 ·have hb:mK m.regs m.ret.kind i.a=aQ m.regs m.ret.kind [i.a]:=by unfold mK;rw [if_neg h]
  rw [hb]
  clear hb
  obtain ⟨R,hR⟩:∃R,aQ m.regs m.ret.kind [i.a]=R:=⟨_,rfl⟩
  rw [hR]
  have h0:(m.ret.kind==0)=false:=by simpa using h
  clear h
  go_enter func224,ntmps224
  go_wp2_with (go_at_call 221;refine (aP m _ _ _ _ _ _ _ _ _ _ _ _ _ _ _ [i.a] _ h1 h2 (bz (by simp [World.size_alloc]) il.o)).mono ?_;rintro e w1 ⟨he,g1⟩;rw [hR] at he;subst he)
  go_ret
  exact ⟨rfl,(bM.o.alloc _).trans g1⟩
end
def sm (w:World) (b off:Nat) (i:In) (Q:Option Addr) (q:Nat):Prop :=
 w.cell? ⟨b,off,none⟩=some (ι i.op)/\w.cell? ⟨b,off+1,none⟩=some (ι i.a)/\w.cell? ⟨b,off+2,none⟩=some (ι i.b)
  /\ w.cell? ⟨b,off+3,none⟩=some (ι i.c)/\w.cell? ⟨b,off+4,none⟩=some (ι i.n)/\w.cell? ⟨b,off+5,none⟩=some (.slice Q i.args.length q)
abbrev inV (i:In) (Q:Option Addr) (q:Nat):Value:=.agg #[ι i.op,ι i.a,ι i.b,ι i.c,ι i.n,.slice Q i.args.length q]
theorem D7 (n:Int):(n==wrap32 n)=decide (-2147483648<=n/\n<=2147483647):=by
 rw [Bool.eq_iff_iff];simp;unfold wrap32;omega
abbrev Zg (i:In) (Q:Option Addr) (q:Nat):Obj:=.cells #[ι i.op,ι i.a,ι i.b,ι i.c,ι i.n,.slice Q i.args.length q] 55
abbrev D8 (nc nm:Nat) (A B:Option Addr) (x y:Nat):Obj:=.cells #[.slice A nc x,.slice B nm y] 25
end Go.Proofs.YtgiiapenmjollaaGreat
