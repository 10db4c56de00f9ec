import Derived.Test.YtimjmdfokicbkaaGreatSrab
namespace Go.Proofs.YtimjmdfokicbkaaGreat
set_option linter.unusedVariables false
set_option linter.unusedSimpArgs false
set_option maxHeartbeats 40000000
set_option maxRecDepth 100000
open Go.RowKit
open Go.Value (int)
open Go.IntKind (i64)
def jo (k:Int):Int:=if k=0 then 0 else if k=2 then 2 else 1
theorem lG (k:Int):0≤jo k/\jo k≤2:=by unfold jo;split<;>(try split)<;>omega
def aB (nc nm iG:Nat) (locs:Int) (i:In):Bool :=
 if i.op=4∨i.op=5 then decide (0≤i.a/\i.a≤locs-jo i.b)
 else if i.op=6∨i.op=7 then decide (1≤i.a/\i.a≤8)
 else if i.op=11∨i.op=12∨i.op=13 then decide (0≤i.a/\i.a<iG)
 else if i.op=14∨i.op=15∨i.op=16∨i.op=17∨i.op=18 then decide (0≤i.a/\i.a<nc)
 else if i.op=19 then decide (0≤i.a/\i.a<nm)
 else if i.op=24 then decide (1≤i.a/\i.a≤2)
 else decide (i.a=0)
def mO (cs:List Cl) (c k:Int):Bool:=decide (0≤c/\c<cs.length/\0≤k/\k<(nth cd cs c.toNat).fields.length)
def bB (cs:List Cl) (i:In):Bool :=
 if i.op=4∨i.op=5 then decide (1≤i.b/\i.b≤3)
 else if i.op=12 then decide (1≤i.b/\i.b≤4)
 else if i.op=15∨i.op=16 then mO cs i.a i.b
 else decide (i.b=0)
def nB (i:In):Bool :=
 if i.op=1 then decide (-2147483648≤i.n/\i.n≤2147483647)
 else if i.op=2 then true
 else decide (i.n=0)
theorem yT (cs:List Cl) (nm iG:Nat) (locs:Int) (i:In) :
  bD cs nm iG locs i=(decide (1≤i.op/\i.op≤25)&&(aB cs.length nm iG locs i&&(bB cs i&&(decide (i.c=0)&&(nB i&&decide (i.args.length=0)))))):=by
 obtain ⟨op,a,b,c,n,args⟩:=i
 by_cases h:1≤op/\op≤25
 ·have:op=1∨op=2∨op=3∨op=4∨op=5∨op=6∨op=7∨op=8∨op=9∨op=10∨op=11∨op=12∨op=13∨op=14∨op=15∨op=16∨op=17∨op=18∨op=19∨op=20∨op=21∨op=22∨op=23∨op=24∨op=25:=by omega
  rcases this with rfl|rfl|rfl|rfl|rfl|rfl|rfl|rfl|rfl|rfl|rfl|rfl|rfl|rfl|rfl|rfl|rfl|rfl|rfl|rfl|rfl|rfl|rfl|rfl|rfl
  all_goals
   unfold bD aB bB nB mO jo
   dsimp only
   generalize args.length=L
   rw [Bool.eq_iff_iff]
   simp
   try (repeat' split)<;>omega
 ·have e:decide (1≤op/\op≤25)=false:=decide_eq_false h
  have e':decide (1≤(In.mk op a b c n args).op/\(In.mk op a b c n args).op≤25)=false:=e
  rw [e',Bool.false_and]
  unfold bD
  dsimp only
  rw [if_neg (by omega),if_neg (by omega),if_neg (by omega),if_neg (by omega),if_neg (by omega),if_neg (by omega),if_neg (by omega),if_neg (by omega),if_neg (by omega),if_neg (by omega),if_neg (by omega)]
  simp
theorem l9 (k:Int) (w:World) :
  Calls Tryz.prog 87 #[int i64 k] w fun e w'=>e=.returned (int i64 (jo k))/\w'=w:=by
 by_cases h0:k=0
 ·subst h0
  go_enter Tryz.func87,Tryz.ntmps87
  go_wp2
  go_ret
  exact ⟨rfl,rfl⟩
 by_cases h2:k=2
 ·subst h2
  go_enter Tryz.func87,Tryz.ntmps87
  go_wp2
  go_ret
  exact ⟨rfl,rfl⟩
 have hk:jo k=1:=by unfold jo;rw [if_neg h0,if_neg h2]
 rw [hk]
 clear hk
 go_enter Tryz.func87,Tryz.ntmps87
 go_wp2
 go_ret
 exact ⟨rfl,rfl⟩
theorem oz (A:Option Addr) (c:Nat) (F:List Ty) (w:World) (hl:dm w A F) (hb:F.length≤1000000) (hk:∀k,k<F.length->(nth cL F k).kind≠0) :
  Calls Tryz.prog 84 #[.slice A F.length c] w fun e w'=>e=.returned (int i64 (bX F:Nat))/\Bl w w':=by
 obtain ⟨hm,hl⟩:=hl
 clear hm
 have HS:Hid (∀k,k<F.length->bX (F.take (k+1))=bX (F.take k)+(if (nth cL F k).kind=2 then 2 else 1)):=oJ F
 have HB:Hid (∀k,bX (F.take k)≤2*k):=fun k=>by have:=rU (F.take k);have:=List.length_take_le k F;omega
 have HK:Hid (∀k,k<F.length->(nth cL F k).kind≠0):=hk
 clear hk
 go_enter Tryz.func84,Tryz.ntmps84
 go_wp2
 go_loopw [3,8] (fun n i wr=>∃k:Nat,k≤F.length/\i=int i64 k/\n=int i64 ((bX (F.take k):Nat):Int)/\Hid (Bl w wr)) (fun _ i _=>F.length-(intOf i).toNat)
 case atStart=>exact ⟨0,Nat.zero_le _,rfl,by simp [bX],Bl.refl _⟩
 case round =>
  obtain ⟨k,hk,rfl,rfl,hg⟩:=hrel
  have h2:=HB.out k
  by_cases hlt:k<F.length
  ·rcases hl with h0|⟨b,off,rfl,hcell⟩
   ·omega
   have ht:=hg.out.cell (hcell k hlt).1
   have Ma:=hg.out.cell (hcell k hlt).2.1
   have hs:=HS.out k hlt
   have hw:((bX (F.take (k+1)):Nat):Int)=((bX (F.take k):Nat):Int)+jo (nth cL F k).kind:=by
    have:=HK.out k hlt
    rw [hs];unfold jo;rw [if_neg this];split<;>simp
   have Zb:=lG (nth cL F k).kind
   have Ih:Hid (((bX (F.take (k+1)):Nat):Int)=((bX (F.take k):Nat):Int)+jo (nth cL F k).kind):=hw
   clear hcell hs hw
   generalize hW:jo (nth cL F k).kind=W at *
   go_wp2_with (go_at_call 87;refine (l9 _ _).mono ?_;rintro e w1 ⟨he,rfl⟩;rw [hW] at he;subst he)
   go_roundw
   case rel=>exact ⟨k+1,by omega,by go_num,by rw [Ih.out],hg.out.alloc _⟩
   case measure=>simp [intOf];omega
  ·obtain rfl:k=F.length:=by omega
   rw [List.take_length] at *
   go_wp2
   go_ret
   exact ⟨rfl,hg.out⟩
section
variable {w:World} {k c:Int} {t:TypeId}
theorem JJ (hk:cP k) (hc:cP c):dm (w.alloc (.cells #[int i64 k,int i64 c] t)) (some ⟨w.heap.size,0,none⟩) [⟨k,c⟩]:=by
 refine ⟨by unfold maxLen;simp,Or.inr ⟨_,_,rfl,fun i hi=>?_⟩⟩
 obtain rfl:i=0:=by simpa using hi
 exact ⟨ak rfl,ak rfl,hk,hc⟩
theorem Ao {o:Obj} (hk:cP k) (hc:cP c):dm ((w.alloc o).alloc (.cells #[int i64 k,int i64 c] t)) (some ⟨w.heap.size+1,0,none⟩) [⟨k,c⟩]:=by
 have:=JJ (w:=w.alloc o) (t:=t) hk hc
 rwa [World.size_alloc] at this
end
theorem qO (k x:Int) (n:Nat) (w:World) (hk:cP k) (hx:cP x) :
  Calls Tryz.prog 82 #[.agg #[int i64 k,int i64 x],int i64 n] w fun e w'=>e=.returned (.bool (m9 n ⟨k,x⟩))/\Bl w w':=by
 by_cases h:k=0/\x=0
 ·obtain ⟨rfl,rfl⟩:=h
  go_enter Tryz.func82,Tryz.ntmps82
  go_wp2
  go_ret
  exact ⟨rfl,(Bl.refl _).alloc _⟩
 ·have hb:m9 n ⟨k,x⟩=fO n ⟨k,x⟩:=by unfold m9;rw [decide_eq_false h];simp
  rw [hb]
  by_cases h0:k=0
  ·subst h0
   have Wz:(x==0)=false:=by simp;omega
   have Bw:x≠0:=by omega
   go_enter Tryz.func82,Tryz.ntmps82
   go_wp2_with (go_at_call 81;refine (fB (some ⟨w.heap.size+1,0,none⟩) n 1 [⟨0,x⟩] _ (Ao hk hx)).mono ?_;rintro e w1 ⟨rfl,iH⟩)
   go_ret
   exact ⟨aj (by simp),(((Bl.refl _).alloc _).alloc _).trans iH⟩
  ·have zB:(k==0)=false:=by simp;omega
   go_enter Tryz.func82,Tryz.ntmps82
   go_wp2_with (go_at_call 81;refine (fB (some ⟨w.heap.size+1,0,none⟩) n 1 [⟨k,x⟩] _ (Ao hk hx)).mono ?_;rintro e w1 ⟨rfl,iH⟩)
   go_ret
   exact ⟨aj (by simp),(((Bl.refl _).alloc _).alloc _).trans iH⟩
theorem lH (h:Hd) (n nc:Nat) (w:World) :
  Calls Tryz.prog 148 #[.agg #[int i64 h.fr,int i64 h.til,int i64 h.pc,int i64 h.cls],int i64 n,int i64 nc] w fun e w'=>e=.returned (.bool (mV nc n h))/\Bl w w':=by
 obtain ⟨fr,til,pc,cls⟩:=h
 by_cases t1:0≤fr/\fr<til
 ·have d1:decide (0≤fr/\fr<til)=true:=decide_eq_true t1
  by_cases t2:til≤n
  ·by_cases t3:0≤pc/\pc<n
   ·have d3:decide (0≤pc/\pc<(n:Int))=true:=decide_eq_true t3
    have hb:mV nc n ⟨fr,til,pc,cls⟩=decide (0≤cls/\cls<(nc:Int)):=by
     unfold mV;rw [Bool.eq_iff_iff,decide_eq_true_eq,decide_eq_true_eq];dsimp only;omega
    rw [hb]
    clear hb
    go_enter Tryz.func148,Tryz.ntmps148
    go_wp2_with (go_at_call 99;refine (bd _ _ _).mono ?_;rintro e w1 ⟨he,rfl⟩;(first|rw [d1] at he|rw [d3] at he|skip);subst he)
    go_ret
    exact ⟨aj (by simp),(Bl.refl _).alloc _⟩
   ·have d3:decide (0≤pc/\pc<(n:Int))=false:=decide_eq_false t3
    have hb:mV nc n ⟨fr,til,pc,cls⟩=false:=by
     unfold mV;rw [decide_eq_false_iff_not];dsimp only;omega
    rw [hb]
    clear hb
    go_enter Tryz.func148,Tryz.ntmps148
    go_wp2_with (go_at_call 99;refine (bd _ _ _).mono ?_;rintro e w1 ⟨he,rfl⟩;(first|rw [d1] at he|rw [d3] at he|skip);subst he)
    go_ret
    exact ⟨rfl,(Bl.refl _).alloc _⟩
  ·have hb:mV nc n ⟨fr,til,pc,cls⟩=false:=by
    unfold mV;rw [decide_eq_false_iff_not];dsimp only;omega
   rw [hb]
   clear hb
   go_enter Tryz.func148,Tryz.ntmps148
   go_wp2_with (go_at_call 99;refine (bd _ _ _).mono ?_;rintro e w1 ⟨he,rfl⟩;(first|rw [d1] at he|skip);subst he)
   go_ret
   exact ⟨rfl,(Bl.refl _).alloc _⟩
 ·have d1:decide (0≤fr/\fr<til)=false:=decide_eq_false t1
  have hb:mV nc n ⟨fr,til,pc,cls⟩=false:=by
   unfold mV;rw [decide_eq_false_iff_not];dsimp only;omega
  rw [hb]
  clear hb
  go_enter Tryz.func148,Tryz.ntmps148
  go_wp2_with (go_at_call 99;refine (bd _ _ _).mono ?_;rintro e w1 ⟨he,rfl⟩;(first|rw [d1] at he|skip);subst he)
  go_ret
  exact ⟨rfl,(Bl.refl _).alloc _⟩
def lI (nc:Nat) (m:Me):Bool:=decide (m.hands.length≤8)&&m.hands.all (mV nc m.code.length)
def Cz (nc:Nat) (m:Me):Bool:=decide (m.params.length≤4)&&(m.params.all (fO nc)&&(m9 nc m.ret&&lI nc m))
def sJ (m:Me):Bool:=decide (m.regs=0)&&(decide (0≤m.stack/\m.stack≤30)&&decide ((bX m.params:Int)≤m.locs/\m.locs≤60))
def wY (cs:List Cl) (nm:Nat) (m:Me):Bool:=decide (1≤(m.code.length:Int)/\(m.code.length:Int)≤400)&&m.code.all (bD cs nm m.code.length m.locs)
theorem CB (cs:List Cl) (nm:Nat) (m:Me):eX cs nm m=(Cz cs.length m&&(sJ m&&wY cs nm m)):=by
 rw [Bool.eq_iff_iff]
 simp only [eX,ew,Cz,sJ,wY,lI,Bool.and_eq_true,decide_eq_true_eq]
 constructor
 ·rintro ⟨⟨⟨⟨⟨⟨a,b,c,d⟩,e⟩,f⟩,g⟩,h,i,j,k,l⟩,o⟩
  exact ⟨⟨a,e,g,b,f⟩,⟨h,⟨i,j⟩,k,l⟩,⟨by omega,d⟩,o⟩
 ·rintro ⟨⟨a,e,g,b,f⟩,⟨h,⟨i,j⟩,k,l⟩,⟨c,d⟩,o⟩
  exact ⟨⟨⟨⟨⟨⟨a,b,by omega,d⟩,e⟩,f⟩,g⟩,h,i,j,k,l⟩,o⟩
theorem px (m:Me) (P C K:Option Addr) (p c k nc:Nat) (w:World) (hK:kP w K m.hands) :
  Calls Tryz.prog 83 #[iU m P C K p c k,int i64 nc] w fun e w'=>e=.returned (.bool (lI nc m))/\Bl w w':=by
 obtain ⟨NL,hK⟩:=hK
 unfold maxLen at NL
 by_cases h8:m.hands.length≤8
 ·have hb:lI nc m=m.hands.all (mV nc m.code.length):=by unfold lI;rw [decide_eq_true h8];rfl
  rw [hb]
  clear hb
  have HG:Hid ((∀q,q<m.hands.length->mV nc m.code.length (nth eB m.hands q)=true)->m.hands.all (mV nc m.code.length)=true):=jT
  have HB:Hid (∀q,q<m.hands.length->mV nc m.code.length (nth eB m.hands q)=false->m.hands.all (mV nc m.code.length)=false):=fun q=>lQ
  obtain ⟨R,hR⟩:∃R,m.hands.all (mV nc m.code.length)=R:=⟨_,rfl⟩
  rw [hR] at HG HB ⊢
  clear hR
  go_enter Tryz.func83,Tryz.ntmps83
  go_wp2
  go_loopw [14] (fun i wr=>∃q:Nat,q≤m.hands.length/\i=int i64 q/\Hid (∀j,j<q->mV nc m.code.length (nth eB m.hands j)=true)/\Hid (Bl w wr)/\wr.cell? ⟨w.heap.size,6,none⟩=some (.slice C m.code.length c)) (fun i _=>m.hands.length-(intOf i).toNat)
  case atStart=>exact ⟨0,Nat.zero_le _,rfl,fun j hj=>absurd hj (Nat.not_lt_zero _),(Bl.refl _).alloc _,ak rfl⟩
  case round =>
   obtain ⟨q,hq,rfl,mE,hg,h6⟩:=hrel
   by_cases eQ:q<m.hands.length
   ·rcases hK with h0|⟨b,off,rfl,hcell⟩
    ·omega
    obtain ⟨g0,g1,g2,g3,-⟩:=hcell q eQ
    replace g0:=hg.out.cell g0
    replace g1:=hg.out.cell g1
    replace g2:=hg.out.cell g2
    replace g3:=hg.out.cell g3
    have q6:∀o,(wr.alloc o).cell? ⟨w.heap.size,6,none⟩=some (.slice C m.code.length c):=fun o=>((Bl.refl wr).alloc o).cell h6
    clear hcell HG
    cases hT:mV nc m.code.length (nth eB m.hands q)
    ·have HF:=HB.out q eQ hT
     clear HB
     go_wp2_with (go_at_call 148;refine (lH (nth eB m.hands q) _ _ _).mono ?_;rintro e w1 ⟨he,iH⟩;rw [hT] at he;subst he)
     go_ret
     exact ⟨aj HF.symm,(hg.out.alloc _).trans iH⟩
    ·have vi:Hid (mV nc m.code.length (nth eB m.hands q)=true):=hT
     clear HB
     go_wp2_with (go_at_call 148;refine (lH (nth eB m.hands q) _ _ _).mono ?_;rintro e w1 ⟨he,iH⟩;rw [hT] at he;subst he)
     go_roundw
     case rel=>exact ⟨q+1,by omega,by go_num,fun j hj=>if h:j<q then mE.out j h else by have:j=q:=(by omega);subst this;exact vi.out,(hg.out.alloc _).trans iH,iH.cell (q6 _)⟩
     case measure=>simp [intOf];omega
   ·have hkk:q=m.hands.length:=by omega
    subst hkk
    have HF:=HG.out mE.out
    clear HG hK
    go_wp2
    go_ret
    exact ⟨aj HF.symm,hg.out⟩
 ·have hb:lI nc m=false:=by unfold lI;rw [decide_eq_false h8];rfl
  rw [hb]
  clear hb
  go_enter Tryz.func83,Tryz.ntmps83
  go_wp2
  go_ret
  exact ⟨rfl,(Bl.refl _).alloc _⟩
def eA (w:World) (b:Nat) (m:Me) (P C K:Option Addr) (p c k:Nat):Prop :=
 w.cell? ⟨b,0,none⟩=some (.slice P m.params.length p)/\w.cell? ⟨b,1,none⟩=some (int i64 m.ret.kind)/\w.cell? ⟨b,2,none⟩=some (int i64 m.ret.cls)
  /\ w.cell? ⟨b,3,none⟩=some (int i64 m.stack)/\w.cell? ⟨b,4,none⟩=some (int i64 m.locs)/\w.cell? ⟨b,5,none⟩=some (int i64 m.regs)
  /\ w.cell? ⟨b,6,none⟩=some (.slice C m.code.length c)/\w.cell? ⟨b,7,none⟩=some (.slice K m.hands.length k)
theorem eA.bl {w w':World} (h:Bl w w') {b:Nat} {m:Me} {P C K:Option Addr} {p c k:Nat} (hb:eA w b m P C K p c k):eA w' b m P C K p c k :=
 ⟨h.cell hb.1,h.cell hb.2.1,h.cell hb.2.2.1,h.cell hb.2.2.2.1,h.cell hb.2.2.2.2.1,h.cell hb.2.2.2.2.2.1,h.cell hb.2.2.2.2.2.2.1,h.cell hb.2.2.2.2.2.2.2⟩
abbrev nZ (m:Me) (P C K:Option Addr) (p c k:Nat):Obj:=.cells #[.slice P m.params.length p,int i64 m.ret.kind,int i64 m.ret.cls,int i64 m.stack,int i64 m.locs,int i64 m.regs,.slice C m.code.length c,.slice K m.hands.length k] 49
theorem eA.new (w:World) (m:Me) (P C K:Option Addr) (p c k:Nat):eA (w.alloc (nZ m P C K p c k)) w.heap.size m P C K p c k :=
 ⟨ak rfl,ak rfl,ak rfl,ak rfl,ak rfl,ak rfl,ak rfl,ak rfl⟩
theorem jP (m:Me) (P C K:Option Addr) (p c k nc:Nat) (w:World) (hm:kX w m P C K) :
  Calls Tryz.prog 37 #[iU m P C K p c k,int i64 nc] w fun e w'=>e=.returned (.bool (Cz nc m))/\Bl w w':=by
 have HM:Hid (kX w m P C K):=hm
 have Ii:=hm.1.1
 have hr:=hm.2.2.2
 unfold maxLen at Ii
 clear hm
 have hal:Bl w (w.alloc (nZ m P C K p c k)):=(Bl.refl _).alloc _
 have CD:=eA.new w m P C K p c k
 by_cases h4:m.params.length≤4
 ·cases hp:m.params.all (fO nc)
  ·have hb:Cz nc m=false:=by unfold Cz;rw [hp,Bool.false_and,Bool.and_false]
   rw [hb]
   clear hb
   have cD:Hid (Bl w (w.alloc (nZ m P C K p c k))):=hal
   clear hal CD
   go_enter Tryz.func37,Tryz.ntmps37
   go_wp2_with (go_at_call 81;refine (fB _ _ _ _ _ (HM.out.1.bl cD.out)).mono ?_;rintro e w1 ⟨he,iH⟩;rw [hp] at he;subst he)
   go_ret
   exact ⟨rfl,cD.out.trans iH⟩
  ·cases hq:m9 nc ⟨m.ret.kind,m.ret.cls⟩
   ·have hb:Cz nc m=false:=by unfold Cz;rw [show m9 nc m.ret=false from hq,Bool.false_and,Bool.and_false,Bool.and_false]
    rw [hb]
    clear hb
    have cD:Hid (Bl w (w.alloc (nZ m P C K p c k))):=hal
    have JK:Hid (eA (w.alloc (nZ m P C K p c k)) w.heap.size m P C K p c k):=CD
    clear hal CD
    go_enter Tryz.func37,Tryz.ntmps37
    go_wp2_with (first
     | (go_at_call 81;refine (fB _ _ _ _ _ (HM.out.1.bl cD.out)).mono ?_;rintro e w1 ⟨he,iH⟩;rw [hp] at he;subst he;obtain ⟨-,b1,b2,-⟩:=JK.out.bl iH)
     | (go_at_call 82;refine (qO _ _ _ _ hr.1 hr.2.1).mono ?_;rintro e w2 ⟨he,eY⟩;rw [hq] at he;subst he))
    go_ret
    exact ⟨rfl,(cD.out.trans iH).trans eY⟩
   ·have hb:Cz nc m=lI nc m:=by unfold Cz;rw [decide_eq_true h4,hp,show m9 nc m.ret=true from hq];rfl
    rw [hb]
    clear hb
    have cD:Hid (Bl w (w.alloc (nZ m P C K p c k))):=hal
    have JK:Hid (eA (w.alloc (nZ m P C K p c k)) w.heap.size m P C K p c k):=CD
    clear hal CD
    go_enter Tryz.func37,Tryz.ntmps37
    go_wp2_with (first
     | (go_at_call 81;refine (fB _ _ _ _ _ (HM.out.1.bl cD.out)).mono ?_;rintro e w1 ⟨he,iH⟩;rw [hp] at he;subst he;obtain ⟨-,b1,b2,-⟩:=JK.out.bl iH)
     | (go_at_call 82;refine (qO _ _ _ _ hr.1 hr.2.1).mono ?_;rintro e w2 ⟨he,eY⟩;rw [hq] at he;subst he;obtain ⟨e0,e1,e2,e3,e4,e5,e6,e7⟩:=JK.out.bl (iH.trans eY))
     | (go_at_call 83;refine (px m _ _ _ _ _ _ _ _ (HM.out.2.2.1.bl ((cD.out.trans iH).trans eY))).mono ?_;rintro e w3 ⟨he,vm⟩;subst he))
    go_ret
    exact ⟨rfl,((cD.out.trans iH).trans eY).trans vm⟩
 ·have hb:Cz nc m=false:=by unfold Cz;rw [decide_eq_false h4];rfl
  rw [hb]
  clear hb CD
  go_enter Tryz.func37,Tryz.ntmps37
  go_wp2
  go_ret
  exact ⟨rfl,hal⟩
def U8 (w:World) (b off:Nat) (i:In) (Q:Option Addr) (q:Nat):Prop :=
 w.cell? ⟨b,off,none⟩=some (int i64 i.op)/\w.cell? ⟨b,off+1,none⟩=some (int i64 i.a)/\w.cell? ⟨b,off+2,none⟩=some (int i64 i.b)
  /\ w.cell? ⟨b,off+3,none⟩=some (int i64 i.c)/\w.cell? ⟨b,off+4,none⟩=some (int i64 i.n)/\w.cell? ⟨b,off+5,none⟩=some (.slice Q i.args.length q)
abbrev inV (i:In) (Q:Option Addr) (q:Nat):Value:=.agg #[int i64 i.op,int i64 i.a,int i64 i.b,int i64 i.c,int i64 i.n,.slice Q i.args.length q]
abbrev iD (w:World) (nc nm:Nat) (A B:Option Addr) (x y:Nat) (m:Me) (P C K:Option Addr) (p c k:Nat) (i:In) (Q:Option Addr) (q:Nat):World :=
 ((w.alloc (.cells #[.slice A nc x,.slice B nm y] 25)).alloc (.cells #[.slice P m.params.length p,int i64 m.ret.kind,int i64 m.ret.cls,int i64 m.stack,int i64 m.locs,int i64 m.regs,.slice C m.code.length c,.slice K m.hands.length k] 49)).alloc
  (.cells #[int i64 i.op,int i64 i.a,int i64 i.b,int i64 i.c,int i64 i.n,.slice Q i.args.length q] 55)
theorem FN (i:In) (cs:List Cl) (nm:Nat) (A B:Option Addr) (x y:Nat) (m:Me) (P C K:Option Addr) (p c k:Nat) (Q:Option Addr) (q:Nat) (w:World) (eT:cs.length≤12) (eZ:nm≤8) (aW:m.code.length≤maxLen) (hlo:0≤m.locs) (dQ:m.locs≤60) (h:¬(i.c=0/\i.args.length=0)) :
  Calls Tryz.prog 23 #[fV cs.length nm A B x y,iU m P C K p c k,inV i Q q] w fun e w'=>e=.returned (.bool (bD cs nm m.code.length m.locs i))/\Bl w w':=by
 have hb:bD cs nm m.code.length m.locs i=false:=by unfold bD;rw [decide_eq_false h];rfl
 rw [hb]
 clear hb
 unfold maxLen at aW
 by_cases h1:i.c=0
 ·have h2:0<i.args.length:=by omega
  go_enter Tryz.func23,Tryz.ntmps23
  go_wp2
  go_ret
  exact ⟨rfl,(((Bl.refl _).alloc _).alloc _).alloc _⟩
 ·have vB:(i.c !=0)=true:=by simpa using h1
  go_enter Tryz.func23,Tryz.ntmps23
  go_wp2
  go_ret
  exact ⟨rfl,(((Bl.refl _).alloc _).alloc _).alloc _⟩
section
variable (a b n:Int) (cs:List Cl) (nm:Nat) (A B:Option Addr) (x y:Nat) (m:Me) (P C K:Option Addr) (p c k:Nat) (Q:Option Addr) (q:Nat) (w:World)
theorem MW (eT:cs.length≤12) (eZ:nm≤8) (aW:m.code.length≤maxLen) (hlo:0≤m.locs) (dQ:m.locs≤60) :
  Calls Tryz.prog 23 #[fV cs.length nm A B x y,iU m P C K p c k,inV ⟨1,a,b,0,n,[]⟩ Q q] w fun e w'=>e=.returned (.bool (bD cs nm m.code.length m.locs ⟨1,a,b,0,n,[]⟩))/\Bl w w':=by
 unfold maxLen at aW
 by_cases ha:a=0
 ·subst ha
  by_cases hb:b=0
  ·subst hb
   go_enter Tryz.func23,Tryz.ntmps23
   go_wp2_with (go_at_call 20;refine (aE _ _ _ _).mono ?_;rintro e w' ⟨rfl,rfl⟩)
   all_goals
    go_ret
    refine ⟨aj ?_,(((Bl.refl _).alloc _).alloc _).alloc _⟩
    rw [Bool.eq_iff_iff];simp [bD];try omega
  ·have vp:(b==0)=false:=by simpa using hb
   go_enter Tryz.func23,Tryz.ntmps23
   go_wp2_with (go_at_call 20;refine (aE _ _ _ _).mono ?_;rintro e w' ⟨rfl,rfl⟩)
   all_goals
    go_ret
    refine ⟨aj ?_,(((Bl.refl _).alloc _).alloc _).alloc _⟩
    rw [Bool.eq_iff_iff];simp [bD,hb];try omega
 ·have ha':(a==0)=false:=by simpa using ha
  go_enter Tryz.func23,Tryz.ntmps23
  go_wp2_with (go_at_call 20;refine (aE _ _ _ _).mono ?_;rintro e w' ⟨rfl,rfl⟩)
  all_goals
   go_ret
   refine ⟨aj ?_,(((Bl.refl _).alloc _).alloc _).alloc _⟩
   rw [Bool.eq_iff_iff];simp [bD,ha];try omega
theorem MX (eT:cs.length≤12) (eZ:nm≤8) (aW:m.code.length≤maxLen) (hlo:0≤m.locs) (dQ:m.locs≤60) :
  Calls Tryz.prog 23 #[fV cs.length nm A B x y,iU m P C K p c k,inV ⟨2,a,b,0,n,[]⟩ Q q] w fun e w'=>e=.returned (.bool (bD cs nm m.code.length m.locs ⟨2,a,b,0,n,[]⟩))/\Bl w w':=by
 unfold maxLen at aW
 by_cases ha:a=0
 ·subst ha
  by_cases hb:b=0
  ·subst hb
   go_enter Tryz.func23,Tryz.ntmps23
   go_wp2_with (go_at_call 20;refine (aE _ _ _ _).mono ?_;rintro e w' ⟨rfl,rfl⟩)
   all_goals
    go_ret
    refine ⟨aj ?_,(((Bl.refl _).alloc _).alloc _).alloc _⟩
    rw [Bool.eq_iff_iff];simp [bD];try omega
  ·have vp:(b==0)=false:=by simpa using hb
   go_enter Tryz.func23,Tryz.ntmps23
   go_wp2_with (go_at_call 20;refine (aE _ _ _ _).mono ?_;rintro e w' ⟨rfl,rfl⟩)
   all_goals
    go_ret
    refine ⟨aj ?_,(((Bl.refl _).alloc _).alloc _).alloc _⟩
    rw [Bool.eq_iff_iff];simp [bD,hb];try omega
 ·have ha':(a==0)=false:=by simpa using ha
  go_enter Tryz.func23,Tryz.ntmps23
  go_wp2_with (go_at_call 20;refine (aE _ _ _ _).mono ?_;rintro e w' ⟨rfl,rfl⟩)
  all_goals
   go_ret
   refine ⟨aj ?_,(((Bl.refl _).alloc _).alloc _).alloc _⟩
   rw [Bool.eq_iff_iff];simp [bD,ha];try omega
end
theorem MY (op a b n:Int) (h1:op≠1) (h2:op≠2) (hn:n≠0) (cs:List Cl) (nm:Nat) (A B:Option Addr) (x y:Nat) (m:Me) (P C K:Option Addr) (p c k:Nat) (Q:Option Addr) (q:Nat) (w:World) (eT:cs.length≤12) (eZ:nm≤8) (aW:m.code.length≤maxLen) (hlo:0≤m.locs) (dQ:m.locs≤60) :
  Calls Tryz.prog 23 #[fV cs.length nm A B x y,iU m P C K p c k,inV ⟨op,a,b,0,n,[]⟩ Q q] w fun e w'=>e=.returned (.bool (bD cs nm m.code.length m.locs ⟨op,a,b,0,n,[]⟩))/\Bl w w':=by
 unfold maxLen at aW
 have kU:(n !=0)=true:=by simpa using hn
 have z1:(op==1)=false:=by simp;omega
 have z2:(op==2)=false:=by simp;omega
 go_enter Tryz.func23,Tryz.ntmps23
 go_wp2_with (go_at_call 20;refine (aE _ _ _ _).mono ?_;rintro e w' ⟨rfl,rfl⟩)
 all_goals
  go_ret
  refine ⟨aj ?_,(((Bl.refl _).alloc _).alloc _).alloc _⟩
  rw [Bool.eq_iff_iff];simp [bD,h1,h2,hn];try omega
section
variable (a b:Int) (cs:List Cl) (nm:Nat) (A B:Option Addr) (x y:Nat) (m:Me) (P C K:Option Addr) (p c k:Nat) (Q:Option Addr) (q:Nat) (w:World)
theorem MZ (eT:cs.length≤12) (eZ:nm≤8) (aW:m.code.length≤maxLen) (hlo:0≤m.locs) (dQ:m.locs≤60) :
  Calls Tryz.prog 23 #[fV cs.length nm A B x y,iU m P C K p c k,inV ⟨4,a,b,0,0,[]⟩ Q q] w fun e w'=>e=.returned (.bool (bD cs nm m.code.length m.locs ⟨4,a,b,0,0,[]⟩))/\Bl w w':=by
 unfold maxLen at aW
 by_cases hb:b=2
 ·subst hb
  go_enter Tryz.func23,Tryz.ntmps23
  go_wp2_with (go_at_call 20;refine (aE _ _ _ _).mono ?_;rintro e w' ⟨rfl,rfl⟩)
  all_goals
   go_ret
   refine ⟨aj ?_,(((Bl.refl _).alloc _).alloc _).alloc _⟩
   rw [Bool.eq_iff_iff];simp [bD];try omega
 ·have vp:(b==2)=false:=by simpa using hb
  go_enter Tryz.func23,Tryz.ntmps23
  go_wp2_with (go_at_call 20;refine (aE _ _ _ _).mono ?_;rintro e w' ⟨rfl,rfl⟩)
  all_goals
   go_ret
   refine ⟨aj ?_,(((Bl.refl _).alloc _).alloc _).alloc _⟩
   rw [Bool.eq_iff_iff];simp [bD,hb];try omega
theorem Mu (eT:cs.length≤12) (eZ:nm≤8) (aW:m.code.length≤maxLen) (hlo:0≤m.locs) (dQ:m.locs≤60) :
  Calls Tryz.prog 23 #[fV cs.length nm A B x y,iU m P C K p c k,inV ⟨5,a,b,0,0,[]⟩ Q q] w fun e w'=>e=.returned (.bool (bD cs nm m.code.length m.locs ⟨5,a,b,0,0,[]⟩))/\Bl w w':=by
 unfold maxLen at aW
 by_cases hb:b=2
 ·subst hb
  go_enter Tryz.func23,Tryz.ntmps23
  go_wp2_with (go_at_call 20;refine (aE _ _ _ _).mono ?_;rintro e w' ⟨rfl,rfl⟩)
  all_goals
   go_ret
   refine ⟨aj ?_,(((Bl.refl _).alloc _).alloc _).alloc _⟩
   rw [Bool.eq_iff_iff];simp [bD];try omega
 ·have vp:(b==2)=false:=by simpa using hb
  go_enter Tryz.func23,Tryz.ntmps23
  go_wp2_with (go_at_call 20;refine (aE _ _ _ _).mono ?_;rintro e w' ⟨rfl,rfl⟩)
  all_goals
   go_ret
   refine ⟨aj ?_,(((Bl.refl _).alloc _).alloc _).alloc _⟩
   rw [Bool.eq_iff_iff];simp [bD,hb];try omega
theorem JL (eT:cs.length≤12) (eZ:nm≤8) (aW:m.code.length≤maxLen) (hlo:0≤m.locs) (dQ:m.locs≤60) :
  Calls Tryz.prog 23 #[fV cs.length nm A B x y,iU m P C K p c k,inV ⟨12,a,b,0,0,[]⟩ Q q] w fun e w'=>e=.returned (.bool (bD cs nm m.code.length m.locs ⟨12,a,b,0,0,[]⟩))/\Bl w w':=by
 unfold maxLen at aW
 go_enter Tryz.func23,Tryz.ntmps23
 go_wp2_with (go_at_call 20;refine (aE _ _ _ _).mono ?_;rintro e w' ⟨rfl,rfl⟩)
 all_goals
  go_ret
  refine ⟨aj ?_,(((Bl.refl _).alloc _).alloc _).alloc _⟩
  rw [Bool.eq_iff_iff];simp [bD];try omega
end
theorem M5 (op a b:Int) (h:op≠1/\op≠2/\op≠4/\op≠5/\op≠12/\op≠15/\op≠16) (hb:b≠0) (cs:List Cl) (nm:Nat) (A B:Option Addr) (x y:Nat) (m:Me) (P C K:Option Addr) (p c k:Nat) (Q:Option Addr) (q:Nat) (w:World) (eT:cs.length≤12) (eZ:nm≤8) (aW:m.code.length≤maxLen) (hlo:0≤m.locs) (dQ:m.locs≤60) :
  Calls Tryz.prog 23 #[fV cs.length nm A B x y,iU m P C K p c k,inV ⟨op,a,b,0,0,[]⟩ Q q] w fun e w'=>e=.returned (.bool (bD cs nm m.code.length m.locs ⟨op,a,b,0,0,[]⟩))/\Bl w w':=by
 unfold maxLen at aW
 have vp:(b !=0)=true:=by simpa using hb
 have z1:(op==1)=false:=by simp;omega
 have z2:(op==2)=false:=by simp;omega
 have z4:(op==4)=false:=by simp;omega
 have z5:(op==5)=false:=by simp;omega
 have N0:(op==12)=false:=by simp;omega
 have S0:(op==15)=false:=by simp;omega
 have QK:(op==16)=false:=by simp;omega
 obtain ⟨h1,h2,h4,h5,pN,G7,M6⟩:=h
 go_enter Tryz.func23,Tryz.ntmps23
 go_wp2_with (go_at_call 20;refine (aE _ _ _ _).mono ?_;rintro e w' ⟨rfl,rfl⟩)
 all_goals
  go_ret
  refine ⟨aj ?_,(((Bl.refl _).alloc _).alloc _).alloc _⟩
  rw [Bool.eq_iff_iff];simp [bD,h1,h2,h4,h5,pN,G7,M6,hb];try omega
section
variable (a:Int) (cs:List Cl) (nm:Nat) (A B:Option Addr) (x y:Nat) (m:Me) (P C K:Option Addr) (p c k:Nat) (Q:Option Addr) (q:Nat) (w:World)
theorem M8 (eT:cs.length≤12) (eZ:nm≤8) (aW:m.code.length≤maxLen) (hlo:0≤m.locs) (dQ:m.locs≤60) :
  Calls Tryz.prog 23 #[fV cs.length nm A B x y,iU m P C K p c k,inV ⟨3,a,0,0,0,[]⟩ Q q] w fun e w'=>e=.returned (.bool (bD cs nm m.code.length m.locs ⟨3,a,0,0,0,[]⟩))/\Bl w w':=by
 unfold maxLen at aW
 go_enter Tryz.func23,Tryz.ntmps23
 go_wp2_with (go_at_call 20;refine (aE _ _ _ _).mono ?_;rintro e w' ⟨rfl,rfl⟩)
 all_goals
  go_ret
  refine ⟨aj ?_,(((Bl.refl _).alloc _).alloc _).alloc _⟩
  rw [Bool.eq_iff_iff];simp [bD];try omega
theorem M9 (eT:cs.length≤12) (eZ:nm≤8) (aW:m.code.length≤maxLen) (hlo:0≤m.locs) (dQ:m.locs≤60) :
  Calls Tryz.prog 23 #[fV cs.length nm A B x y,iU m P C K p c k,inV ⟨8,a,0,0,0,[]⟩ Q q] w fun e w'=>e=.returned (.bool (bD cs nm m.code.length m.locs ⟨8,a,0,0,0,[]⟩))/\Bl w w':=by
 unfold maxLen at aW
 go_enter Tryz.func23,Tryz.ntmps23
 go_wp2_with (go_at_call 20;refine (aE _ _ _ _).mono ?_;rintro e w' ⟨rfl,rfl⟩)
 all_goals
  go_ret
  refine ⟨aj ?_,(((Bl.refl _).alloc _).alloc _).alloc _⟩
  rw [Bool.eq_iff_iff];simp [bD];try omega
theorem Na (eT:cs.length≤12) (eZ:nm≤8) (aW:m.code.length≤maxLen) (hlo:0≤m.locs) (dQ:m.locs≤60) :
  Calls Tryz.prog 23 #[fV cs.length nm A B x y,iU m P C K p c k,inV ⟨9,a,0,0,0,[]⟩ Q q] w fun e w'=>e=.returned (.bool (bD cs nm m.code.length m.locs ⟨9,a,0,0,0,[]⟩))/\Bl w w':=by
 unfold maxLen at aW
 go_enter Tryz.func23,Tryz.ntmps23
 go_wp2_with (go_at_call 20;refine (aE _ _ _ _).mono ?_;rintro e w' ⟨rfl,rfl⟩)
 all_goals
  go_ret
  refine ⟨aj ?_,(((Bl.refl _).alloc _).alloc _).alloc _⟩
  rw [Bool.eq_iff_iff];simp [bD];try omega
theorem JM (eT:cs.length≤12) (eZ:nm≤8) (aW:m.code.length≤maxLen) (hlo:0≤m.locs) (dQ:m.locs≤60) :
  Calls Tryz.prog 23 #[fV cs.length nm A B x y,iU m P C K p c k,inV ⟨10,a,0,0,0,[]⟩ Q q] w fun e w'=>e=.returned (.bool (bD cs nm m.code.length m.locs ⟨10,a,0,0,0,[]⟩))/\Bl w w':=by
 unfold maxLen at aW
 go_enter Tryz.func23,Tryz.ntmps23
 go_wp2_with (go_at_call 20;refine (aE _ _ _ _).mono ?_;rintro e w' ⟨rfl,rfl⟩)
 all_goals
  go_ret
  refine ⟨aj ?_,(((Bl.refl _).alloc _).alloc _).alloc _⟩
  rw [Bool.eq_iff_iff];simp [bD];try omega
theorem JN (eT:cs.length≤12) (eZ:nm≤8) (aW:m.code.length≤maxLen) (hlo:0≤m.locs) (dQ:m.locs≤60) :
  Calls Tryz.prog 23 #[fV cs.length nm A B x y,iU m P C K p c k,inV ⟨20,a,0,0,0,[]⟩ Q q] w fun e w'=>e=.returned (.bool (bD cs nm m.code.length m.locs ⟨20,a,0,0,0,[]⟩))/\Bl w w':=by
 unfold maxLen at aW
 go_enter Tryz.func23,Tryz.ntmps23
 go_wp2_with (go_at_call 20;refine (aE _ _ _ _).mono ?_;rintro e w' ⟨rfl,rfl⟩)
 all_goals
  go_ret
  refine ⟨aj ?_,(((Bl.refl _).alloc _).alloc _).alloc _⟩
  rw [Bool.eq_iff_iff];simp [bD];try omega
theorem JO (eT:cs.length≤12) (eZ:nm≤8) (aW:m.code.length≤maxLen) (hlo:0≤m.locs) (dQ:m.locs≤60) :
  Calls Tryz.prog 23 #[fV cs.length nm A B x y,iU m P C K p c k,inV ⟨21,a,0,0,0,[]⟩ Q q] w fun e w'=>e=.returned (.bool (bD cs nm m.code.length m.locs ⟨21,a,0,0,0,[]⟩))/\Bl w w':=by
 unfold maxLen at aW
 go_enter Tryz.func23,Tryz.ntmps23
 go_wp2_with (go_at_call 20;refine (aE _ _ _ _).mono ?_;rintro e w' ⟨rfl,rfl⟩)
 all_goals
  go_ret
  refine ⟨aj ?_,(((Bl.refl _).alloc _).alloc _).alloc _⟩
  rw [Bool.eq_iff_iff];simp [bD];try omega
theorem JP (eT:cs.length≤12) (eZ:nm≤8) (aW:m.code.length≤maxLen) (hlo:0≤m.locs) (dQ:m.locs≤60) :
  Calls Tryz.prog 23 #[fV cs.length nm A B x y,iU m P C K p c k,inV ⟨22,a,0,0,0,[]⟩ Q q] w fun e w'=>e=.returned (.bool (bD cs nm m.code.length m.locs ⟨22,a,0,0,0,[]⟩))/\Bl w w':=by
 unfold maxLen at aW
 go_enter Tryz.func23,Tryz.ntmps23
 go_wp2_with (go_at_call 20;refine (aE _ _ _ _).mono ?_;rintro e w' ⟨rfl,rfl⟩)
 all_goals
  go_ret
  refine ⟨aj ?_,(((Bl.refl _).alloc _).alloc _).alloc _⟩
  rw [Bool.eq_iff_iff];simp [bD];try omega
theorem JQ (eT:cs.length≤12) (eZ:nm≤8) (aW:m.code.length≤maxLen) (hlo:0≤m.locs) (dQ:m.locs≤60) :
  Calls Tryz.prog 23 #[fV cs.length nm A B x y,iU m P C K p c k,inV ⟨23,a,0,0,0,[]⟩ Q q] w fun e w'=>e=.returned (.bool (bD cs nm m.code.length m.locs ⟨23,a,0,0,0,[]⟩))/\Bl w w':=by
 unfold maxLen at aW
 go_enter Tryz.func23,Tryz.ntmps23
 go_wp2_with (go_at_call 20;refine (aE _ _ _ _).mono ?_;rintro e w' ⟨rfl,rfl⟩)
 all_goals
  go_ret
  refine ⟨aj ?_,(((Bl.refl _).alloc _).alloc _).alloc _⟩
  rw [Bool.eq_iff_iff];simp [bD];try omega
theorem JR (eT:cs.length≤12) (eZ:nm≤8) (aW:m.code.length≤maxLen) (hlo:0≤m.locs) (dQ:m.locs≤60) :
  Calls Tryz.prog 23 #[fV cs.length nm A B x y,iU m P C K p c k,inV ⟨25,a,0,0,0,[]⟩ Q q] w fun e w'=>e=.returned (.bool (bD cs nm m.code.length m.locs ⟨25,a,0,0,0,[]⟩))/\Bl w w':=by
 unfold maxLen at aW
 go_enter Tryz.func23,Tryz.ntmps23
 go_wp2_with (go_at_call 20;refine (aE _ _ _ _).mono ?_;rintro e w' ⟨rfl,rfl⟩)
 all_goals
  go_ret
  refine ⟨aj ?_,(((Bl.refl _).alloc _).alloc _).alloc _⟩
  rw [Bool.eq_iff_iff];simp [bD];try omega
theorem Nb (eT:cs.length≤12) (eZ:nm≤8) (aW:m.code.length≤maxLen) (hlo:0≤m.locs) (dQ:m.locs≤60) :
  Calls Tryz.prog 23 #[fV cs.length nm A B x y,iU m P C K p c k,inV ⟨6,a,0,0,0,[]⟩ Q q] w fun e w'=>e=.returned (.bool (bD cs nm m.code.length m.locs ⟨6,a,0,0,0,[]⟩))/\Bl w w':=by
 unfold maxLen at aW
 go_enter Tryz.func23,Tryz.ntmps23
 go_wp2_with (go_at_call 20;refine (aE _ _ _ _).mono ?_;rintro e w' ⟨rfl,rfl⟩)
 all_goals
  go_ret
  refine ⟨aj ?_,(((Bl.refl _).alloc _).alloc _).alloc _⟩
  rw [Bool.eq_iff_iff];simp [bD];try omega
theorem Nc (eT:cs.length≤12) (eZ:nm≤8) (aW:m.code.length≤maxLen) (hlo:0≤m.locs) (dQ:m.locs≤60) :
  Calls Tryz.prog 23 #[fV cs.length nm A B x y,iU m P C K p c k,inV ⟨7,a,0,0,0,[]⟩ Q q] w fun e w'=>e=.returned (.bool (bD cs nm m.code.length m.locs ⟨7,a,0,0,0,[]⟩))/\Bl w w':=by
 unfold maxLen at aW
 go_enter Tryz.func23,Tryz.ntmps23
 go_wp2_with (go_at_call 20;refine (aE _ _ _ _).mono ?_;rintro e w' ⟨rfl,rfl⟩)
 all_goals
  go_ret
  refine ⟨aj ?_,(((Bl.refl _).alloc _).alloc _).alloc _⟩
  rw [Bool.eq_iff_iff];simp [bD];try omega
theorem JS (eT:cs.length≤12) (eZ:nm≤8) (aW:m.code.length≤maxLen) (hlo:0≤m.locs) (dQ:m.locs≤60) :
  Calls Tryz.prog 23 #[fV cs.length nm A B x y,iU m P C K p c k,inV ⟨11,a,0,0,0,[]⟩ Q q] w fun e w'=>e=.returned (.bool (bD cs nm m.code.length m.locs ⟨11,a,0,0,0,[]⟩))/\Bl w w':=by
 unfold maxLen at aW
 go_enter Tryz.func23,Tryz.ntmps23
 go_wp2_with (go_at_call 20;refine (aE _ _ _ _).mono ?_;rintro e w' ⟨rfl,rfl⟩)
 all_goals
  go_ret
  refine ⟨aj ?_,(((Bl.refl _).alloc _).alloc _).alloc _⟩
  rw [Bool.eq_iff_iff];simp [bD];try omega
theorem JT (eT:cs.length≤12) (eZ:nm≤8) (aW:m.code.length≤maxLen) (hlo:0≤m.locs) (dQ:m.locs≤60) :
  Calls Tryz.prog 23 #[fV cs.length nm A B x y,iU m P C K p c k,inV ⟨13,a,0,0,0,[]⟩ Q q] w fun e w'=>e=.returned (.bool (bD cs nm m.code.length m.locs ⟨13,a,0,0,0,[]⟩))/\Bl w w':=by
 unfold maxLen at aW
 go_enter Tryz.func23,Tryz.ntmps23
 go_wp2_with (go_at_call 20;refine (aE _ _ _ _).mono ?_;rintro e w' ⟨rfl,rfl⟩)
 all_goals
  go_ret
  refine ⟨aj ?_,(((Bl.refl _).alloc _).alloc _).alloc _⟩
  rw [Bool.eq_iff_iff];simp [bD];try omega
theorem JU (eT:cs.length≤12) (eZ:nm≤8) (aW:m.code.length≤maxLen) (hlo:0≤m.locs) (dQ:m.locs≤60) :
  Calls Tryz.prog 23 #[fV cs.length nm A B x y,iU m P C K p c k,inV ⟨14,a,0,0,0,[]⟩ Q q] w fun e w'=>e=.returned (.bool (bD cs nm m.code.length m.locs ⟨14,a,0,0,0,[]⟩))/\Bl w w':=by
 unfold maxLen at aW
 go_enter Tryz.func23,Tryz.ntmps23
 go_wp2_with (go_at_call 20;refine (aE _ _ _ _).mono ?_;rintro e w' ⟨rfl,rfl⟩)
 all_goals
  go_ret
  refine ⟨aj ?_,(((Bl.refl _).alloc _).alloc _).alloc _⟩
  rw [Bool.eq_iff_iff];simp [bD];try omega
theorem JV (eT:cs.length≤12) (eZ:nm≤8) (aW:m.code.length≤maxLen) (hlo:0≤m.locs) (dQ:m.locs≤60) :
  Calls Tryz.prog 23 #[fV cs.length nm A B x y,iU m P C K p c k,inV ⟨17,a,0,0,0,[]⟩ Q q] w fun e w'=>e=.returned (.bool (bD cs nm m.code.length m.locs ⟨17,a,0,0,0,[]⟩))/\Bl w w':=by
 unfold maxLen at aW
 go_enter Tryz.func23,Tryz.ntmps23
 go_wp2_with (go_at_call 20;refine (aE _ _ _ _).mono ?_;rintro e w' ⟨rfl,rfl⟩)
 all_goals
  go_ret
  refine ⟨aj ?_,(((Bl.refl _).alloc _).alloc _).alloc _⟩
  rw [Bool.eq_iff_iff];simp [bD];try omega
theorem JW (eT:cs.length≤12) (eZ:nm≤8) (aW:m.code.length≤maxLen) (hlo:0≤m.locs) (dQ:m.locs≤60) :
  Calls Tryz.prog 23 #[fV cs.length nm A B x y,iU m P C K p c k,inV ⟨18,a,0,0,0,[]⟩ Q q] w fun e w'=>e=.returned (.bool (bD cs nm m.code.length m.locs ⟨18,a,0,0,0,[]⟩))/\Bl w w':=by
 unfold maxLen at aW
 go_enter Tryz.func23,Tryz.ntmps23
 go_wp2_with (go_at_call 20;refine (aE _ _ _ _).mono ?_;rintro e w' ⟨rfl,rfl⟩)
 all_goals
  go_ret
  refine ⟨aj ?_,(((Bl.refl _).alloc _).alloc _).alloc _⟩
  rw [Bool.eq_iff_iff];simp [bD];try omega
theorem JX (eT:cs.length≤12) (eZ:nm≤8) (aW:m.code.length≤maxLen) (hlo:0≤m.locs) (dQ:m.locs≤60) :
  Calls Tryz.prog 23 #[fV cs.length nm A B x y,iU m P C K p c k,inV ⟨19,a,0,0,0,[]⟩ Q q] w fun e w'=>e=.returned (.bool (bD cs nm m.code.length m.locs ⟨19,a,0,0,0,[]⟩))/\Bl w w':=by
 unfold maxLen at aW
 go_enter Tryz.func23,Tryz.ntmps23
 go_wp2_with (go_at_call 20;refine (aE _ _ _ _).mono ?_;rintro e w' ⟨rfl,rfl⟩)
 all_goals
  go_ret
  refine ⟨aj ?_,(((Bl.refl _).alloc _).alloc _).alloc _⟩
  rw [Bool.eq_iff_iff];simp [bD];try omega
theorem JY (eT:cs.length≤12) (eZ:nm≤8) (aW:m.code.length≤maxLen) (hlo:0≤m.locs) (dQ:m.locs≤60) :
  Calls Tryz.prog 23 #[fV cs.length nm A B x y,iU m P C K p c k,inV ⟨24,a,0,0,0,[]⟩ Q q] w fun e w'=>e=.returned (.bool (bD cs nm m.code.length m.locs ⟨24,a,0,0,0,[]⟩))/\Bl w w':=by
 unfold maxLen at aW
 go_enter Tryz.func23,Tryz.ntmps23
 go_wp2_with (go_at_call 20;refine (aE _ _ _ _).mono ?_;rintro e w' ⟨rfl,rfl⟩)
 all_goals
  go_ret
  refine ⟨aj ?_,(((Bl.refl _).alloc _).alloc _).alloc _⟩
  rw [Bool.eq_iff_iff];simp [bD];try omega
end
theorem nQ (m:Me) (P C K:Option Addr) (p c k:Nat) (a b:Int) (w:World) (hlo:0≤m.locs) (dQ:m.locs≤60) :
  Calls Tryz.prog 203 #[iU m P C K p c k,int i64 a,int i64 b] w fun e w'=>e=.returned (.bool (decide (0≤a/\a≤m.locs-jo b)))/\Bl w w':=by
 have hw:=lG b
 have hal:Bl w (w.alloc (nZ m P C K p c k)):=(Bl.refl _).alloc _
 obtain ⟨x0,x1,x2,x3,x4,x5,x6,x7⟩:=eA.new w m P C K p c k
 have y4:=aU x4
 clear x0 x1 x2 x3 x4 x5 x6 x7
 obtain ⟨W,hW⟩:∃W,jo b=W:=⟨_,rfl⟩
 obtain ⟨R,hR⟩:∃R,decide (0≤a/\a≤m.locs-W)=R:=⟨_,rfl⟩
 rw [hW] at hw
 rw [hW,hR]
 go_enter Tryz.func203,Tryz.ntmps203
 go_wp2
 refine bg (by kernel_rfl) (by kernel_rfl) fun hne=>?_
 repeat (go_big_quiet_step (first
  | (go_at_call 87;exact Calls.fut_same_eq _ (l9 _ _) (congrArg (Value.int .i64) hW))
  | (go_at_call 36;exact Calls.fut_same_eq _ (bh _ _ _ _) (congrArg Value.bool hR))))
 refine wpQuiet_nil ?_
 rintro _ ⟨⟨w2,eK⟩,rfl⟩
 go_wp2
 go_ret
 exact ⟨rfl,hal.trans eK⟩
theorem gC (A:Option Addr) (x:Nat) (cs:List Cl) (c k:Int) (w:World) (hl:cg w A cs) :
  Calls Tryz.prog 204 #[.slice A cs.length x,int i64 c,int i64 k] w fun e w'=>e=.returned (.bool (mO cs c k))/\w'=w:=by
 obtain ⟨hm,hl⟩:=hl
 unfold maxLen at hm
 by_cases h:0≤c/\c<cs.length
 ·have hd:decide (0≤c/\c<(cs.length:Int))=true:=decide_eq_true h
  obtain ⟨n,rfl⟩:∃n:Nat,c=n:=⟨c.toNat,by omega⟩
  rcases hl with h0|⟨b,off,rfl,hc⟩
  ·omega
  obtain ⟨-,-,A',c',jB,hty⟩:=hc n (by omega)
  have KK:=hty.1
  unfold maxLen at KK
  have hb:mO cs n k=decide (0≤k/\k<((nth cd cs n).fields.length:Int)):=by
   unfold mO;rw [Int.toNat_natCast,Bool.eq_iff_iff,decide_eq_true_eq,decide_eq_true_eq];omega
  rw [hb]
  clear hb hc hty
  go_enter Tryz.func204,Tryz.ntmps204
  go_wp2_with (go_at_call 99;refine (bd _ _ _).mono ?_;rintro e w1 ⟨he,rfl⟩;(first|rw [hd] at he|skip);subst he)
  go_ret
  exact ⟨aj (by simp),rfl⟩
 ·have hd:decide (0≤c/\c<(cs.length:Int))=false:=decide_eq_false h
  have hb:mO cs c k=false:=by unfold mO;rw [decide_eq_false_iff_not];omega
  rw [hb]
  clear hb hl
  go_enter Tryz.func204,Tryz.ntmps204
  go_wp2_with (go_at_call 99;refine (bd _ _ _).mono ?_;rintro e w1 ⟨he,rfl⟩;rw [hd] at he;subst he)
  go_ret
  exact ⟨rfl,rfl⟩
theorem CE (n:Int):(n==wrap32 n)=decide (-2147483648≤n/\n≤2147483647):=by
 rw [Bool.eq_iff_iff];simp;unfold wrap32;omega
abbrev S2 (i:In) (Q:Option Addr) (q:Nat):Obj:=.cells #[int i64 i.op,int i64 i.a,int i64 i.b,int i64 i.c,int i64 i.n,.slice Q i.args.length q] 55
abbrev yU (nc nm:Nat) (A B:Option Addr) (x y:Nat):Obj:=.cells #[.slice A nc x,.slice B nm y] 25
theorem wZ (i:In) (Q:Option Addr) (q:Nat) (w:World) :
  Calls Tryz.prog 151 #[inV i Q q] w fun e w'=>e=.returned (.bool (nB i))/\Bl w w':=by
 obtain ⟨op,a,b,c,n,args⟩:=i
 have hal:Bl w (w.alloc (S2 ⟨op,a,b,c,n,args⟩ Q q)):=(Bl.refl _).alloc _
 by_cases h1:op=1
 ·subst h1
  have hb:nB ⟨1,a,b,c,n,args⟩=(n==wrap32 n):=by rw [CE];rfl
  have y4:∀x:pk (w.alloc (S2 ⟨1,a,b,c,n,args⟩ Q q)),x.to.cell? ⟨w.heap.size,4,none⟩=some (int i64 n):=aU (ak rfl)
  rw [hb]
  obtain ⟨N,hN⟩:∃N,wrap32 n=N:=⟨_,rfl⟩
  rw [hN]
  clear hb
  go_enter Tryz.func151,Tryz.ntmps151
  go_wp2
  refine bg (by kernel_rfl) (by kernel_rfl) fun hne=>?_
  repeat (go_big_quiet_step ((go_at_call 104;exact Calls.fut_same_eq _ (kD _ _) (congrArg (Value.int .i64) hN))))
  refine wpQuiet_nil ?_
  rintro _ ⟨⟨w2,eK⟩,rfl⟩
  go_wp2
  go_ret
  exact ⟨aj rfl,hal.trans eK⟩
 by_cases h2:op=2
 ·subst h2
  go_enter Tryz.func151,Tryz.ntmps151
  go_wp2
  go_ret
  exact ⟨rfl,hal⟩
 have z1:(op==1)=false:=by simp;omega
 have z2:(op==2)=false:=by simp;omega
 have hb:nB ⟨op,a,b,c,n,args⟩=(n==0):=by unfold nB;dsimp only;rw [if_neg h1,if_neg h2];rw [Bool.eq_iff_iff];simp
 rw [hb]
 go_enter Tryz.func151,Tryz.ntmps151
 go_wp2
 all_goals
  go_ret
  exact ⟨aj (by simp [*]),hal⟩
theorem nR (i:In) (cs:List Cl) (nm:Nat) (A B:Option Addr) (x y:Nat) (Q:Option Addr) (q:Nat) (w:World) (hl:cg w A cs) :
  Calls Tryz.prog 150 #[fV cs.length nm A B x y,inV i Q q] w fun e w'=>e=.returned (.bool (bB cs i))/\Bl w w':=by
 obtain ⟨op,a,b,c,n,args⟩:=i
 have cD:Hid (∀o o',Bl w ((w.alloc o).alloc o')):=fun o o'=>((Bl.refl _).alloc _).alloc _
 have HL:Hid (cg w A cs):=hl
 clear hl
 have hop:op=4∨op=5∨op=12∨op=15∨op=16∨(op≠4/\op≠5/\op≠12/\op≠15/\op≠16):=by omega
 rcases hop with rfl|rfl|rfl|rfl|rfl|hop
 ·go_enter Tryz.func150,Tryz.ntmps150
  go_wp2_with (first
   | (go_at_call 36;refine (bh _ _ _ _).mono ?_;rintro e w1 ⟨rfl,rfl⟩)
   | (go_at_call 204;refine (gC _ _ _ _ _ _ (HL.out.bl (cD.out _ _))).mono ?_;rintro e w1 ⟨rfl,rfl⟩))
  go_ret
  exact ⟨aj (by simp [bB]),cD.out _ _⟩
 ·go_enter Tryz.func150,Tryz.ntmps150
  go_wp2_with (first
   | (go_at_call 36;refine (bh _ _ _ _).mono ?_;rintro e w1 ⟨rfl,rfl⟩)
   | (go_at_call 204;refine (gC _ _ _ _ _ _ (HL.out.bl (cD.out _ _))).mono ?_;rintro e w1 ⟨rfl,rfl⟩))
  go_ret
  exact ⟨aj (by simp [bB]),cD.out _ _⟩
 ·go_enter Tryz.func150,Tryz.ntmps150
  go_wp2_with (first
   | (go_at_call 36;refine (bh _ _ _ _).mono ?_;rintro e w1 ⟨rfl,rfl⟩)
   | (go_at_call 204;refine (gC _ _ _ _ _ _ (HL.out.bl (cD.out _ _))).mono ?_;rintro e w1 ⟨rfl,rfl⟩))
  go_ret
  exact ⟨aj (by simp [bB]),cD.out _ _⟩
 ·go_enter Tryz.func150,Tryz.ntmps150
  go_wp2_with (first
   | (go_at_call 36;refine (bh _ _ _ _).mono ?_;rintro e w1 ⟨rfl,rfl⟩)
   | (go_at_call 204;refine (gC _ _ _ _ _ _ (HL.out.bl (cD.out _ _))).mono ?_;rintro e w1 ⟨rfl,rfl⟩))
  go_ret
  exact ⟨aj (by simp [bB]),cD.out _ _⟩
 ·go_enter Tryz.func150,Tryz.ntmps150
  go_wp2_with (first
   | (go_at_call 36;refine (bh _ _ _ _).mono ?_;rintro e w1 ⟨rfl,rfl⟩)
   | (go_at_call 204;refine (gC _ _ _ _ _ _ (HL.out.bl (cD.out _ _))).mono ?_;rintro e w1 ⟨rfl,rfl⟩))
  go_ret
  exact ⟨aj (by simp [bB]),cD.out _ _⟩
 ·obtain ⟨h4,h5,pN,G7,M6⟩:=hop
  have z4:(op==4)=false:=by simp;omega
  have z5:(op==5)=false:=by simp;omega
  have N0:(op==12)=false:=by simp;omega
  have S0:(op==15)=false:=by simp;omega
  have QK:(op==16)=false:=by simp;omega
  have hb:bB cs ⟨op,a,b,c,n,args⟩=(b==0):=by
   unfold bB;dsimp only;rw [if_neg (by omega),if_neg (by omega),if_neg (by omega)];rw [Bool.eq_iff_iff];simp
  rw [hb]
  clear hb h4 h5 pN G7 M6
  go_enter Tryz.func150,Tryz.ntmps150
  go_wp2
  all_goals
   go_ret
   exact ⟨aj (by simp [*]),cD.out _ _⟩
theorem lJ (i:In) (nc nm:Nat) (A B:Option Addr) (x y:Nat) (m:Me) (P C K:Option Addr) (p c k:Nat) (Q:Option Addr) (q:Nat) (w:World) (hlo:0≤m.locs) (dQ:m.locs≤60) (eT:nc≤maxLen) (eZ:nm≤maxLen) (aW:m.code.length≤maxLen) :
  Calls Tryz.prog 149 #[fV nc nm A B x y,iU m P C K p c k,inV i Q q] w fun e w'=>e=.returned (.bool (aB nc nm m.code.length m.locs i))/\Bl w w':=by
 obtain ⟨op,a,b,d,n,args⟩:=i
 unfold maxLen at eT eZ aW
 have cD:Hid (∀o o' U9,Bl w (((w.alloc o).alloc o').alloc U9)):=fun o o' U9=>(((Bl.refl _).alloc _).alloc _).alloc _
 have hop:op=4∨op=5∨op=6∨op=7∨op=11∨op=12∨op=13∨op=14∨op=15∨op=16∨op=17∨op=18∨op=19∨op=24∨(op≠4/\op≠5/\op≠6/\op≠7/\op≠11/\op≠12/\op≠13/\op≠14/\op≠15/\op≠16/\op≠17/\op≠18/\op≠19/\op≠24):=by omega
 rcases hop with rfl|rfl|rfl|rfl|rfl|rfl|rfl|rfl|rfl|rfl|rfl|rfl|rfl|rfl|hop
 ·have hb:aB nc nm m.code.length m.locs ⟨4,a,b,d,n,args⟩=decide (0≤a/\a≤m.locs-jo b):=by simp [aB]
  rw [hb]
  obtain ⟨R,hR⟩:∃R,decide (0≤a/\a≤m.locs-jo b)=R:=⟨_,rfl⟩
  rw [hR]
  clear hb
  go_enter Tryz.func149,Tryz.ntmps149
  go_wp2_with (go_at_call 203;refine (nQ m _ _ _ _ _ _ _ _ _ hlo dQ).mono ?_;rintro e w1 ⟨he,iH⟩;rw [hR] at he;subst he)
  go_ret
  exact ⟨rfl,(cD.out _ _ _).trans iH⟩
 ·have hb:aB nc nm m.code.length m.locs ⟨5,a,b,d,n,args⟩=decide (0≤a/\a≤m.locs-jo b):=by simp [aB]
  rw [hb]
  obtain ⟨R,hR⟩:∃R,decide (0≤a/\a≤m.locs-jo b)=R:=⟨_,rfl⟩
  rw [hR]
  clear hb
  go_enter Tryz.func149,Tryz.ntmps149
  go_wp2_with (go_at_call 203;refine (nQ m _ _ _ _ _ _ _ _ _ hlo dQ).mono ?_;rintro e w1 ⟨he,iH⟩;rw [hR] at he;subst he)
  go_ret
  exact ⟨rfl,(cD.out _ _ _).trans iH⟩
 ·go_enter Tryz.func149,Tryz.ntmps149
  go_wp2_with (first
   | (go_at_call 36;refine (bh _ _ _ _).mono ?_;rintro e w1 ⟨rfl,rfl⟩)
   | (go_at_call 99;refine (bd _ _ _).mono ?_;rintro e w1 ⟨rfl,rfl⟩))
  go_ret
  exact ⟨aj (by simp [aB]),cD.out _ _ _⟩
 ·go_enter Tryz.func149,Tryz.ntmps149
  go_wp2_with (first
   | (go_at_call 36;refine (bh _ _ _ _).mono ?_;rintro e w1 ⟨rfl,rfl⟩)
   | (go_at_call 99;refine (bd _ _ _).mono ?_;rintro e w1 ⟨rfl,rfl⟩))
  go_ret
  exact ⟨aj (by simp [aB]),cD.out _ _ _⟩
 ·go_enter Tryz.func149,Tryz.ntmps149
  go_wp2_with (first
   | (go_at_call 36;refine (bh _ _ _ _).mono ?_;rintro e w1 ⟨rfl,rfl⟩)
   | (go_at_call 99;refine (bd _ _ _).mono ?_;rintro e w1 ⟨rfl,rfl⟩))
  go_ret
  exact ⟨aj (by simp [aB]),cD.out _ _ _⟩
 ·go_enter Tryz.func149,Tryz.ntmps149
  go_wp2_with (first
   | (go_at_call 36;refine (bh _ _ _ _).mono ?_;rintro e w1 ⟨rfl,rfl⟩)
   | (go_at_call 99;refine (bd _ _ _).mono ?_;rintro e w1 ⟨rfl,rfl⟩))
  go_ret
  exact ⟨aj (by simp [aB]),cD.out _ _ _⟩
 ·go_enter Tryz.func149,Tryz.ntmps149
  go_wp2_with (first
   | (go_at_call 36;refine (bh _ _ _ _).mono ?_;rintro e w1 ⟨rfl,rfl⟩)
   | (go_at_call 99;refine (bd _ _ _).mono ?_;rintro e w1 ⟨rfl,rfl⟩))
  go_ret
  exact ⟨aj (by simp [aB]),cD.out _ _ _⟩
 ·go_enter Tryz.func149,Tryz.ntmps149
  go_wp2_with (first
   | (go_at_call 36;refine (bh _ _ _ _).mono ?_;rintro e w1 ⟨rfl,rfl⟩)
   | (go_at_call 99;refine (bd _ _ _).mono ?_;rintro e w1 ⟨rfl,rfl⟩))
  go_ret
  exact ⟨aj (by simp [aB]),cD.out _ _ _⟩
 ·go_enter Tryz.func149,Tryz.ntmps149
  go_wp2_with (first
   | (go_at_call 36;refine (bh _ _ _ _).mono ?_;rintro e w1 ⟨rfl,rfl⟩)
   | (go_at_call 99;refine (bd _ _ _).mono ?_;rintro e w1 ⟨rfl,rfl⟩))
  go_ret
  exact ⟨aj (by simp [aB]),cD.out _ _ _⟩
 ·go_enter Tryz.func149,Tryz.ntmps149
  go_wp2_with (first
   | (go_at_call 36;refine (bh _ _ _ _).mono ?_;rintro e w1 ⟨rfl,rfl⟩)
   | (go_at_call 99;refine (bd _ _ _).mono ?_;rintro e w1 ⟨rfl,rfl⟩))
  go_ret
  exact ⟨aj (by simp [aB]),cD.out _ _ _⟩
 ·go_enter Tryz.func149,Tryz.ntmps149
  go_wp2_with (first
   | (go_at_call 36;refine (bh _ _ _ _).mono ?_;rintro e w1 ⟨rfl,rfl⟩)
   | (go_at_call 99;refine (bd _ _ _).mono ?_;rintro e w1 ⟨rfl,rfl⟩))
  go_ret
  exact ⟨aj (by simp [aB]),cD.out _ _ _⟩
 ·go_enter Tryz.func149,Tryz.ntmps149
  go_wp2_with (first
   | (go_at_call 36;refine (bh _ _ _ _).mono ?_;rintro e w1 ⟨rfl,rfl⟩)
   | (go_at_call 99;refine (bd _ _ _).mono ?_;rintro e w1 ⟨rfl,rfl⟩))
  go_ret
  exact ⟨aj (by simp [aB]),cD.out _ _ _⟩
 ·go_enter Tryz.func149,Tryz.ntmps149
  go_wp2_with (first
   | (go_at_call 36;refine (bh _ _ _ _).mono ?_;rintro e w1 ⟨rfl,rfl⟩)
   | (go_at_call 99;refine (bd _ _ _).mono ?_;rintro e w1 ⟨rfl,rfl⟩))
  go_ret
  exact ⟨aj (by simp [aB]),cD.out _ _ _⟩
 ·go_enter Tryz.func149,Tryz.ntmps149
  go_wp2_with (first
   | (go_at_call 36;refine (bh _ _ _ _).mono ?_;rintro e w1 ⟨rfl,rfl⟩)
   | (go_at_call 99;refine (bd _ _ _).mono ?_;rintro e w1 ⟨rfl,rfl⟩))
  go_ret
  exact ⟨aj (by simp [aB]),cD.out _ _ _⟩
 ·obtain ⟨h4,h5,h6,h7,G8,pN,Nd,DU,G7,M6,S4,S5,pn,L4⟩:=hop
  have z4:(op==4)=false:=by simp;omega
  have z5:(op==5)=false:=by simp;omega
  have z6:(op==6)=false:=by simp;omega
  have z7:(op==7)=false:=by simp;omega
  have Uv:(op==11)=false:=by simp;omega
  have N0:(op==12)=false:=by simp;omega
  have Sj:(op==13)=false:=by simp;omega
  have XH:(op==14)=false:=by simp;omega
  have S0:(op==15)=false:=by simp;omega
  have QK:(op==16)=false:=by simp;omega
  have XI:(op==17)=false:=by simp;omega
  have XJ:(op==18)=false:=by simp;omega
  have Uw:(op==19)=false:=by simp;omega
  have z24:(op==24)=false:=by simp;omega
  have hb:aB nc nm m.code.length m.locs ⟨op,a,b,d,n,args⟩=(a==0):=by
   unfold aB;dsimp only;rw [if_neg (by omega),if_neg (by omega),if_neg (by omega),if_neg (by omega),if_neg (by omega),if_neg (by omega)];rw [Bool.eq_iff_iff];simp
  rw [hb]
  clear hb h4 h5 h6 h7 G8 pN Nd DU G7 M6 S4 S5 pn L4
  go_enter Tryz.func149,Tryz.ntmps149
  go_wp2
  all_goals
   go_ret
   exact ⟨aj (by simp [*]),cD.out _ _ _⟩
end Go.Proofs.YtimjmdfokicbkaaGreat
