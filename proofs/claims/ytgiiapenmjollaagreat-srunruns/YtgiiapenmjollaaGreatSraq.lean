import Derived.Test.YtgiiapenmjollaaGreatSrab
namespace Go.Proofs.YtgiiapenmjollaaGreat
set_option linter.all false
set_option maxHeartbeats 40000000
set_option maxRecDepth 100000
open Go.RowKit
open Go.Value (int)
open Go.IntKind (i64)
def jq (k:Int):Int:=if k=0 then 0 else if k=2 then 2 else 1
theorem lI (k:Int):0<=jq k/\jq k<=2:=by unfold jq;split<;>(try split)<;>omega
def aB (nc nm iK:Nat) (locs:Int) (i:In):Bool :=
 if i.op=4∨i.op=5 then decide (0<=i.a/\i.a<=locs-jq i.b)
 else if i.op=6∨i.op=7 then decide (1<=i.a/\i.a<=8)
 else if i.op=11∨i.op=12∨i.op=13 then decide (0<=i.a/\i.a<iK)
 else if i.op=14∨i.op=15∨i.op=16∨i.op=17∨i.op=18 then decide (0<=i.a/\i.a<nc)
 else if i.op=19 then decide (0<=i.a/\i.a<nm)
 else if i.op=24 then decide (1<=i.a/\i.a<=2)
 else decide (i.a=0)
def mQ (cs:List Cl) (c k:Int):Bool:=decide (0<=c/\c<cs.length/\0<=k/\k<(nth cg cs c.toNat).fields.length)
def bB (cs:List Cl) (i:In):Bool :=
 if i.op=4∨i.op=5 then decide (1<=i.b/\i.b<=3)
 else if i.op=12 then decide (1<=i.b/\i.b<=4)
 else if i.op=15∨i.op=16 then mQ cs i.a i.b
 else decide (i.b=0)
def nB (i:In):Bool :=
 if i.op=1 then decide (-2147483648<=i.n/\i.n<=2147483647)
 else if i.op=2 then true
 else decide (i.n=0)
theorem yV (cs:List Cl) (nm iK:Nat) (locs:Int) (i:In) :
  bE cs nm iK locs i=(decide (1<=i.op/\i.op<=25)&&(aB cs.length nm iK locs i&&(bB cs i&&(decide (i.c=0)&&(nB i&&decide (i.args.length=0)))))):=by
 obtain ⟨op,a,b,c,n,args⟩:=i
 by_cases h:1<=op/\op<=25
 ·have:op=1∨op=2∨op=3∨op=4∨op=5∨op=6∨op=7∨op=8∨op=9∨op=10∨op=11∨op=12∨op=13∨op=14∨op=15∨op=16∨op=17∨op=18∨op=19∨op=20∨op=21∨op=22∨op=23∨op=24∨op=25:=by omega
  rcases this with rfl|rfl|rfl|rfl|rfl|rfl|rfl|rfl|rfl|rfl|rfl|rfl|rfl|rfl|rfl|rfl|rfl|rfl|rfl|rfl|rfl|rfl|rfl|rfl|rfl
  all_goals
   unfold bE aB bB nB mQ jq
   dsimp only
   generalize args.length=L
   rw [Bool.eq_iff_iff]
   simp
   try (repeat' split)<;>omega
 ·have e:decide (1<=op/\op<=25)=false:=decide_eq_false h
  have e':decide (1<=(In.mk op a b c n args).op/\(In.mk op a b c n args).op<=25)=false:=e
  rw [e',Bool.false_and]
  unfold bE
  dsimp only
  rw [if_neg (by omega),if_neg (by omega),if_neg (by omega),if_neg (by omega),if_neg (by omega),if_neg (by omega),if_neg (by omega),if_neg (by omega),if_neg (by omega),if_neg (by omega),if_neg (by omega)]
  simp
theorem mc (k:Int) (w:World) :
  Calls Tryz.prog 85 #[int i64 k] w fun e w'=>e=.returned (int i64 (jq k))/\w'=w:=by
 by_cases h0:k=0
 ·subst h0
  go_enter Tryz.func85,Tryz.ntmps85
  go_wp2
  go_ret
  exact ⟨rfl,rfl⟩
 by_cases h2:k=2
 ·subst h2
  go_enter Tryz.func85,Tryz.ntmps85
  go_wp2
  go_ret
  exact ⟨rfl,rfl⟩
 have hk:jq k=1:=by unfold jq;rw [if_neg h0,if_neg h2]
 rw [hk]
 clear hk
 go_enter Tryz.func85,Tryz.ntmps85
 go_wp2
 go_ret
 exact ⟨rfl,rfl⟩
theorem oB (A:Option Addr) (c:Nat) (F:List Ty) (w:World) (hl:dp w A F) (hb:F.length<=1000000) (hk:∀k,k<F.length->(nth cN F k).kind≠0) :
  Calls Tryz.prog 82 #[.slice A F.length c] w fun e w'=>e=.returned (int i64 (bZ F:Nat))/\Bl w w':=by
 obtain ⟨hm,hl⟩:=hl
 clear hm
 have HS:Hid (∀k,k<F.length->bZ (F.take (k+1))=bZ (F.take k)+(if (nth cN F k).kind=2 then 2 else 1)):=oL F
 have HB:Hid (∀k,bZ (F.take k)<=2*k):=fun k=>by have:=rY (F.take k);have:=List.length_take_le k F;omega
 have HK:Hid (∀k,k<F.length->(nth cN F k).kind≠0):=hk
 clear hk
 go_enter Tryz.func82,Tryz.ntmps82
 go_wp2
 go_loopw [3,8] (fun n i wr=>∃k:Nat,k<=F.length/\i=int i64 k/\n=int i64 ((bZ (F.take k):Nat):Int)/\Hid (Bl w wr)) (fun _ i _=>F.length-(intOf i).toNat)
 case atStart=>exact ⟨0,Nat.zero_le _,rfl,by simp [bZ],Bl.refl _⟩
 case round =>
  obtain ⟨k,hk,rfl,rfl,hg⟩:=hrel
  have h2:=HB.out k
  by_cases hlt:k<F.length
  ·rcases hl with h0|⟨b,off,rfl,hcell⟩
   ·omega
   have ht:=hg.out.cell (hcell k hlt).1
   have LV:=hg.out.cell (hcell k hlt).2.1
   have hs:=HS.out k hlt
   have hw:((bZ (F.take (k+1)):Nat):Int)=((bZ (F.take k):Nat):Int)+jq (nth cN F k).kind:=by
    have:=HK.out k hlt
    rw [hs];unfold jq;rw [if_neg this];split<;>simp
   have YA:=lI (nth cN F k).kind
   have H8:Hid (((bZ (F.take (k+1)):Nat):Int)=((bZ (F.take k):Nat):Int)+jq (nth cN F k).kind):=hw
   clear hcell hs hw
   generalize hW:jq (nth cN F k).kind=W at *
   go_wp2_with (go_at_call 85;refine (mc _ _).mono ?_;rintro e w1 ⟨he,rfl⟩;rw [hW] at he;subst he)
   go_roundw
   case rel=>exact ⟨k+1,by omega,by go_num,by rw [H8.out],hg.out.alloc _⟩
   case measure=>simp [intOf];omega
  ·obtain rfl:k=F.length:=by omega
   rw [List.take_length] at *
   go_wp2
   go_ret
   exact ⟨rfl,hg.out⟩
section
variable {w:World} {k c:Int} {t:TypeId}
theorem JD (hk:cP k) (hc:cP c):dp (w.alloc (.cells #[int i64 k,int i64 c] t)) (some ⟨w.heap.size,0,none⟩) [⟨k,c⟩]:=by
 refine ⟨by unfold maxLen;simp,Or.inr ⟨_,_,rfl,fun i hi=>?_⟩⟩
 obtain rfl:i=0:=by simpa using hi
 exact ⟨ak rfl,ak rfl,hk,hc⟩
theorem Am {o:Obj} (hk:cP k) (hc:cP c):dp ((w.alloc o).alloc (.cells #[int i64 k,int i64 c] t)) (some ⟨w.heap.size+1,0,none⟩) [⟨k,c⟩]:=by
 have:=JD (w:=w.alloc o) (t:=t) hk hc
 rwa [World.size_alloc] at this
end
theorem qR (k x:Int) (n:Nat) (w:World) (hk:cP k) (hx:cP x) :
  Calls Tryz.prog 80 #[.agg #[int i64 k,int i64 x],int i64 n] w fun e w'=>e=.returned (.bool (ng n ⟨k,x⟩))/\Bl w w':=by
 by_cases h:k=0/\x=0
 ·obtain ⟨rfl,rfl⟩:=h
  go_enter Tryz.func80,Tryz.ntmps80
  go_wp2
  go_ret
  exact ⟨rfl,(Bl.refl _).alloc _⟩
 ·have hb:ng n ⟨k,x⟩=fu n ⟨k,x⟩:=by unfold ng;rw [decide_eq_false h];simp
  rw [hb]
  by_cases h0:k=0
  ·subst h0
   have VU:(x==0)=false:=by simp;omega
   have Bw:x≠0:=by omega
   go_enter Tryz.func80,Tryz.ntmps80
   go_wp2_with (go_at_call 79;refine (fA (some ⟨w.heap.size+1,0,none⟩) n 1 [⟨0,x⟩] _ (Am hk hx)).mono ?_;rintro e w1 ⟨rfl,iL⟩)
   go_ret
   exact ⟨aj (by simp),(((Bl.refl _).alloc _).alloc _).trans iL⟩
  ·have zB:(k==0)=false:=by simp;omega
   go_enter Tryz.func80,Tryz.ntmps80
   go_wp2_with (go_at_call 79;refine (fA (some ⟨w.heap.size+1,0,none⟩) n 1 [⟨k,x⟩] _ (Am hk hx)).mono ?_;rintro e w1 ⟨rfl,iL⟩)
   go_ret
   exact ⟨aj (by simp),(((Bl.refl _).alloc _).alloc _).trans iL⟩
theorem lJ (h:Hd) (n nc:Nat) (w:World) :
  Calls Tryz.prog 138 #[.agg #[int i64 h.fr,int i64 h.til,int i64 h.pc,int i64 h.cls],int i64 n,int i64 nc] w fun e w'=>e=.returned (.bool (mX nc n h))/\Bl w w':=by
 obtain ⟨fr,til,pc,cls⟩:=h
 by_cases t1:0<=fr/\fr<til
 ·have d1:decide (0<=fr/\fr<til)=true:=decide_eq_true t1
  by_cases t2:til<=n
  ·by_cases t3:0<=pc/\pc<n
   ·have d3:decide (0<=pc/\pc<(n:Int))=true:=decide_eq_true t3
    have hb:mX nc n ⟨fr,til,pc,cls⟩=decide (0<=cls/\cls<(nc:Int)):=by
     unfold mX;rw [Bool.eq_iff_iff,decide_eq_true_eq,decide_eq_true_eq];dsimp only;omega
    rw [hb]
    clear hb
    go_enter Tryz.func138,Tryz.ntmps138
    go_wp2_with (go_at_call 97;refine (bg _ _ _).mono ?_;rintro e w1 ⟨he,rfl⟩;(first|rw [d1] at he|rw [d3] at he|skip);subst he)
    go_ret
    exact ⟨aj (by simp),(Bl.refl _).alloc _⟩
   ·have d3:decide (0<=pc/\pc<(n:Int))=false:=decide_eq_false t3
    have hb:mX nc n ⟨fr,til,pc,cls⟩=false:=by
     unfold mX;rw [decide_eq_false_iff_not];dsimp only;omega
    rw [hb]
    clear hb
    go_enter Tryz.func138,Tryz.ntmps138
    go_wp2_with (go_at_call 97;refine (bg _ _ _).mono ?_;rintro e w1 ⟨he,rfl⟩;(first|rw [d1] at he|rw [d3] at he|skip);subst he)
    go_ret
    exact ⟨rfl,(Bl.refl _).alloc _⟩
  ·have hb:mX nc n ⟨fr,til,pc,cls⟩=false:=by
    unfold mX;rw [decide_eq_false_iff_not];dsimp only;omega
   rw [hb]
   clear hb
   go_enter Tryz.func138,Tryz.ntmps138
   go_wp2_with (go_at_call 97;refine (bg _ _ _).mono ?_;rintro e w1 ⟨he,rfl⟩;(first|rw [d1] at he|skip);subst he)
   go_ret
   exact ⟨rfl,(Bl.refl _).alloc _⟩
 ·have d1:decide (0<=fr/\fr<til)=false:=decide_eq_false t1
  have hb:mX nc n ⟨fr,til,pc,cls⟩=false:=by
   unfold mX;rw [decide_eq_false_iff_not];dsimp only;omega
  rw [hb]
  clear hb
  go_enter Tryz.func138,Tryz.ntmps138
  go_wp2_with (go_at_call 97;refine (bg _ _ _).mono ?_;rintro e w1 ⟨he,rfl⟩;(first|rw [d1] at he|skip);subst he)
  go_ret
  exact ⟨rfl,(Bl.refl _).alloc _⟩
def lK (nc:Nat) (m:Me):Bool:=decide (m.hands.length<=8)&&m.hands.all (mX nc m.code.length)
def Cy (nc:Nat) (m:Me):Bool:=decide (m.params.length<=4)&&(m.params.all (fu nc)&&(ng nc m.ret&&lK nc m))
def sM (m:Me):Bool:=decide (m.regs=0)&&(decide (0<=m.stack/\m.stack<=30)&&decide ((bZ m.params:Int)<=m.locs/\m.locs<=60))
def wZ (cs:List Cl) (nm:Nat) (m:Me):Bool:=decide (1<=(m.code.length:Int)/\(m.code.length:Int)<=400)&&m.code.all (bE cs nm m.code.length m.locs)
theorem Cz (cs:List Cl) (nm:Nat) (m:Me):fw cs nm m=(Cy cs.length m&&(sM m&&wZ cs nm m)):=by
 rw [Bool.eq_iff_iff]
 simp only [fw,ew,Cy,sM,wZ,lK,Bool.and_eq_true,decide_eq_true_eq]
 constructor
 ·rintro ⟨⟨⟨⟨⟨⟨a,b,c,d⟩,e⟩,f⟩,g⟩,h,i,j,k,l⟩,o⟩
  exact ⟨⟨a,e,g,b,f⟩,⟨h,⟨i,j⟩,k,l⟩,⟨by omega,d⟩,o⟩
 ·rintro ⟨⟨a,e,g,b,f⟩,⟨h,⟨i,j⟩,k,l⟩,⟨c,d⟩,o⟩
  exact ⟨⟨⟨⟨⟨⟨a,b,by omega,d⟩,e⟩,f⟩,g⟩,h,i,j,k,l⟩,o⟩
theorem px (m:Me) (P C K:Option Addr) (p c k nc:Nat) (w:World) (hK:kQ w K m.hands) :
  Calls Tryz.prog 81 #[iW m P C K p c k,int i64 nc] w fun e w'=>e=.returned (.bool (lK nc m))/\Bl w w':=by
 obtain ⟨Nz,hK⟩:=hK
 unfold maxLen at Nz
 by_cases h8:m.hands.length<=8
 ·have hb:lK nc m=m.hands.all (mX nc m.code.length):=by unfold lK;rw [decide_eq_true h8];rfl
  rw [hb]
  clear hb
  have HG:Hid ((∀q,q<m.hands.length->mX nc m.code.length (nth eD m.hands q)=true)->m.hands.all (mX nc m.code.length)=true):=jY
  have HB:Hid (∀q,q<m.hands.length->mX nc m.code.length (nth eD m.hands q)=false->m.hands.all (mX nc m.code.length)=false):=fun q=>lS
  obtain ⟨R,hR⟩:∃R,m.hands.all (mX nc m.code.length)=R:=⟨_,rfl⟩
  rw [hR] at HG HB ⊢
  clear hR
  go_enter Tryz.func81,Tryz.ntmps81
  go_wp2
  go_loopw [14] (fun i wr=>∃q:Nat,q<=m.hands.length/\i=int i64 q/\Hid (∀j,j<q->mX nc m.code.length (nth eD m.hands j)=true)/\Hid (Bl w wr)/\wr.cell? ⟨w.heap.size,6,none⟩=some (.slice C m.code.length c)) (fun i _=>m.hands.length-(intOf i).toNat)
  case atStart=>exact ⟨0,Nat.zero_le _,rfl,fun j hj=>absurd hj (Nat.not_lt_zero _),(Bl.refl _).alloc _,ak rfl⟩
  case round =>
   obtain ⟨q,hq,rfl,mG,hg,h6⟩:=hrel
   by_cases eR:q<m.hands.length
   ·rcases hK with h0|⟨b,off,rfl,hcell⟩
    ·omega
    obtain ⟨g0,g1,g2,g3,-⟩:=hcell q eR
    replace g0:=hg.out.cell g0
    replace g1:=hg.out.cell g1
    replace g2:=hg.out.cell g2
    replace g3:=hg.out.cell g3
    have q6:∀o,(wr.alloc o).cell? ⟨w.heap.size,6,none⟩=some (.slice C m.code.length c):=fun o=>((Bl.refl wr).alloc o).cell h6
    clear hcell HG
    cases hT:mX nc m.code.length (nth eD m.hands q)
    ·have HF:=HB.out q eR hT
     clear HB
     go_wp2_with (go_at_call 138;refine (lJ (nth eD m.hands q) _ _ _).mono ?_;rintro e w1 ⟨he,iL⟩;rw [hT] at he;subst he)
     go_ret
     exact ⟨aj HF.symm,(hg.out.alloc _).trans iL⟩
    ·have vm:Hid (mX nc m.code.length (nth eD m.hands q)=true):=hT
     clear HB
     go_wp2_with (go_at_call 138;refine (lJ (nth eD m.hands q) _ _ _).mono ?_;rintro e w1 ⟨he,iL⟩;rw [hT] at he;subst he)
     go_roundw
     case rel=>exact ⟨q+1,by omega,by go_num,fun j hj=>if h:j<q then mG.out j h else by have:j=q:=(by omega);subst this;exact vm.out,(hg.out.alloc _).trans iL,iL.cell (q6 _)⟩
     case measure=>simp [intOf];omega
   ·have hkk:q=m.hands.length:=by omega
    subst hkk
    have HF:=HG.out mG.out
    clear HG hK
    go_wp2
    go_ret
    exact ⟨aj HF.symm,hg.out⟩
 ·have hb:lK nc m=false:=by unfold lK;rw [decide_eq_false h8];rfl
  rw [hb]
  clear hb
  go_enter Tryz.func81,Tryz.ntmps81
  go_wp2
  go_ret
  exact ⟨rfl,(Bl.refl _).alloc _⟩
def eB (w:World) (b:Nat) (m:Me) (P C K:Option Addr) (p c k:Nat):Prop :=
 w.cell? ⟨b,0,none⟩=some (.slice P m.params.length p)/\w.cell? ⟨b,1,none⟩=some (int i64 m.ret.kind)/\w.cell? ⟨b,2,none⟩=some (int i64 m.ret.cls)
  /\ w.cell? ⟨b,3,none⟩=some (int i64 m.stack)/\w.cell? ⟨b,4,none⟩=some (int i64 m.locs)/\w.cell? ⟨b,5,none⟩=some (int i64 m.regs)
  /\ w.cell? ⟨b,6,none⟩=some (.slice C m.code.length c)/\w.cell? ⟨b,7,none⟩=some (.slice K m.hands.length k)
theorem eB.bl {w w':World} (h:Bl w w') {b:Nat} {m:Me} {P C K:Option Addr} {p c k:Nat} (hb:eB w b m P C K p c k):eB w' b m P C K p c k :=
 ⟨h.cell hb.1,h.cell hb.2.1,h.cell hb.2.2.1,h.cell hb.2.2.2.1,h.cell hb.2.2.2.2.1,h.cell hb.2.2.2.2.2.1,h.cell hb.2.2.2.2.2.2.1,h.cell hb.2.2.2.2.2.2.2⟩
abbrev n7 (m:Me) (P C K:Option Addr) (p c k:Nat):Obj:=.cells #[.slice P m.params.length p,int i64 m.ret.kind,int i64 m.ret.cls,int i64 m.stack,int i64 m.locs,int i64 m.regs,.slice C m.code.length c,.slice K m.hands.length k] 49
theorem eB.new (w:World) (m:Me) (P C K:Option Addr) (p c k:Nat):eB (w.alloc (n7 m P C K p c k)) w.heap.size m P C K p c k :=
 ⟨ak rfl,ak rfl,ak rfl,ak rfl,ak rfl,ak rfl,ak rfl,ak rfl⟩
theorem jR (m:Me) (P C K:Option Addr) (p c k nc:Nat) (w:World) (hm:kZ w m P C K) :
  Calls Tryz.prog 36 #[iW m P C K p c k,int i64 nc] w fun e w'=>e=.returned (.bool (Cy nc m))/\Bl w w':=by
 have HM:Hid (kZ w m P C K):=hm
 have Ia:=hm.1.1
 have hr:=hm.2.2.2
 unfold maxLen at Ia
 clear hm
 have hal:Bl w (w.alloc (n7 m P C K p c k)):=(Bl.refl _).alloc _
 have CB:=eB.new w m P C K p c k
 by_cases h4:m.params.length<=4
 ·cases hp:m.params.all (fu nc)
  ·have hb:Cy nc m=false:=by unfold Cy;rw [hp,Bool.false_and,Bool.and_false]
   rw [hb]
   clear hb
   have cE:Hid (Bl w (w.alloc (n7 m P C K p c k))):=hal
   clear hal CB
   go_enter Tryz.func36,Tryz.ntmps36
   go_wp2_with (go_at_call 79;refine (fA _ _ _ _ _ (HM.out.1.bl cE.out)).mono ?_;rintro e w1 ⟨he,iL⟩;rw [hp] at he;subst he)
   go_ret
   exact ⟨rfl,cE.out.trans iL⟩
  ·cases hq:ng nc ⟨m.ret.kind,m.ret.cls⟩
   ·have hb:Cy nc m=false:=by unfold Cy;rw [show ng nc m.ret=false from hq,Bool.false_and,Bool.and_false,Bool.and_false]
    rw [hb]
    clear hb
    have cE:Hid (Bl w (w.alloc (n7 m P C K p c k))):=hal
    have JE:Hid (eB (w.alloc (n7 m P C K p c k)) w.heap.size m P C K p c k):=CB
    clear hal CB
    go_enter Tryz.func36,Tryz.ntmps36
    go_wp2_with (first
     | (go_at_call 79;refine (fA _ _ _ _ _ (HM.out.1.bl cE.out)).mono ?_;rintro e w1 ⟨he,iL⟩;rw [hp] at he;subst he;obtain ⟨-,b1,b2,-⟩:=JE.out.bl iL)
     | (go_at_call 80;refine (qR _ _ _ _ hr.1 hr.2.1).mono ?_;rintro e w2 ⟨he,gE⟩;rw [hq] at he;subst he))
    go_ret
    exact ⟨rfl,(cE.out.trans iL).trans gE⟩
   ·have hb:Cy nc m=lK nc m:=by unfold Cy;rw [decide_eq_true h4,hp,show ng nc m.ret=true from hq];rfl
    rw [hb]
    clear hb
    have cE:Hid (Bl w (w.alloc (n7 m P C K p c k))):=hal
    have JE:Hid (eB (w.alloc (n7 m P C K p c k)) w.heap.size m P C K p c k):=CB
    clear hal CB
    go_enter Tryz.func36,Tryz.ntmps36
    go_wp2_with (first
     | (go_at_call 79;refine (fA _ _ _ _ _ (HM.out.1.bl cE.out)).mono ?_;rintro e w1 ⟨he,iL⟩;rw [hp] at he;subst he;obtain ⟨-,b1,b2,-⟩:=JE.out.bl iL)
     | (go_at_call 80;refine (qR _ _ _ _ hr.1 hr.2.1).mono ?_;rintro e w2 ⟨he,gE⟩;rw [hq] at he;subst he;obtain ⟨e0,e1,e2,e3,e4,e5,e6,e7⟩:=JE.out.bl (iL.trans gE))
     | (go_at_call 81;refine (px m _ _ _ _ _ _ _ _ (HM.out.2.2.1.bl ((cE.out.trans iL).trans gE))).mono ?_;rintro e w3 ⟨he,vq⟩;subst he))
    go_ret
    exact ⟨rfl,((cE.out.trans iL).trans gE).trans vq⟩
 ·have hb:Cy nc m=false:=by unfold Cy;rw [decide_eq_false h4];rfl
  rw [hb]
  clear hb CB
  go_enter Tryz.func36,Tryz.ntmps36
  go_wp2
  go_ret
  exact ⟨rfl,hal⟩
end Go.Proofs.YtgiiapenmjollaaGreat
