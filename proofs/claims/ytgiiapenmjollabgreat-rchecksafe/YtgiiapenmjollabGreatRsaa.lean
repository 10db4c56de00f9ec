import Derived.Test.YtgiiapenmjollabGreatRows
import Derived.ProofKit
import Derived.Carry
import Derived.WalkKit
import Derived.RowKit3
import Derived.Deep.Slices
import Derived.Below
import Derived.Test.YtgiiapenmjollabGreatChecked
import Derived.Handy
import Derived.WalkLawsBesides
namespace Go.Proofs.YtgiiapenmjollabGreat
set_option linter.all false
set_option maxHeartbeats 40000000
set_option maxRecDepth 100000
open Go.RowKit
section
open Go.ChangeShapes Go.WideShapes Go.ChangeAt Go.RowKit
theorem rs_hfn:Tryz.pinned.checked.prog.funcNamed Rows.rcheckSafeRow.func=some 5:=by kernel_rfl
theorem rs_closed:joinedFacts Tryz.pinned.checked.prog 5 Tryz.f5 Rows.rcheckSafeSpec Rows.rcheckSafeRow=true:=by kernel_rfl
end
structure Ty where
 kind:Int
 cls:Int
structure Cl where
 super:Int
 fields:List Ty
structure In where
 op:Int
 a:Int
 b:Int
 c:Int
 n:Int
 args:List Int
structure Hd where
 fr:Int
 til:Int
 pc:Int
 cls:Int
structure Me where
 params:List Ty
 ret:Ty
 stack:Int
 locs:Int
 regs:Int
 code:List In
 hands:List Hd
structure Fi where
 classes:List Cl
 methods:List Me
def ty0:Ty:=⟨0,0⟩
def cl0:Cl:=⟨0,[]⟩
def in0:In:=⟨0,0,0,0,0,[]⟩
def hd0:Hd:=⟨0,0,0,0⟩
def me0:Me:=⟨[],ty0,0,0,0,[],[]⟩
def nth {α:Type} (d:α) (l:List α) (i:Nat):α:=l.getD i d
theorem nth_mem {α:Type} {d:α} {l:List α} {i:Nat} (h:i<l.length):nth d l i∈l:=by simp [nth,List.getD,h]
theorem nth_get {α:Type} {d:α} {l:List α} {i:Nat} (h:i<l.length):nth d l i=l[i]:=by simp [nth,List.getD,h]
def I64 (n:Int):Prop:=-9223372036854775808≤n∧n≤9223372036854775807
def TysAt (w:World) (A:Option Addr) (l:List Ty):Prop :=
 l.length≤maxLen∧(l.length=0∨∃b off,A=some ⟨b,off,none⟩∧∀i,i<l.length →
  w.cell? ⟨b,off+i*2,none⟩=some (.int .i64 (nth ty0 l i).kind)∧w.cell? ⟨b,off+i*2+1,none⟩=some (.int .i64 (nth ty0 l i).cls)
  ∧ I64 (nth ty0 l i).kind∧I64 (nth ty0 l i).cls)
def ClsAt (w:World) (A:Option Addr) (l:List Cl):Prop :=
 l.length≤maxLen∧(l.length=0∨∃b off,A=some ⟨b,off,none⟩∧∀i,i<l.length →
  w.cell? ⟨b,off+i*2,none⟩=some (.int .i64 (nth cl0 l i).super)∧I64 (nth cl0 l i).super ∧
  ∃A' c,w.cell? ⟨b,off+i*2+1,none⟩=some (.slice A' (nth cl0 l i).fields.length c)∧TysAt w A' (nth cl0 l i).fields)
def IntsAt (w:World) (A:Option Addr) (l:List Int):Prop :=
 l.length≤maxLen∧(l.length=0∨∃b off,A=some ⟨b,off,none⟩∧∀i,i<l.length→w.cell? ⟨b,off+i,none⟩=some (.int .i64 (nth (0:Int) l i))∧I64 (nth (0:Int) l i))
def In.ok (x:In):Prop:=I64 x.op∧I64 x.a∧I64 x.b∧I64 x.c∧I64 x.n
def InsAt (w:World) (A:Option Addr) (l:List In):Prop :=
 l.length≤maxLen∧(l.length=0∨∃b off,A=some ⟨b,off,none⟩∧∀i,i<l.length →
  w.cell? ⟨b,off+i*6,none⟩=some (.int .i64 (nth in0 l i).op)∧w.cell? ⟨b,off+i*6+1,none⟩=some (.int .i64 (nth in0 l i).a)∧w.cell? ⟨b,off+i*6+2,none⟩=some (.int .i64 (nth in0 l i).b)
  ∧ w.cell? ⟨b,off+i*6+3,none⟩=some (.int .i64 (nth in0 l i).c)∧w.cell? ⟨b,off+i*6+4,none⟩=some (.int .i64 (nth in0 l i).n)∧(nth in0 l i).ok
  ∧ ∃A' c,w.cell? ⟨b,off+i*6+5,none⟩=some (.slice A' (nth in0 l i).args.length c)∧IntsAt w A' (nth in0 l i).args)
def Hd.ok (x:Hd):Prop:=I64 x.fr∧I64 x.til∧I64 x.pc∧I64 x.cls
def HdsAt (w:World) (A:Option Addr) (l:List Hd):Prop :=
 l.length≤maxLen∧(l.length=0∨∃b off,A=some ⟨b,off,none⟩∧∀i,i<l.length →
  w.cell? ⟨b,off+i*4,none⟩=some (.int .i64 (nth hd0 l i).fr)∧w.cell? ⟨b,off+i*4+1,none⟩=some (.int .i64 (nth hd0 l i).til)∧w.cell? ⟨b,off+i*4+2,none⟩=some (.int .i64 (nth hd0 l i).pc)
  ∧ w.cell? ⟨b,off+i*4+3,none⟩=some (.int .i64 (nth hd0 l i).cls)∧(nth hd0 l i).ok)
def Me.ok (x:Me):Prop:=I64 x.ret.kind∧I64 x.ret.cls∧I64 x.stack∧I64 x.locs∧I64 x.regs
def MeAt (w:World) (m:Me) (P C K:Option Addr):Prop:=TysAt w P m.params∧InsAt w C m.code∧HdsAt w K m.hands∧m.ok
def MesAt (w:World) (A:Option Addr) (l:List Me):Prop :=
 l.length≤maxLen∧(l.length=0∨∃b off,A=some ⟨b,off,none⟩∧∀i,i<l.length→∃P C K p c k,
  w.cell? ⟨b,off+i*8,none⟩=some (.slice P (nth me0 l i).params.length p)∧w.cell? ⟨b,off+i*8+1,none⟩=some (.int .i64 (nth me0 l i).ret.kind)∧w.cell? ⟨b,off+i*8+2,none⟩=some (.int .i64 (nth me0 l i).ret.cls)
  ∧ w.cell? ⟨b,off+i*8+3,none⟩=some (.int .i64 (nth me0 l i).stack)∧w.cell? ⟨b,off+i*8+4,none⟩=some (.int .i64 (nth me0 l i).locs)∧w.cell? ⟨b,off+i*8+5,none⟩=some (.int .i64 (nth me0 l i).regs)
  ∧ w.cell? ⟨b,off+i*8+6,none⟩=some (.slice C (nth me0 l i).code.length c)∧w.cell? ⟨b,off+i*8+7,none⟩=some (.slice K (nth me0 l i).hands.length k)∧MeAt w (nth me0 l i) P C K)
def Bl (w w':World):Prop:=Below w.heap.size w w'
theorem Bl.refl (w:World):Bl w w:=Below.refl _ _
theorem Bl.trans {a b c:World} (h:Bl a b) (k:Bl b c):Bl a c:=Below.trans h (Below.mono k h.size)
theorem Bl.alloc {a w:World} (h:Bl a w) (o:Obj):Bl a (w.alloc o):=Below.alloc h h.size o
theorem Bl.drew {a w:World} (h:Bl a w):Bl a w.drew:=Below.drew h
theorem Bl.setCell {a w:World} (h:Bl a w) {p:Addr} (hp:a.heap.size≤p.block) (u:Value):Bl a (w.setCell p u):=Below.setCell h hp u
theorem Bl.size {a w:World} (h:Bl a w):a.heap.size≤w.heap.size:=Below.size h
theorem cell_lt {w:World} {b o:Nat} {v:Value} (hc:w.cell? ⟨b,o,none⟩=some v):b<w.heap.size:=by
 by_cases hb:b<w.heap.size
 ·exact hb
 ·simp [World.cell?,hb] at hc
theorem cell_of_new {w:World} {cs:Array Value} {t:TypeId} {o:Nat} {v:Value} (h:cs[o]?=some v):(w.alloc (.cells cs t)).cell? ⟨w.heap.size,o,none⟩=some v:=by
 have e:(w.alloc (.cells cs t)).heap[w.heap.size]?=some (.cells cs t):=by
  show (w.heap.push _)[w.heap.size]?=_
  simp
 unfold World.cell?
 rw [e]
 simpa using h
theorem Bl.cell {W w':World} (h:Bl W w') {b o:Nat} {v:Value} (hc:W.cell? ⟨b,o,none⟩=some v):w'.cell? ⟨b,o,none⟩=some v :=
 (Below.cell h (p:=⟨b,o,none⟩) (cell_lt hc)).trans hc
theorem IntsAt.bl {W w':World} (h:Bl W w') {A:Option Addr} {l:List Int} (hl:IntsAt W A l):IntsAt w' A l:=by
 refine ⟨hl.1,?_⟩
 rcases hl.2 with h0|⟨b,off,rfl,hi⟩
 ·exact Or.inl h0
 right
 exact ⟨b,off,rfl,fun i hlt=>⟨h.cell (hi i hlt).1,(hi i hlt).2⟩⟩
theorem InsAt.bl {W w':World} (h:Bl W w') {A:Option Addr} {l:List In} (hl:InsAt W A l):InsAt w' A l:=by
 refine ⟨hl.1,?_⟩
 rcases hl.2 with h0|⟨b,off,rfl,hi⟩
 ·exact Or.inl h0
 right
 refine ⟨b,off,rfl,fun i hlt=>?_⟩
 obtain ⟨h0,h1,h2,h3,h4,h5,A',c,h6,h7⟩:=hi i hlt
 exact ⟨h.cell h0,h.cell h1,h.cell h2,h.cell h3,h.cell h4,h5,A',c,h.cell h6,h7.bl h⟩
theorem HdsAt.bl {W w':World} (h:Bl W w') {A:Option Addr} {l:List Hd} (hl:HdsAt W A l):HdsAt w' A l:=by
 refine ⟨hl.1,?_⟩
 rcases hl.2 with h0|⟨b,off,rfl,hi⟩
 ·exact Or.inl h0
 right
 refine ⟨b,off,rfl,fun i hlt=>?_⟩
 obtain ⟨h0,h1,h2,h3,h4⟩:=hi i hlt
 exact ⟨h.cell h0,h.cell h1,h.cell h2,h.cell h3,h4⟩
theorem TysAt.bl {W w':World} (h:Bl W w') {A:Option Addr} {l:List Ty} (hl:TysAt W A l):TysAt w' A l:=by
 refine ⟨hl.1,?_⟩
 rcases hl.2 with h0|⟨b,off,rfl,hi⟩
 ·exact Or.inl h0
 right
 exact ⟨b,off,rfl,fun i hlt=>⟨h.cell (hi i hlt).1,h.cell (hi i hlt).2.1,(hi i hlt).2.2⟩⟩
theorem ClsAt.bl {W w':World} (h:Bl W w') {A:Option Addr} {l:List Cl} (hl:ClsAt W A l):ClsAt w' A l:=by
 refine ⟨hl.1,?_⟩
 rcases hl.2 with h0|⟨b,off,rfl,hi⟩
 ·exact Or.inl h0
 right
 refine ⟨b,off,rfl,fun i hlt=>⟨h.cell (hi i hlt).1,(hi i hlt).2.1,?_⟩⟩
 obtain ⟨A',c,h1,h2⟩:=(hi i hlt).2.2
 exact ⟨A',c,h.cell h1,h2.bl h⟩
theorem MeAt.bl {W w':World} (h:Bl W w') {m:Me} {P C K:Option Addr} (hl:MeAt W m P C K):MeAt w' m P C K :=
 ⟨hl.1.bl h,hl.2.1.bl h,hl.2.2.1.bl h,hl.2.2.2⟩
theorem MesAt.bl {W w':World} (h:Bl W w') {A:Option Addr} {l:List Me} (hl:MesAt W A l):MesAt w' A l:=by
 refine ⟨hl.1,?_⟩
 rcases hl.2 with h0|⟨b,off,rfl,hi⟩
 ·exact Or.inl h0
 right
 refine ⟨b,off,rfl,fun i hlt=>?_⟩
 obtain ⟨P,C,K,p,c,k,h0,h1,h2,h3,h4,h5,h6,h7,h8⟩:=hi i hlt
 exact ⟨P,C,K,p,c,k,h.cell h0,h.cell h1,h.cell h2,h.cell h3,h.cell h4,h.cell h5,h.cell h6,h.cell h7,h8.bl h⟩
def tyB (n:Nat) (t:Ty):Bool:=decide ((t.kind=3∧0≤t.cls∧t.cls<n)∨((t.kind=1∨t.kind=2)∧t.cls=0))
def clB (l:List Cl) (i:Nat):Bool :=
 decide ((i=0∨(0≤(nth cl0 l i).super∧(nth cl0 l i).super<i))∧(nth cl0 l i).fields.length≤6)&&(nth cl0 l i).fields.all (tyB l.length)
def mayB (l:List Cl):Bool:=decide (4≤l.length∧l.length≤12∧(nth cl0 l 0).super=-1)&&(List.range l.length).all (clB l)
theorem may_few {l:List Cl} (h:l.length<4∨12<l.length∨(nth cl0 l 0).super≠-1):mayB l=false:=by
 have:¬(4≤l.length∧l.length≤12∧(nth cl0 l 0).super=-1):=by omega
 unfold mayB;rw [decide_eq_false this];rfl
theorem may_cl {l:List Cl} {i:Nat} (hi:i<l.length) (h:clB l i=false):mayB l=false:=by
 have:(List.range l.length).all (clB l)=false:=by
  rw [List.all_eq_false];exact ⟨i,by simpa using hi,by simp [h]⟩
 simp [mayB,this]
theorem cl_bad {l:List Cl} {i:Nat} (h:¬((i=0∨(0≤(nth cl0 l i).super∧(nth cl0 l i).super<i))∧(nth cl0 l i).fields.length≤6)):clB l i=false:=by
 unfold clB;rw [decide_eq_false h];rfl
theorem cl_ty {l:List Cl} {i k:Nat} (hk:k<(nth cl0 l i).fields.length) (h:tyB l.length (nth ty0 (nth cl0 l i).fields k)=false):clB l i=false:=by
 have:(nth cl0 l i).fields.all (tyB l.length)=false:=by
  rw [List.all_eq_false]
  exact ⟨nth ty0 (nth cl0 l i).fields k,nth_mem hk,by rw [h];decide⟩
 unfold clB;rw [this,Bool.and_false]
theorem cl_good {l:List Cl} {i:Nat} (h:(i=0∨(0≤(nth cl0 l i).super∧(nth cl0 l i).super<i))∧(nth cl0 l i).fields.length≤6)
  (ht:∀k,k<(nth cl0 l i).fields.length→tyB l.length (nth ty0 (nth cl0 l i).fields k)=true):clB l i=true:=by
 have:(nth cl0 l i).fields.all (tyB l.length)=true:=by
  generalize (nth cl0 l i).fields=f at ht
  rw [List.all_eq_true]
  intro x hx
  obtain ⟨k,hk,rfl⟩:=List.getElem_of_mem hx
  rw [←nth_get hk];exact ht k hk
 unfold clB;rw [this,decide_eq_true h];rfl
theorem may_good {l:List Cl} (h:4≤l.length∧l.length≤12∧(nth cl0 l 0).super=-1) (hc:∀i,i<l.length→clB l i=true):mayB l=true:=by
 have:(List.range l.length).all (clB l)=true:=by
  rw [List.all_eq_true];intro i hi;exact hc i (by simpa using hi)
 unfold mayB;rw [this,decide_eq_true h];rfl
theorem ret_int {x y:Int} (h:x=y):Ending.returned (.int .i64 x)=.returned (.int .i64 y):=by rw [h]
theorem ret_bool {x y:Bool} (h:x=y):Ending.returned (.bool x)=.returned (.bool y):=by rw [h]
theorem rtype_any (A:Option Addr) (n c:Nat) (k x:Int) (w:World) :
  Calls Tryz.prog 77 #[.slice A n c,.agg #[.int .i64 k,.int .i64 x]] w fun e w'=>e=.returned (.bool (tyB n ⟨k,x⟩))∧Bl w w':=by
 by_cases h3:k=3
 ·subst h3
  go_enter Tryz.func77,Tryz.ntmps77
  go_wp2
  all_goals
   go_ret
   refine ⟨ret_bool ?_,(Bl.refl _).alloc _⟩
   unfold tyB
   rw [Bool.eq_iff_iff];simp;omega
 ·go_enter Tryz.func77,Tryz.ntmps77
  go_wp2
  all_goals
   go_ret
   refine ⟨ret_bool ?_,(Bl.refl _).alloc _⟩
   unfold tyB
   rw [Bool.eq_iff_iff];simp;omega
theorem rmay_any (A:Option Addr) (c:Nat) (l:List Cl) (w:World) (hl:ClsAt w A l) :
  Calls Tryz.prog 35 #[.slice A l.length c] w fun e w'=>e=.returned (.bool (mayB l))∧Bl w w':=by
 obtain ⟨hm,hl⟩:=hl
 unfold maxLen at hm
 by_cases h4:l.length<4
 ·have hb:=may_few (Or.inl h4)
  rw [hb]
  clear hb hl
  go_enter Tryz.func35,Tryz.ntmps35
  go_wp2
  go_ret
  exact ⟨rfl,Bl.refl _⟩
 by_cases h12:12<l.length
 ·have hb:=may_few (Or.inr (Or.inl h12))
  rw [hb]
  clear hb hl
  go_enter Tryz.func35,Tryz.ntmps35
  go_wp2
  go_ret
  exact ⟨rfl,Bl.refl _⟩
 rcases hl with hl|⟨b,off,rfl,hc⟩
 ·omega
 have hs0:=(hc 0 (by omega)).1
 rw [Nat.zero_mul,Nat.add_zero] at hs0
 by_cases h0:(nth cl0 l 0).super=-1
 ·rw [h0] at hs0
  have HB:Hid ((∀i,i<l.length→clB l i=true)→mayB l=true):=fun h=>may_good ⟨by omega,by omega,h0⟩ h
  go_enter Tryz.func35,Tryz.ntmps35
  go_wp2
  go_loopw [4] (fun i wr=>∃k:Nat,k≤l.length∧i=.int .i64 k∧Hid (∀j,j<k→clB l j=true)∧Hid (Bl w wr)) (fun i _=>l.length-(intOf i).toNat)
  case atStart=>exact ⟨0,Nat.zero_le _,rfl,fun j hj=>absurd hj (Nat.not_lt_zero _),Bl.refl _⟩
  case round =>
   obtain ⟨k,hk,rfl,hgood,hg⟩:=hrel
   clear hs0 h0
   by_cases hlt:k<l.length
   ·obtain ⟨hsup,hsb,A',c',hfl,hty⟩:=hc k hlt
    replace hsup:=Bl.cell hg.out hsup
    replace hfl:=Bl.cell hg.out hfl
    replace hty:=TysAt.bl hg.out hty
    have HBAD:Hid (¬((k=0∨(0≤(nth cl0 l k).super∧(nth cl0 l k).super<k))∧(nth cl0 l k).fields.length≤6)→mayB l=false):=fun h=>may_cl hlt (cl_bad h)
    have HTY:Hid (∀q,q<(nth cl0 l k).fields.length→tyB l.length (nth ty0 (nth cl0 l k).fields q)=false→mayB l=false):=fun q hq h=>may_cl hlt (cl_ty hq h)
    have HOK:Hid (((k=0∨(0≤(nth cl0 l k).super∧(nth cl0 l k).super<k))∧(nth cl0 l k).fields.length≤6)→(∀q,q<(nth cl0 l k).fields.length→tyB l.length (nth ty0 (nth cl0 l k).fields q)=true)→clB l k=true):=cl_good
    clear hc HB
    obtain ⟨hfm,hty⟩:=hty
    unfold maxLen at hfm
    generalize hS:(nth cl0 l k).super=S at *
    generalize hF:(nth cl0 l k).fields=F at *
    clear hS hF
    go_wp2
    all_goals first
     | (go_ret;exact ⟨ret_bool (HBAD.out (by omega)).symm,hg.out⟩)
     | skip
    all_goals
     have HK:Hid ((∀q,q<F.length→tyB l.length (nth ty0 F q)=true)→clB l k=true):=HOK.out (by omega)
     go_loopw [5] (fun i wr=>∃q:Nat,q≤F.length∧i=.int .i64 q∧Hid (∀j,j<q→tyB l.length (nth ty0 F j)=true)∧Hid (Bl w wr)∧wr.cell? ⟨b,off+k*2+1,none⟩=some (.slice A' F.length c')∧Hid (TysAt wr A' F)) (fun i _=>F.length-(intOf i).toNat)
     case atStart=>exact ⟨0,Nat.zero_le _,rfl,fun j hj=>absurd hj (Nat.not_lt_zero _),hg,hfl,⟨hfm,hty⟩⟩
     case round =>
      clear hsup hfl hty hg
      obtain ⟨q,hq,rfl,hgq,hg,hfl,hty⟩:=hrel
      by_cases hql:q<F.length
      ·rcases hty.out.2 with h0|⟨b',off',rfl,hcell⟩
       ·omega
       obtain ⟨ht1,ht2,-,-⟩:=hcell q hql
       clear hcell
       cases hT:tyB l.length (nth ty0 F q)
       ·have hT':tyB l.length ⟨(nth ty0 F q).kind,(nth ty0 F q).cls⟩=false:=hT
        have HF:=HTY.out q hql hT
        clear HTY hT
        go_wp2_with (go_at_call 77;refine (rtype_any _ _ _ _ _ _).mono ?_;rintro e w1 ⟨rfl,hg1⟩)
        go_ret
        exact ⟨ret_bool HF.symm,Bl.trans hg.out hg1⟩
       ·have hT':tyB l.length ⟨(nth ty0 F q).kind,(nth ty0 F q).cls⟩=true:=hT
        have HT:Hid (tyB l.length (nth ty0 F q)=true):=hT
        clear hT
        go_wp2_with (go_at_call 77;refine (rtype_any _ _ _ _ _ _).mono ?_;rintro e w1 ⟨rfl,hg1⟩)
        go_roundw
        case rel=>exact ⟨q+1,by omega,by go_num,fun j hj=>if h:j<q then hgq.out j h else by have:j=q:=(by omega);subst this;exact HT.out,Bl.trans hg.out hg1,Bl.cell hg1 hfl,TysAt.bl hg1 hty.out⟩
        case measure=>simp [intOf];omega
      ·have hkk:q=F.length:=by omega
       subst hkk
       have HKK:Hid (clB l k=true):=HK.out hgq.out
       go_wp2
       go_roundw
       case rel=>exact ⟨k+1,by omega,by go_num,fun j hj=>if h:j<k then hgood.out j h else by have:j=k:=(by omega);subst this;exact HKK.out,hg⟩
       case measure=>simp [intOf];omega
   ·have hkk:k=l.length:=by omega
    subst hkk
    have HBB:=HB.out hgood.out
    clear HB hc
    go_wp2
    go_ret
    exact ⟨ret_bool HBB.symm,hg.out⟩
 ·have hb:=may_few (Or.inr (Or.inr h0))
  rw [hb]
  clear hb hc
  have h0':((nth cl0 l 0).super !=-1)=true:=by simpa using h0
  go_enter Tryz.func35,Tryz.ntmps35
  go_wp2
  go_ret
  exact ⟨rfl,Bl.refl _⟩
def slotsN:List Ty→Nat
 | []=>0
 | t::l=>(if t.kind=2 then 2 else 1)+slotsN l
def hdB (nc n:Nat) (h:Hd):Bool:=decide (0≤h.fr∧h.fr<h.til∧h.til≤n∧0≤h.pc∧h.pc<n∧0≤h.cls∧h.cls<nc)
def retB (nc:Nat) (t:Ty):Bool:=decide (t.kind=0∧t.cls=0)||tyB nc t
def headB (nc:Nat) (m:Me) (most:Int):Bool :=
 decide (m.params.length≤4∧m.hands.length≤8∧1≤m.code.length∧(m.code.length:Int)≤most)&&m.params.all (tyB nc)&&m.hands.all (hdB nc m.code.length)&&retB nc m.ret
theorem all_bad {α:Type} {d:α} {p:α→Bool} {l:List α} {k:Nat} (hk:k<l.length) (h:p (nth d l k)=false):l.all p=false:=by
 rw [List.all_eq_false]
 exact ⟨nth d l k,nth_mem hk,by rw [h];decide⟩
theorem all_good {α:Type} {d:α} {p:α→Bool} {l:List α} (h:∀k,k<l.length→p (nth d l k)=true):l.all p=true:=by
 rw [List.all_eq_true]
 intro x hx
 obtain ⟨k,hk,rfl⟩:=List.getElem_of_mem hx
 rw [←nth_get (d:=d) hk];exact h k hk
theorem slotsN_le (l:List Ty):slotsN l≤2*l.length:=by
 induction l with
 | nil=>simp [slotsN]
 | cons t l ih=>simp only [slotsN,List.length_cons];split<;>omega
theorem slotsN_take (l:List Ty) (k:Nat) (h:k<l.length):slotsN (l.take (k+1))=slotsN (l.take k)+(if (nth ty0 l k).kind=2 then 2 else 1):=by
 induction l generalizing k with
 | nil=>simp at h
 | cons t l ih =>
  cases k with
  | zero=>simp [slotsN,nth]
  | succ k =>
   have:=ih k (by simpa using h)
   have e:nth ty0 (t::l) (k+1)=nth ty0 l k:=by simp [nth]
   rw [e,List.take_succ_cons,List.take_succ_cons,slotsN,slotsN,this];omega
section
def par (l:List Cl) (c:Nat):Nat:=(nth cl0 l c).super.toNat
def upsF (l:List Cl):Nat→Nat→List Nat
 | 0,_=>[]
 | k+1,c=>c::if c=0 then [] else upsF l k (par l c)
def ups (l:List Cl) (c:Nat):List Nat:=upsF l (c+1) c
structure Tree (l:List Cl):Prop where
 zero:(nth cl0 l 0).super=-1
 up:∀c,0<c→c<l.length→0≤(nth cl0 l c).super∧(nth cl0 l c).super<c
theorem may_tree {l:List Cl} (h:mayB l=true):Tree l∧4≤l.length∧l.length≤12:=by
 unfold mayB at h
 rw [Bool.and_eq_true,decide_eq_true_eq,List.all_eq_true] at h
 refine ⟨⟨h.1.2.2,fun c h0 hc=>?_⟩,h.1.1,h.1.2.1⟩
 have:=h.2 c (by simpa using hc)
 unfold clB at this
 rw [Bool.and_eq_true,decide_eq_true_eq] at this
 rcases this.1.1 with h1|h1
 ·omega
 ·exact h1
section
variable {l:List Cl}
theorem par_lt (ht:Tree l) {c:Nat} (h0:0<c) (hc:c<l.length):par l c<c:=by
 have:=ht.up c h0 hc
 unfold par;omega
theorem super_par (ht:Tree l) {c:Nat} (h0:0<c) (hc:c<l.length):(nth cl0 l c).super=(par l c:Nat):=by
 have:=ht.up c h0 hc
 unfold par;omega
theorem upsF_more (ht:Tree l) (c:Nat):∀k,c<l.length→c<k→upsF l k c=upsF l (c+1) c:=by
 induction c using Nat.strongRecOn with
 | _ c ih =>
  intro k hc hk
  obtain ⟨k,rfl⟩:∃k',k=k'+1:=⟨k-1,by omega⟩
  unfold upsF
  by_cases h0:c=0
  ·rw [if_pos h0,if_pos h0]
  ·rw [if_neg h0,if_neg h0]
   have hp:=par_lt ht (by omega) hc
   rw [ih _ hp k (by omega) (by omega),ih _ hp c (by omega) (by omega)]
theorem ups_zero:ups l 0=[0]:=rfl
theorem ups_step (ht:Tree l) {c:Nat} (h0:0<c) (hc:c<l.length):ups l c=c::ups l (par l c):=by
 have hp:=par_lt ht h0 hc
 show upsF l (c+1) c=_
 rw [upsF,if_neg (by omega),upsF_more ht _ _ (by omega) hp]
 rfl
theorem ups_head (c:Nat):c∈ups l c:=by unfold ups upsF;simp
theorem ups_le (ht:Tree l) (c:Nat) (hc:c<l.length):∀x,x∈ups l c→x≤c:=by
 induction c using Nat.strongRecOn with
 | _ c ih =>
  intro x hx
  by_cases h0:c=0
  ·subst h0;rw [ups_zero] at hx;simp at hx;omega
  ·rw [ups_step ht (by omega) hc] at hx
   have hp:=par_lt ht (by omega) hc
   rcases List.mem_cons.1 hx with rfl|hx
   ·exact Nat.le_refl _
   ·have:=ih _ hp (by omega) x hx;omega
theorem ups_root (ht:Tree l) (c:Nat) (hc:c<l.length):0∈ups l c:=by
 induction c using Nat.strongRecOn with
 | _ c ih =>
  by_cases h0:c=0
  ·subst h0;exact ups_head 0
  ·rw [ups_step ht (by omega) hc]
   have hp:=par_lt ht (by omega) hc
   exact List.mem_cons_of_mem _ (ih _ hp (by omega))
theorem ups_pair (ht:Tree l) (c:Nat) (hc:c<l.length):(ups l c).Pairwise (fun x y=>y<x):=by
 induction c using Nat.strongRecOn with
 | _ c ih =>
  by_cases h0:c=0
  ·subst h0;rw [ups_zero];simp
  ·rw [ups_step ht (by omega) hc]
   have hp:=par_lt ht (by omega) hc
   refine List.Pairwise.cons (fun y hy=>?_) (ih _ hp (by omega))
   have:=ups_le ht _ (by omega) y hy;omega
theorem ups_mid (ht:Tree l) {j e:Nat} (c:Nat) (hc:c<l.length) (hj:j∈ups l c):e∈ups l j↔e∈ups l c∧e≤j:=by
 induction c using Nat.strongRecOn with
 | _ c ih =>
  by_cases h0:c=0
  ·subst h0;rw [ups_zero] at hj;simp at hj;subst hj
   rw [ups_zero];simp
  ·have hp:=par_lt ht (by omega) hc
   have hs:=ups_step ht (by omega) hc
   rw [hs] at hj
   rcases List.mem_cons.1 hj with rfl|hj
   ·exact ⟨fun h=>⟨h,ups_le ht _ hc _ h⟩,fun h=>h.1⟩
   ·have hle:=ups_le ht _ (by omega) _ hj
    rw [ih _ hp (by omega) hj,hs,List.mem_cons]
    constructor
    ·rintro ⟨h1,h2⟩;exact ⟨.inr h1,h2⟩
    ·rintro ⟨h1|h1,h2⟩
     ·omega
     ·exact ⟨h1,h2⟩
def IsJoin (l:List Cl) (c d j:Nat):Prop:=j∈ups l c∧j∈ups l d∧∀x,x∈ups l c→x∈ups l d→x≤j
theorem IsJoin.one {c d i j:Nat} (h:IsJoin l c d i) (k:IsJoin l c d j):i=j :=
 Nat.le_antisymm (k.2.2 _ h.1 h.2.1) (h.2.2 _ k.1 k.2.1)
theorem IsJoin.symm {c d i:Nat} (h:IsJoin l c d i):IsJoin l d c i:=⟨h.2.1,h.1,fun x a b=>h.2.2 x b a⟩
theorem join_cut (ht:Tree l) {c d j:Nat} (hc:c<l.length) {pre post:List Nat} (hu:ups l c=pre++j::post) (hp:∀x∈pre,x∉ups l d) (hj:j∈ups l d):IsJoin l c d j:=by
 refine ⟨by rw [hu];simp,hj,fun x hx hxd=>?_⟩
 have hpw:=ups_pair ht c hc
 rw [hu] at hx hpw
 rcases List.mem_append.1 hx with hx|hx
 ·exact absurd hxd (hp x hx)
 ·rcases List.mem_cons.1 hx with rfl|hx
  ·exact Nat.le_refl _
  ·have:=(List.pairwise_append.1 hpw).2.1
   have:=(List.pairwise_cons.1 this).1 x hx
   omega
def joinN (l:List Cl) (c d:Nat):Nat:=((ups l c).filter (fun x=>decide (x∈ups l d))).foldl max 0
theorem most {j:Nat}:∀(L:List Nat) (a:Nat),a≤j→(∀x∈L,x≤j)→(j=a∨j∈L)→L.foldl max a=j
 | [],a,_,_,h=>by
  rcases h with h|h
  ·exact h.symm
  ·cases h
 | x::L,a,ha,hL,h=>by
  have hx:=hL x (by simp)
  refine most L (max a x) (by omega) (fun y hy=>hL y (List.mem_cons_of_mem _ hy)) ?_
  rcases h with h|h
  ·left;omega
  ·rcases List.mem_cons.1 h with h|h
   ·left;omega
   ·exact Or.inr h
theorem join_is {c d j:Nat} (h:IsJoin l c d j):joinN l c d=j:=by
 refine most _ _ (Nat.zero_le _) (fun x hx=>?_) (Or.inr ?_)
 ·rw [List.mem_filter,decide_eq_true_eq] at hx
  exact h.2.2 x hx.1 hx.2
 ·rw [List.mem_filter,decide_eq_true_eq]
  exact ⟨h.1,h.2.1⟩
theorem join_there (ht:Tree l) (c d:Nat) (hc:c<l.length) (hd:d<l.length):IsJoin l c d (joinN l c d):=by
 suffices h:∃j,IsJoin l c d j by obtain ⟨j,h⟩:=h;rw [join_is h];exact h
 have key:∀(post pre:List Nat),ups l c=pre++post→(∀x∈pre,x∉ups l d)→0∈post→∃j,IsJoin l c d j:=by
  intro post
  induction post with
  | nil=>intro pre _ _ h;simp at h
  | cons x post ih =>
   intro pre hu hp h0
   by_cases hx:x∈ups l d
   ·exact ⟨x,join_cut ht hc hu hp hx⟩
   ·rcases List.mem_cons.1 h0 with rfl|h0
    ·exact absurd (ups_root ht d hd) hx
    ·refine ih (pre++[x]) (by simp [hu]) ?_ h0
     intro y hy
     rcases List.mem_append.1 hy with hy|hy
     ·exact hp y hy
     ·simp at hy;subst hy;exact hx
 exact key _ [] rfl (by simp) (ups_root ht c hc)
def belN (l:List Cl) (c d:Nat):Bool:=decide (d∈ups l c)
theorem bel_iff {c d:Nat}:belN l c d=true↔d∈ups l c:=by unfold belN;simp
theorem bel_self (c:Nat):belN l c c=true:=bel_iff.2 (ups_head c)
theorem bel_step (ht:Tree l) {c d:Nat} (hc:c<l.length) (hd:d<c):belN l c d=belN l (par l c) d:=by
 unfold belN
 rw [ups_step ht (by omega) hc]
 have:d≠c:=by omega
 simp [this]
theorem bel_low (ht:Tree l) {c d:Nat} (hc:c<l.length) (hd:c<d):belN l c d=false:=by
 unfold belN
 rw [decide_eq_false_iff_not]
 intro h;have:=ups_le ht _ hc _ h;omega
def clsI (l:List Cl) (c d:Int):Bool:=decide (0≤c∧c<l.length∧0≤d∧d<l.length)
end
end
section
open Go.RowKit (wrap32 wrap64)
theorem ret_i {k:IntKind} {a b:Int} (h:a=b):Ending.returned (.int k a)=.returned (.int k b):=by rw [h]
theorem w32_bd (a:Int):-2147483648≤wrap32 a∧wrap32 a≤2147483647:=by unfold wrap32;omega
theorem w64_bd (a:Int):-9223372036854775808≤wrap64 a∧wrap64 a≤9223372036854775807:=by unfold wrap64;omega
theorem w64_w32 (a:Int):wrap64 (wrap32 a)=wrap32 a:=by unfold wrap64 wrap32;omega
theorem w64_in {a:Int} (h:-9223372036854775808≤a) (h':a≤9223372036854775807):wrap64 a=a:=by unfold wrap64;omega
theorem w64_add (a b:Int):wrap64 (wrap64 a+wrap64 b)=wrap64 (a+b):=by unfold wrap64;omega
theorem w64_congr {a b:Int} (k:Int) (h:a=b+18446744073709551616*k):wrap64 a=wrap64 b:=by unfold wrap64;omega
theorem w64_mul (a b:Int):wrap64 (wrap64 a*b)=wrap64 (a*b):=by
 have h:wrap64 a=a+18446744073709551616*(-((a+9223372036854775808)/18446744073709551616)):=by unfold wrap64;omega
 rw [h,Int.add_mul,Int.mul_assoc]
 exact w64_congr _ rfl
theorem mul_tdiv_tmod (a b:Int):a.tdiv b*b+a.tmod b=a:=Int.tdiv_mul_add_tmod a b
theorem tmod_sign (a b:Int):a.tmod b=0∨(a.tmod b<0↔a<0):=by
 rcases Int.lt_trichotomy a 0 with h|h|h
 ·have h1:0≤(-a).tmod b:=Int.tmod_nonneg _ (by omega)
  rw [Int.neg_tmod] at h1
  omega
 ·subst h;left;simp
 ·have:0≤a.tmod b:=Int.tmod_nonneg _ (by omega)
  omega
theorem tmod_bd (a b:Int) (h:-9223372036854775808≤a) (h':a≤9223372036854775807):-9223372036854775808≤a.tmod b∧a.tmod b≤9223372036854775807:=by
 have h1:=Int.natAbs_tmod a b
 have h2:(a.tmod b).natAbs≤a.natAbs:=by rw [h1];exact Nat.mod_le _ _
 have:=tmod_sign a b
 omega
theorem ref_narrow (a:Int) :
  (a.tmod 4294967296<0→a.tmod 4294967296+4294967296≥2147483648→wrap32 a=a.tmod 4294967296+4294967296-4294967296)
  ∧ (a.tmod 4294967296<0→a.tmod 4294967296+4294967296<2147483648→wrap32 a=a.tmod 4294967296+4294967296)
  ∧ (0≤a.tmod 4294967296→a.tmod 4294967296≥2147483648→wrap32 a=a.tmod 4294967296-4294967296)
  ∧ (0≤a.tmod 4294967296→a.tmod 4294967296<2147483648→wrap32 a=a.tmod 4294967296):=by
 have h1:=mul_tdiv_tmod a 4294967296
 have h2:a.tmod 4294967296<4294967296:=Int.tmod_lt_of_pos _ (by omega)
 have h3:-4294967296<a.tmod 4294967296:=by
  have:=Int.lt_tmod_of_pos a (b:=4294967296) (by omega);omega
 unfold wrap32
 refine ⟨?_,?_,?_,?_⟩<;>intros<;>omega
theorem tmod32_bd (a:Int):-4294967295≤a.tmod 4294967296∧a.tmod 4294967296≤4294967295:=by
 have h2:a.tmod 4294967296<4294967296:=Int.tmod_lt_of_pos _ (by omega)
 have h3:-4294967296<a.tmod 4294967296:=by
  have:=Int.lt_tmod_of_pos a (b:=4294967296) (by omega);omega
 omega
def bitB (n:Int) (k:Nat):Bool:=decide (n/2 ^ k%2=1)
theorem tmod2 (n:Int):(0≤n.tmod 2→n.tmod 2=n%2)∧(n.tmod 2<0→n.tmod 2+2=n%2∧n%2=1)∧-1≤n.tmod 2∧n.tmod 2≤1:=by
 have h1:=mul_tdiv_tmod n 2
 have h2:n.tmod 2<2:=Int.tmod_lt_of_pos _ (by omega)
 have h3:-2<n.tmod 2:=by
  have:=Int.lt_tmod_of_pos n (b:=2) (by omega);omega
 omega
theorem half_even (n:Int):(n-n%2).tdiv 2=n/2:=by
 have:n-n%2=2*(n/2):=by omega
 rw [this,Int.mul_tdiv_cancel_left _ (by omega)]
theorem div_pow_succ (a:Int) (k:Nat):a/2 ^ (k+1)=a/2 ^ k/2:=by
 rw [Int.pow_succ,Int.ediv_ediv_of_nonneg (Int.le_of_lt (Int.pow_pos (by omega)))]
def sumB (f:Nat→Bool):Nat→Nat
 | 0=>0
 | k+1=>sumB f k+if f k then 2 ^ k else 0
def opB (op:Int) (x y:Bool):Bool:=(decide (op=6)&&(x&&y))||(decide (op=7)&&(x||y))||(decide (op=8)&&(x !=y))
def lngV (op a b:Int):Int :=
 if op=1 then wrap64 (a+b) else if op=2 then wrap64 (a-b) else if op=3 then wrap64 (a*b)
 else if op=4 then (if b=0 then 0 else wrap64 (a.tdiv b)) else if op=5 then (if b=0 then 0 else a.tmod b)
 else if op=6∨op=7∨op=8 then wrap64 (sumB (fun i=>opB op (bitB a i) (bitB b i)) 64:Nat) else 0
def lngB (op b:Int):Bool:=decide (1≤op∧op≤8∧¬(b=0∧(op=4∨op=5)))
def cmpV (a b:Int):Int:=if a<b then -1 else if b<a then 1 else 0
def hldB (c a:Int):Bool:=(decide (c=1)&&decide (a=0))||(decide (c=2)&&decide (a<0))||(decide (c=3)&&decide (a≠0))||(decide (c=4)&&decide (0<a))
end
structure Va where
 kind:Int
 n:Int
structure Hel where
 cls:Int
 fld:Int
 v:Va
structure Ob where
 cls:Int
 held:List Hel
structure Sh where
 fin:Int
 value:Int
 cls:Int
 out:List Int
 used:Int
 steps:Int
structure Hp where
 file:Fi
 objs:List Ob
 input:List Int
 calls:Int
 fuel:Int
 sh:Sh
 over:Bool
 thrown:Int
def va0:Va:=⟨0,0⟩
def hel0:Hel:=⟨0,0,va0⟩
def ob0:Ob:=⟨0,[]⟩
def Hp.fin (h:Hp) (how:Int):Hp:=if h.over=true then h else { h with over:=true,sh:={ h.sh with fin:=how } }
def Hp.stops (h:Hp):Bool:=h.over||decide (0≤h.thrown)
def Hp.must (h:Hp) (b:Bool):Hp:=if b=true then h else h.fin 6
def Hp.mustB (h:Hp) (b:Bool):Bool:=b&&!h.over
def initV (t:Ty):Va:=⟨t.kind,if t.kind=3 then -1 else 0⟩
def heldOf (cs:List Cl) (c d:Nat):List Hel :=
 if belN cs c d=true then (List.range (nth cl0 cs d).fields.length).map (fun k=>⟨(d:Nat),(k:Nat),initV (nth ty0 (nth cl0 cs d).fields k)⟩) else []
def newHeld (cs:List Cl) (c:Nat):List Hel:=(List.range cs.length).flatMap (heldOf cs c)
def Hp.full (h:Hp):Bool:=decide (100≤h.objs.length)
def Hp.new (h:Hp) (c:Int):Hp:=if h.full=true then h.fin 4 else { h with objs:=h.objs++[⟨c,newHeld h.file.classes c.toNat⟩] }
def Hp.newV (h:Hp):Va:=if h.full=true then va0 else ⟨3,(h.objs.length:Nat)⟩
def Hp.raise (h:Hp) (c:Int):Hp:=if (h.new c).over=true then h.new c else { h.new c with thrown:=h.newV.n }
def belI (cs:List Cl) (x y:Int):Bool:=clsI cs x y&&belN cs x.toNat y.toNat
def Hp.obj (h:Hp) (n:Int):Ob:=nth ob0 h.objs n.toNat
def Hp.of (h:Hp) (v:Va) (t:Ty):Bool :=
 decide (v.kind=t.kind)&&(decide (t.kind≠3)||(decide (v.n<0)||belI h.file.classes (h.obj v.n).cls t.cls))
def isRef (v:Va):Bool:=decide (v.kind=3)
def Hp.throw (h:Hp) (v:Va):Hp :=
 if h.mustB (isRef v)=true then (if v.n<0 then h.raise 1 else { h with thrown:=v.n }) else h.must (isRef v)
def heldAt (l:List Hel) (c k:Int):Int:=match l.findIdx? (fun x=>decide (x.cls=c∧x.fld=k)) with
 | some i=>(i:Nat)
 | none=>-1
def Hp.findH (h:Hp) (r:Va) (c:Int):Hp :=
 if h.mustB (h.of r ⟨3,c⟩)=true then (if r.n<0 then h.raise 1 else h) else h.must (h.of r ⟨3,c⟩)
def Hp.findN (h:Hp) (r:Va) (c k:Int):Int :=
 if h.mustB (h.of r ⟨3,c⟩)=true then (if r.n<0 then -1 else heldAt (h.obj r.n).held c k) else -1
def Hp.getV (h:Hp) (r:Va) (c k:Int):Va :=
 if h.findN r c k<0 then va0 else (nth hel0 (h.obj r.n).held (h.findN r c k).toNat).v
def Hp.setV (h:Hp) (n:Nat) (j:Nat) (v:Va):Hp :=
 { h with objs:=h.objs.set n { nth ob0 h.objs n with held:=(nth ob0 h.objs n).held.set j { nth hel0 (nth ob0 h.objs n).held j with v:=v } } }
def fieldT (cs:List Cl) (c k:Int):Ty:=nth ty0 (nth cl0 cs c.toNat).fields k.toNat
def Hp.put (h:Hp) (r:Va) (c k:Int) (v:Va):Hp :=
 if h.mustB (h.of v (fieldT h.file.classes c k))=true then (if h.findN r c k<0 then h.findH r c else (h.findH r c).setV r.n.toNat (h.findN r c k).toNat v)
 else h.must (h.of v (fieldT h.file.classes c k))
def Hp.cast (h:Hp) (v:Va) (c:Int):Hp :=
 if h.mustB (isRef v)=true then (if h.of v ⟨3,c⟩=true then h else h.raise 3) else h.must (isRef v)
def Hp.isV (h:Hp) (v:Va) (c:Int):Va :=
 ⟨1,if (h.mustB (isRef v)&&(decide (0≤v.n)&&belI h.file.classes (h.obj v.n).cls c))=true then 1 else 0⟩
def ofBoth (a b:Va) (k:Int):Bool:=decide (a.kind=k)&&decide (b.kind=k)
def Hp.emit (h:Hp) (v:Va) (k:Int):Hp :=
 if h.mustB (decide (v.kind=k))=true then { h with sh:={ h.sh with out:=h.sh.out++[v.n] } } else h.must (decide (v.kind=k))
def Hp.dry (h:Hp):Bool:=decide ((h.input.length:Int)≤h.sh.used)
def Hp.input' (h:Hp):Hp:=if h.dry=true then h.fin 3 else { h with sh:={ h.sh with used:=h.sh.used+1 } }
def Hp.inV (h:Hp):Va:=if h.dry=true then va0 else ⟨2,nth (0:Int) h.input h.sh.used.toNat⟩
def Hp.step (h:Hp):Hp:=if h.over=true then h else if h.fuel≤h.sh.steps then h.fin 0 else { h with sh:={ h.sh with steps:=h.sh.steps+1 } }
def Hp.stepB (h:Hp):Bool:=!h.over&&decide (h.sh.steps<h.fuel)
def losP (l:List Va) (a:Nat):List Va :=
 if (nth va0 l a).kind=9 then (l.set (a-1) va0).set a va0 else if (nth va0 l a).kind=2 then (l.set (a+1) va0).set a va0 else l.set a va0
def stoP (l:List Va) (a:Nat) (v:Va):List Va :=
 if v.kind=2 then (((losP (losP l a) (a+1)).set (a+1) ⟨9,0⟩).set a v) else (losP l a).set a v
def sizP:List Va→Nat
 | []=>0
 | v::l=>(if v.kind=2 then 2 else 1)+sizP l
theorem mustB_true {h:Hp} {b:Bool} (hm:h.mustB b=true):b=true∧h.over=false∧h.must b=h:=by
 unfold Hp.mustB at hm
 simp at hm
 refine ⟨hm.1,hm.2,?_⟩
 unfold Hp.must;rw [if_pos hm.1]
theorem of_ref {h:Hp} {r:Va} {c:Int} (ho:h.of r ⟨3,c⟩=true):r.kind=3:=by
 unfold Hp.of at ho
 simp at ho
 exact ho.1
theorem heldAt_lt (l:List Hel) (c k:Int):heldAt l c k=-1∨∃q:Nat,q<l.length∧heldAt l c k=q:=by
 unfold heldAt
 cases h:l.findIdx? (fun x=>decide (x.cls=c∧x.fld=k)) with
 | none=>exact Or.inl rfl
 | some i =>
  rw [List.findIdx?_eq_some_iff_getElem] at h
  exact Or.inr ⟨i,h.1,rfl⟩
theorem nth_set_eq {α:Type} {d:α} {l:List α} {n:Nat} {x:α} (h:n<l.length):nth d (l.set n x) n=x:=by simp [nth,List.getD,h]
theorem nth_set_ne {α:Type} {d:α} {l:List α} {n i:Nat} {x:α} (h:n≠i):nth d (l.set n x) i=nth d l i:=by simp [nth,List.getD,List.getElem?_set_ne h]
theorem losP_length (l:List Va) (a:Nat):(losP l a).length=l.length:=by unfold losP;split<;>(try split)<;>simp
theorem stoP_length (l:List Va) (a:Nat) (v:Va):(stoP l a v).length=l.length:=by unfold stoP;split<;>simp [losP_length]
theorem mblk {w:World} {b:Nat} {cs:Array Value} {t:TypeId} (hb:b=w.heap.size):(w.alloc (.cells cs t)).heap[b]?=some (.cells cs t (0,0)):=by
 subst hb
 show (w.heap.push _)[w.heap.size]?=_
 simp
end Go.Proofs.YtgiiapenmjollabGreat
