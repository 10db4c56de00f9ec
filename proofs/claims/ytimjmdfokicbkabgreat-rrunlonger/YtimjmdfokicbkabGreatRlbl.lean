import Derived.Test.YtimjmdfokicbkabGreatRlbk
import Derived.Test.YtimjmdfokicbkabGreatChecked
import Derived.KernelRfl
import Derived.ProofKit
import Derived.OpenShut
import Derived.ReadAgain
namespace Go.Proofs.YtimjmdfokicbkabGreat
set_option linter.unusedVariables false
set_option linter.unusedSimpArgs false
set_option maxHeartbeats 40000000
open Go.RowKit
theorem pmay_cls {f:Fi} (h:mayB f.classes=false):pmayB f=false:=by unfold pmayB;rw [h];rfl
theorem pmay_many {f:Fi} (h:¬(1≤(f.methods.length:Int)∧(f.methods.length:Int)≤8)):pmayB f=false:=by unfold pmayB;rw [decide_eq_false h,Bool.false_and,Bool.and_false]
theorem pmay_me {f:Fi} {q:Nat} (hq:q<f.methods.length) (h:pmeB f.classes f.methods (nth me0 f.methods q)=false):pmayB f=false:=by
 unfold pmayB;rw [all_bad hq h,Bool.and_false,Bool.and_false]
theorem pmay_good {f:Fi} (h0:mayB f.classes=true) (h:1≤(f.methods.length:Int)∧(f.methods.length:Int)≤8)
  (hi:∀q,q<f.methods.length→pmeB f.classes f.methods (nth me0 f.methods q)=true):pmayB f=true:=by
 unfold pmayB;rw [h0,decide_eq_true h,all_good hi];rfl
set_option maxRecDepth 100000 in
theorem pmay_any (f:Fi) (A B:Option Addr) (a b:Nat) (w:World) (hA:ClsAt w A f.classes) (hB:MesAt w B f.methods) :
  Calls Tryz.prog 6 #[fiV f.classes.length f.methods.length A B a b] w fun e w'=>e=.returned (.bool (pmayB f))∧Bl w w':=by
 have HA:Hid (ClsAt w A f.classes):=hA
 have HB:Hid (MesAt w B f.methods):=hB
 have hcm:=hA.1
 have hmm:=hB.1
 unfold maxLen at hcm hmm
 clear hA hB
 have HF:Hid (FiBox (w.alloc (fiO f.classes.length f.methods.length A B a b)) w.heap.size 0 f.classes.length f.methods.length A B a b):=FiBox.new ..
 have HW:Hid (Bl w (w.alloc (fiO f.classes.length f.methods.length A B a b))):=(Bl.refl w).alloc _
 cases hm:mayB f.classes
 ·have hb:=pmay_cls hm
  rw [hb]
  go_enter Tryz.func6,Tryz.ntmps6
  go_wp2_with (go_at_call 10;refine (may_any _ _ _ _ (HA.out.bl HW.out)).mono ?_;rintro e w1 ⟨he,g1⟩;rw [hm] at he;subst he)
  go_ret
  exact ⟨rfl,HW.out.trans g1⟩
 by_cases hn:1≤(f.methods.length:Int)∧(f.methods.length:Int)≤8
 ·have dn:decide (1≤(f.methods.length:Int)∧(f.methods.length:Int)≤8)=true:=decide_eq_true hn
  have HG:Hid ((∀q,q<f.methods.length→pmeB f.classes f.methods (nth me0 f.methods q)=true)→pmayB f=true):=pmay_good hm hn
  go_enter Tryz.func6,Tryz.ntmps6
  go_wp2_with (first
   | (go_at_call 10;refine (may_any _ _ _ _ (HA.out.bl HW.out)).mono ?_;rintro e w1 ⟨he,g1⟩;rw [hm] at he;subst he;have q1:=(HF.out.bl g1).2;simp only [Nat.zero_add] at q1)
   | (go_at_call 11;refine (span_any _ _ _ _).mono ?_;rintro e w2 ⟨he,hw2⟩;rw [dn] at he;subst he;rw [hw2];clear hw2 w2))
  go_loopw [19] (fun i wr=>∃k:Nat,k≤f.methods.length∧i=.int .i64 k∧Hid (∀j,j<k→pmeB f.classes f.methods (nth me0 f.methods j)=true)∧Hid (Bl w wr)∧Hid (FiBox wr w.heap.size 0 f.classes.length f.methods.length A B a b)) (fun i _=>f.methods.length-(intOf i).toNat)
  case atStart=>exact ⟨0,Nat.zero_le _,rfl,fun j hj=>absurd hj (Nat.not_lt_zero _),HW.out.trans g1,HF.out.bl g1⟩
  case round =>
   clear HF HW q1 g1 hm
   obtain ⟨k,hk,rfl,hgk,hg,HF⟩:=hrel
   by_cases hkl:k<f.methods.length
   ·have hmes:=HB.out.bl hg.out
    have HMES:=hidp hmes
    rcases hmes.2 with h0|⟨b',off',rfl,hcell⟩
    ·omega
    obtain ⟨P,C,K,p,c,kk,c0,c1,c2,c3,c4,c5,c6,c7,hme⟩:=hcell k hkl
    have HBAD:Hid (pmeB f.classes f.methods (nth me0 f.methods k)=false→pmayB f=false):=pmay_me hkl
    generalize hM:nth me0 f.methods k=m at *
    have HM:Hid (nth me0 f.methods k=m):=hM
    have HME:Hid (MeAt wr m P C K):=hme
    have qf0:∀o,(wr.alloc o).cell? ⟨w.heap.size,0,none⟩=some (.slice A f.classes.length a):=fun o=>((Bl.refl wr).alloc o).cell HF.out.1
    have qf1:∀o,(wr.alloc o).cell? ⟨w.heap.size,1,none⟩=some (.slice (some ⟨b',off',none⟩) f.methods.length b):=fun o=>by
     have:=HF.out.2;simp only [Nat.zero_add] at this;exact ((Bl.refl wr).alloc o).cell this
    have HAL:Hid (Bl wr (wr.alloc (meO m P C K p c kk))):=(Bl.refl wr).alloc _
    have HFA:Hid (FiBox (wr.alloc (meO m P C K p c kk)) w.heap.size 0 f.classes.length f.methods.length A _ a b):=HF.out.bl HAL.out
    clear hmes hcell hM hme
    cases hh:pmeB f.classes f.methods m
    ·have HN:Hid (pmayB f=false):=HBAD.out hh
     clear HBAD
     go_wp2_with (go_at_call 12;refine (pme_any f.classes f.methods _ _ _ _ m _ _ _ _ _ _ _ (HA.out.bl (hg.out.trans HAL.out)) (HMES.out.bl HAL.out) (HME.out.bl HAL.out)).mono ?_;rintro e w1 ⟨he,g1⟩;rw [hh] at he;subst he)
     go_ret
     exact ⟨ret_bool HN.out.symm,(hg.out.trans HAL.out).trans g1⟩
    ·have HT:Hid (pmeB f.classes f.methods m=true):=hh
     clear HBAD
     go_wp2_with (go_at_call 12;refine (pme_any f.classes f.methods _ _ _ _ m _ _ _ _ _ _ _ (HA.out.bl (hg.out.trans HAL.out)) (HMES.out.bl HAL.out) (HME.out.bl HAL.out)).mono ?_;rintro e w1 ⟨he,g1⟩;rw [hh] at he;subst he)
     go_roundw
     case rel=>exact ⟨k+1,by omega,by go_num,fun j hj=>if h:j<k then hgk.out j h else by have:j=k:=(by omega);subst this;rw [HM.out];exact HT.out,(hg.out.trans HAL.out).trans g1,HFA.out.bl g1⟩
     case measure=>simp [intOf];omega
   ·obtain rfl:k=f.methods.length:=by omega
    have HN:Hid (pmayB f=true):=HG.out hgk.out
    go_wp2
    go_ret
    exact ⟨ret_bool HN.out.symm,hg.out⟩
 ·have hb:=pmay_many (f:=f) hn
  rw [hb]
  have dn:decide (1≤(f.methods.length:Int)∧(f.methods.length:Int)≤8)=false:=decide_eq_false hn
  go_enter Tryz.func6,Tryz.ntmps6
  go_wp2_with (first
   | (go_at_call 10;refine (may_any _ _ _ _ (HA.out.bl HW.out)).mono ?_;rintro e w1 ⟨he,g1⟩;rw [hm] at he;subst he;have q1:=(HF.out.bl g1).2;simp only [Nat.zero_add] at q1)
   | (go_at_call 11;refine (span_any _ _ _ _).mono ?_;rintro e w2 ⟨he,hw2⟩;rw [dn] at he;subst he;rw [hw2];clear hw2 w2))
  go_ret
  exact ⟨rfl,HW.out.trans g1⟩
theorem pmay_doc (f:Fi) (A B:Option Addr) (a b:Nat) (w:World) (hA:ClsAt w A f.classes) (hB:MesAt w B f.methods) :
  Calls Tryz.prog 6 #[fiV f.classes.length f.methods.length A B a b] w fun e w'=>e=.returned (.bool (rfmayB f))∧Bl w w':=by
 rw [pmay_is];exact pmay_any f A B a b w hA hB
section
open Go.ChangeShapes Go.WideShapes Go.ChangeAt Go.RowKit Go.Deep
theorem cellsTy:Tryz.prog.cellsOf 43=2:=by kernel_rfl
theorem cellsCl:Tryz.prog.cellsOf 79=2:=by kernel_rfl
theorem cellsTys:Tryz.prog.cellsOf 41=1:=by kernel_rfl
theorem cellsInt:Tryz.prog.cellsOf 3=1:=by kernel_rfl
theorem take_one {cs:List Value} {o:Nat} {v:Value} (h:(cs.drop o).take 1=[v]):cs[o]?=some v:=by
 have h1:((cs.drop o).take 1)[0]?=some v:=by rw [h];rfl
 simpa [List.getElem?_take,List.getElem?_drop] using h1
section
variable {H:Type} {enc:TypeId×Value→H} {w:World} {base:Nat} {spare:Nat→Bool} {held:Bool}
theorem fld_int {t:TypeId} {P:Program} {fuel o:Nat} {cs:List Value} {y:Option (DataW H×List MemPlace)} (ht:P.underlying t=some (.int .i64)) (hc:P.cellsOf t=1) (hy:y≠none)
  (h:DataW.trod enc P w base spare held fuel t ((cs.drop o).take (P.cellsOf t))=y):∃n,cs[o]?=some (.int .i64 n)∧I64 n:=by
 obtain ⟨x,rfl⟩:=Option.ne_none_iff_exists'.1 hy
 obtain ⟨n,hn,-,hw⟩:=DataW.trod_int ht h
 rw [hc] at hn
 exact ⟨n,take_one hn,bounds_i64 hw⟩
theorem open_row {E:Type} (d:E) {R:E→List Value→Prop} {P:Program} {t e:TypeId} {s fuel:Nat} {cs:List Value} {x:DataW H×List MemPlace}
  (ht:P.underlying t=some (.slice e)) (hs:P.cellsOf e=s) (h0:0<s)
  (he:∀(fuel:Nat) (cs:List Value) (x:DataW H×List MemPlace),DataW.trod enc P w base spare held fuel e cs=some x→∃z:E,R z cs)
  (h:DataW.trod enc P w base spare held fuel t cs=some x) :
  ∃(A:Option Addr) (l:List E) (c:Nat),cs=[.slice A l.length c]∧l.length≤maxLen∧(l.length=0∨∃b off,A=some ⟨b,off,none⟩ ∧
   ∀i,i<l.length→∃vs,R (nth d l i) vs∧∀j,j<s→w.cell? ⟨b,off+i*s+j,none⟩=vs[j]?):=by
 rcases open_slice ht h with ⟨rfl,-⟩|⟨a,len,cap,m,n,D,Pl,rfl,hb,hl,hm,hmm,-,hx⟩
 ·exact ⟨none,[],0,rfl,Nat.zero_le _,Or.inl rfl⟩
 have hlm:len≤m:=by rw [hmm];split<;>omega
 rw [hs] at hx
 obtain ⟨f,hf⟩:=@choose_lt E ⟨d⟩ len ( fun i z=>∃vs,R z vs∧vs.length=s∧∀j,j<s→w.cell? ((a.add (i*s)).add j)=vs[j]?) (fun i hi=>by
  obtain ⟨cs',h1,h2⟩:=hx i (by omega)
  obtain ⟨z,hz⟩:=he _ _ _ h2
  obtain ⟨-,hlen,hcell⟩:=World.cells?_some h1
  exact ⟨z,cs',hz,hlen,hcell⟩)
 refine ⟨some a,(List.range len).map f,cap,by simp,by simp;omega,?_⟩
 simp only [List.length_map,List.length_range]
 by_cases hz:len=0
 ·exact Or.inl hz
 right
 obtain ⟨b,off,spot⟩:=a
 have hspot:spot=none:=by
  obtain ⟨vs,-,hlen,hcell⟩:=hf 0 (by omega)
  have g:=hcell 0 h0
  rw [List.getElem?_eq_getElem (by omega)] at g
  simpa [Addr.add] using World.cell?_spot g
 subst hspot
 refine ⟨b,off,rfl,fun i hi=>?_⟩
 obtain ⟨vs,hR,-,hcell⟩:=hf i hi
 refine ⟨vs,?_,fun j hj=>?_⟩
 ·have:nth d ((List.range len).map f) i=f i:=by rw [nth_get (by simpa using hi)];simp
  rw [this];exact hR
 ·have:=hcell j hj
  rw [add_add,add_plain,←Nat.add_assoc] at this
  exact this
theorem open_ty {fuel:Nat} {cs:List Value} {x:DataW H×List MemPlace} (h:DataW.trod enc Tryz.prog w base spare held fuel 43 cs=some x) :
  ∃t:Ty,(cs[0]?=some (.int .i64 t.kind)∧cs[1]?=some (.int .i64 t.cls))∧I64 t.kind∧I64 t.cls:=by
 obtain ⟨xs,n,rfl,rfl,hl,hn,hf⟩:=DataW.trod_struct Tryz.underlying43 h
 have hn':xs.length=2:=hn
 obtain ⟨k,h0,w0⟩:=fld_int Tryz.underlying3 cellsInt (by simp [hn']) (hf 0 _ rfl)
 obtain ⟨c,h1,w1⟩:=fld_int Tryz.underlying3 cellsInt (by simp [hn']) (hf 1 _ rfl)
 exact ⟨⟨k,c⟩,⟨h0,h1⟩,w0,w1⟩
theorem open_tys {fuel:Nat} {cs:List Value} {x:DataW H×List MemPlace} (h:DataW.trod enc Tryz.prog w base spare held fuel 41 cs=some x) :
  ∃(A:Option Addr) (l:List Ty) (c:Nat),cs=[.slice A l.length c]∧TysAt w A l:=by
 obtain ⟨A,l,c,rfl,hm,hr⟩:=open_row ty0 Tryz.underlying41 cellsTy (by omega) (fun _ _ _=>open_ty) h
 rcases hr with h0|⟨b,off,rfl,hi⟩
 ·exact ⟨A,l,c,rfl,hm,Or.inl h0⟩
 refine ⟨_,l,c,rfl,hm,Or.inr ⟨b,off,rfl,fun i hlt=>?_⟩⟩
 obtain ⟨vs,⟨⟨h0,h1⟩,w0,w1⟩,hc⟩:=hi i hlt
 exact ⟨(hc 0 (by omega)).trans h0,(hc 1 (by omega)).trans h1,w0,w1⟩
theorem fld_tys {fuel o:Nat} {cs:List Value} {y:Option (DataW H×List MemPlace)} (hy:y≠none)
  (h:DataW.trod enc Tryz.prog w base spare held fuel 41 ((cs.drop o).take (Tryz.prog.cellsOf 41))=y):∃(A:Option Addr) (l:List Ty) (c:Nat),cs[o]?=some (.slice A l.length c)∧TysAt w A l:=by
 obtain ⟨x,rfl⟩:=Option.ne_none_iff_exists'.1 hy
 obtain ⟨A,l,c,hn,hT⟩:=open_tys h
 rw [cellsTys] at hn
 exact ⟨A,l,c,take_one hn,hT⟩
theorem open_cl {fuel:Nat} {cs:List Value} {x:DataW H×List MemPlace} (h:DataW.trod enc Tryz.prog w base spare held fuel 79 cs=some x) :
  ∃t:Cl,cs[0]?=some (.int .i64 t.super)∧I64 t.super∧∃A c,cs[1]?=some (.slice A t.fields.length c)∧TysAt w A t.fields:=by
 obtain ⟨xs,n,rfl,rfl,hl,hn,hf⟩:=DataW.trod_struct Tryz.underlying79 h
 have hn':xs.length=2:=hn
 obtain ⟨k,h0,w0⟩:=fld_int Tryz.underlying3 cellsInt (by simp [hn']) (hf 0 _ rfl)
 obtain ⟨A,l,c,h1,w1⟩:=fld_tys (by simp [hn']) (hf 1 _ rfl)
 exact ⟨⟨k,l⟩,h0,w0,A,c,h1,w1⟩
theorem open_cls {fuel:Nat} {cs:List Value} {x:DataW H×List MemPlace} (h:DataW.trod enc Tryz.prog w base spare held fuel 22 cs=some x) :
  ∃(A:Option Addr) (l:List Cl) (c:Nat),cs=[.slice A l.length c]∧ClsAt w A l:=by
 obtain ⟨A,l,c,rfl,hm,hr⟩:=open_row cl0 Tryz.underlying22 cellsCl (by omega) (fun _ _ _=>open_cl) h
 rcases hr with h0|⟨b,off,rfl,hi⟩
 ·exact ⟨A,l,c,rfl,hm,Or.inl h0⟩
 refine ⟨_,l,c,rfl,hm,Or.inr ⟨b,off,rfl,fun i hlt=>?_⟩⟩
 obtain ⟨vs,⟨h0,w0,A',c',h1,w1⟩,hc⟩:=hi i hlt
 exact ⟨(hc 0 (by omega)).trans h0,w0,A',c',(hc 1 (by omega)).trans h1,w1⟩
end
end
section
open Go.ChangeShapes Go.WideShapes Go.ChangeAt Go.RowKit Go.Deep
theorem cellsLong:Tryz.prog.cellsOf 2=1:=by kernel_rfl
theorem cellsInts:Tryz.prog.cellsOf 86=1:=by kernel_rfl
theorem cellsIn:Tryz.prog.cellsOf 88=6:=by kernel_rfl
theorem cellsIns:Tryz.prog.cellsOf 44=1:=by kernel_rfl
theorem cellsHd:Tryz.prog.cellsOf 97=4:=by kernel_rfl
theorem cellsHds:Tryz.prog.cellsOf 45=1:=by kernel_rfl
theorem cellsMe:Tryz.prog.cellsOf 47=8:=by kernel_rfl
theorem cellsMes:Tryz.prog.cellsOf 23=1:=by kernel_rfl
theorem cellsCls:Tryz.prog.cellsOf 22=1:=by kernel_rfl
theorem cellsFi:Tryz.prog.cellsOf 25=2:=by kernel_rfl
section
variable {H:Type} {enc:TypeId×Value→H} {w:World} {base:Nat} {spare:Nat→Bool} {held:Bool}
theorem open_ints' {fuel:Nat} {cs:List Value} {x:DataW H×List MemPlace} (h:DataW.trod enc Tryz.prog w base spare held fuel 86 cs=some x) :
  ∃(A:Option Addr) (l:List Int) (c:Nat),cs=[.slice A l.length c]∧IntsAt w A l:=by
 obtain ⟨A,l,c,rfl,hm,hr⟩:=open_row (0:Int) (R:=fun (n:Int) cs=>cs[0]?=some (.int .i64 n)∧I64 n) Tryz.underlying86 cellsInt (by omega)
  (fun _ _ _ hh=>by obtain ⟨n,rfl,-,hw⟩:=DataW.trod_int Tryz.underlying3 hh;exact ⟨n,rfl,bounds_i64 hw⟩) h
 rcases hr with h0|⟨b,off,rfl,hi⟩
 ·exact ⟨A,l,c,rfl,hm,Or.inl h0⟩
 refine ⟨_,l,c,rfl,hm,Or.inr ⟨b,off,rfl,fun i hlt=>?_⟩⟩
 obtain ⟨vs,⟨h0,w0⟩,hc⟩:=hi i hlt
 have:=(hc 0 (by omega)).trans h0
 rw [Nat.mul_one,Nat.add_zero] at this
 exact ⟨this,w0⟩
theorem open_in {fuel:Nat} {cs:List Value} {x:DataW H×List MemPlace} (h:DataW.trod enc Tryz.prog w base spare held fuel 88 cs=some x) :
  ∃t:In,cs[0]?=some (.int .i64 t.op)∧cs[1]?=some (.int .i64 t.a)∧cs[2]?=some (.int .i64 t.b)∧cs[3]?=some (.int .i64 t.c)∧cs[4]?=some (.int .i64 t.n)∧t.ok
   ∧ ∃A c,cs[5]?=some (.slice A t.args.length c)∧IntsAt w A t.args:=by
 obtain ⟨xs,n,rfl,rfl,hl,hn,hf⟩:=DataW.trod_struct Tryz.underlying88 h
 have hn':xs.length=6:=hn
 obtain ⟨k0,h0,w0⟩:=fld_int Tryz.underlying3 cellsInt (by simp [hn']) (hf 0 _ rfl)
 obtain ⟨k1,h1,w1⟩:=fld_int Tryz.underlying3 cellsInt (by simp [hn']) (hf 1 _ rfl)
 obtain ⟨k2,h2,w2⟩:=fld_int Tryz.underlying3 cellsInt (by simp [hn']) (hf 2 _ rfl)
 obtain ⟨k3,h3,w3⟩:=fld_int Tryz.underlying3 cellsInt (by simp [hn']) (hf 3 _ rfl)
 obtain ⟨k4,h4,w4⟩:=fld_int Tryz.underlying2 cellsLong (by simp [hn']) (hf 4 _ rfl)
 obtain ⟨y,hy⟩:=Option.ne_none_iff_exists'.1 (show xs[5]?≠none by simp [hn'])
 have h5:=hf 5 _ rfl
 rw [hy] at h5
 obtain ⟨A,l,c,hn,hT⟩:=open_ints' h5
 exact ⟨⟨k0,k1,k2,k3,k4,l⟩,h0,h1,h2,h3,h4,⟨w0,w1,w2,w3,w4⟩,A,c,take_one (cellsInts▸hn),hT⟩
theorem open_ins {fuel:Nat} {cs:List Value} {x:DataW H×List MemPlace} (h:DataW.trod enc Tryz.prog w base spare held fuel 44 cs=some x) :
  ∃(A:Option Addr) (l:List In) (c:Nat),cs=[.slice A l.length c]∧InsAt w A l:=by
 obtain ⟨A,l,c,rfl,hm,hr⟩:=open_row in0 Tryz.underlying44 cellsIn (by omega) (fun _ _ _=>open_in) h
 rcases hr with h0|⟨b,off,rfl,hi⟩
 ·exact ⟨A,l,c,rfl,hm,Or.inl h0⟩
 refine ⟨_,l,c,rfl,hm,Or.inr ⟨b,off,rfl,fun i hlt=>?_⟩⟩
 obtain ⟨vs,⟨h0,h1,h2,h3,h4,w0,A',c',h5,w1⟩,hc⟩:=hi i hlt
 exact ⟨(hc 0 (by omega)).trans h0,(hc 1 (by omega)).trans h1,(hc 2 (by omega)).trans h2,(hc 3 (by omega)).trans h3,(hc 4 (by omega)).trans h4,w0,A',c',(hc 5 (by omega)).trans h5,w1⟩
theorem open_hd {fuel:Nat} {cs:List Value} {x:DataW H×List MemPlace} (h:DataW.trod enc Tryz.prog w base spare held fuel 97 cs=some x) :
  ∃t:Hd,cs[0]?=some (.int .i64 t.fr)∧cs[1]?=some (.int .i64 t.til)∧cs[2]?=some (.int .i64 t.pc)∧cs[3]?=some (.int .i64 t.cls)∧t.ok:=by
 obtain ⟨xs,n,rfl,rfl,hl,hn,hf⟩:=DataW.trod_struct Tryz.underlying97 h
 have hn':xs.length=4:=hn
 obtain ⟨k0,h0,w0⟩:=fld_int Tryz.underlying3 cellsInt (by simp [hn']) (hf 0 _ rfl)
 obtain ⟨k1,h1,w1⟩:=fld_int Tryz.underlying3 cellsInt (by simp [hn']) (hf 1 _ rfl)
 obtain ⟨k2,h2,w2⟩:=fld_int Tryz.underlying3 cellsInt (by simp [hn']) (hf 2 _ rfl)
 obtain ⟨k3,h3,w3⟩:=fld_int Tryz.underlying3 cellsInt (by simp [hn']) (hf 3 _ rfl)
 exact ⟨⟨k0,k1,k2,k3⟩,h0,h1,h2,h3,w0,w1,w2,w3⟩
theorem open_hds {fuel:Nat} {cs:List Value} {x:DataW H×List MemPlace} (h:DataW.trod enc Tryz.prog w base spare held fuel 45 cs=some x) :
  ∃(A:Option Addr) (l:List Hd) (c:Nat),cs=[.slice A l.length c]∧HdsAt w A l:=by
 obtain ⟨A,l,c,rfl,hm,hr⟩:=open_row hd0 Tryz.underlying45 cellsHd (by omega) (fun _ _ _=>open_hd) h
 rcases hr with h0|⟨b,off,rfl,hi⟩
 ·exact ⟨A,l,c,rfl,hm,Or.inl h0⟩
 refine ⟨_,l,c,rfl,hm,Or.inr ⟨b,off,rfl,fun i hlt=>?_⟩⟩
 obtain ⟨vs,⟨h0,h1,h2,h3,w0⟩,hc⟩:=hi i hlt
 exact ⟨(hc 0 (by omega)).trans h0,(hc 1 (by omega)).trans h1,(hc 2 (by omega)).trans h2,(hc 3 (by omega)).trans h3,w0⟩
theorem open_me {fuel:Nat} {cs:List Value} {x:DataW H×List MemPlace} (h:DataW.trod enc Tryz.prog w base spare held fuel 47 cs=some x) :
  ∃t:Me,∃P C K p c k,cs[0]?=some (.slice P t.params.length p)∧cs[1]?=some (.int .i64 t.ret.kind)∧cs[2]?=some (.int .i64 t.ret.cls)∧cs[3]?=some (.int .i64 t.stack)∧cs[4]?=some (.int .i64 t.locs)∧cs[5]?=some (.int .i64 t.regs)
   ∧ cs[6]?=some (.slice C t.code.length c)∧cs[7]?=some (.slice K t.hands.length k)∧MeAt w t P C K:=by
 obtain ⟨xs,n,rfl,rfl,hl,hn,hf⟩:=DataW.trod_struct Tryz.underlying47 h
 have hn':xs.length=7:=hn
 obtain ⟨P,lp,p,h0,w0⟩:=fld_tys (by simp [hn']) (hf 0 _ rfl)
 obtain ⟨k2,h2,w2⟩:=fld_int Tryz.underlying3 cellsInt (by simp [hn']) (hf 2 _ rfl)
 obtain ⟨k3,h3,w3⟩:=fld_int Tryz.underlying3 cellsInt (by simp [hn']) (hf 3 _ rfl)
 obtain ⟨k4,h4,w4⟩:=fld_int Tryz.underlying3 cellsInt (by simp [hn']) (hf 4 _ rfl)
 obtain ⟨y,hy⟩:=Option.ne_none_iff_exists'.1 (show xs[5]?≠none by simp [hn'])
 have h5:=hf 5 _ rfl
 rw [hy] at h5
 obtain ⟨C,lc,c,hn5,hT5⟩:=open_ins h5
 obtain ⟨y,hy⟩:=Option.ne_none_iff_exists'.1 (show xs[6]?≠none by simp [hn'])
 have h6:=hf 6 _ rfl
 rw [hy] at h6
 obtain ⟨K,lk,k,hn6,hT6⟩:=open_hds h6
 obtain ⟨y,hy⟩:=Option.ne_none_iff_exists'.1 (show xs[1]?≠none by simp [hn'])
 have h1:=hf 1 _ rfl
 rw [hy] at h1
 obtain ⟨r,⟨hr0,hr1⟩,v0,v1⟩:=open_ty h1
 have hr0':((cs.drop 1).take (Tryz.prog.cellsOf 43))[0]?=some (.int .i64 r.kind):=hr0
 have hr1':((cs.drop 1).take (Tryz.prog.cellsOf 43))[1]?=some (.int .i64 r.cls):=hr1
 rw [cellsTy] at hr0' hr1'
 refine ⟨⟨lp,r,k2,k3,k4,lc,lk⟩,P,C,K,p,c,k,h0,?_,?_,h2,h3,h4,take_one (cellsIns▸hn5),take_one (cellsHds▸hn6),w0,hT5,hT6,v0,v1,w2,w3,w4⟩
 ·simpa [List.getElem?_take,List.getElem?_drop] using hr0'
 ·simpa [List.getElem?_take,List.getElem?_drop] using hr1'
theorem open_mes {fuel:Nat} {cs:List Value} {x:DataW H×List MemPlace} (h:DataW.trod enc Tryz.prog w base spare held fuel 23 cs=some x) :
  ∃(A:Option Addr) (l:List Me) (c:Nat),cs=[.slice A l.length c]∧MesAt w A l:=by
 obtain ⟨A,l,c,rfl,hm,hr⟩:=open_row me0 Tryz.underlying23 cellsMe (by omega) (fun _ _ _=>open_me) h
 rcases hr with h0|⟨b,off,rfl,hi⟩
 ·exact ⟨A,l,c,rfl,hm,Or.inl h0⟩
 refine ⟨_,l,c,rfl,hm,Or.inr ⟨b,off,rfl,fun i hlt=>?_⟩⟩
 obtain ⟨vs,⟨P,C,K,p,c,k,h0,h1,h2,h3,h4,h5,h6,h7,w1⟩,hc⟩:=hi i hlt
 exact ⟨P,C,K,p,c,k,(hc 0 (by omega)).trans h0,(hc 1 (by omega)).trans h1,(hc 2 (by omega)).trans h2,(hc 3 (by omega)).trans h3,(hc 4 (by omega)).trans h4,(hc 5 (by omega)).trans h5,(hc 6 (by omega)).trans h6,(hc 7 (by omega)).trans h7,w1⟩
set_option maxRecDepth 100000 in
theorem open_file {fuel:Nat} {cs:List Value} {x:DataW H×List MemPlace} (h:DataW.trod enc Tryz.prog w base spare held fuel 25 cs=some x) :
  ∃(f:Fi) (A B:Option Addr) (a b:Nat),cs=[.slice A f.classes.length a,.slice B f.methods.length b]∧ClsAt w A f.classes∧MesAt w B f.methods:=by
 obtain ⟨xs,n,rfl,rfl,hl,hn,hf⟩:=DataW.trod_struct Tryz.underlying25 h
 have hn':xs.length=2:=hn
 rw [cellsFi] at hl
 obtain ⟨y,hy⟩:=Option.ne_none_iff_exists'.1 (show xs[0]?≠none by simp [hn'])
 have h0:=hf 0 _ rfl
 rw [hy] at h0
 obtain ⟨A,l,a,hA,hT⟩:=open_cls h0
 obtain ⟨y,hy⟩:=Option.ne_none_iff_exists'.1 (show xs[1]?≠none by simp [hn'])
 have h1:=hf 1 _ rfl
 rw [hy] at h1
 obtain ⟨B,m,b,hB,hM⟩:=open_mes h1
 have e0:cs[0]?=some (.slice A l.length a):=take_one (cellsCls▸hA)
 have e1:cs[1]?=some (.slice B m.length b):=take_one (cellsMes▸hB)
 match cs,hl with
 | [u,v],_ =>
  simp at e0 e1
  subst e0 e1
  exact ⟨⟨l,m⟩,A,B,a,b,rfl,hT,hM⟩
end
end
section
open Go.ChangeShapes Go.WideShapes Go.ChangeAt Go.RowKit Go.Deep
variable {H:Type} {enc:TypeId×Value→H} {w:World} {base:Nat} {spare:Nat→Bool} {held:Bool}
theorem open_longs {fuel:Nat} {cs:List Value} {x:DataW H×List MemPlace} (h:DataW.trod enc Tryz.prog w base spare held fuel 26 cs=some x) :
  ∃(A:Option Addr) (l:List Int) (c:Nat),cs=[.slice A l.length c]∧IntsAt w A l:=by
 obtain ⟨A,l,c,rfl,hm,hr⟩:=open_row (0:Int) (R:=fun (n:Int) cs=>cs[0]?=some (.int .i64 n)∧I64 n) Tryz.underlying26 cellsLong (by omega)
  (fun _ _ _ hh=>by obtain ⟨n,rfl,-,hw⟩:=DataW.trod_int Tryz.underlying2 hh;exact ⟨n,rfl,bounds_i64 hw⟩) h
 rcases hr with h0|⟨b,off,rfl,hi⟩
 ·exact ⟨A,l,c,rfl,hm,Or.inl h0⟩
 refine ⟨_,l,c,rfl,hm,Or.inr ⟨b,off,rfl,fun i hlt=>?_⟩⟩
 obtain ⟨vs,⟨h0,w0⟩,hc⟩:=hi i hlt
 have:=(hc 0 (by omega)).trans h0
 rw [Nat.mul_one,Nat.add_zero] at this
 exact ⟨this,w0⟩
end
end Go.Proofs.YtimjmdfokicbkabGreat
