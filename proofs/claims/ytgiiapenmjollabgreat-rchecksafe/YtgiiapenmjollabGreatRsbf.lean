import Derived.Test.YtgiiapenmjollabGreatRsaa
import Derived.Test.YtgiiapenmjollabGreatChecked
import Derived.KernelRfl
import Derived.ProofKit
import Derived.OpenShut
import Derived.ReadAgain
namespace Go.Proofs.YtgiiapenmjollabGreat
set_option linter.all false
set_option maxHeartbeats 40000000
set_option maxRecDepth 100000
open Go.RowKit
section
open Go.ChangeShapes Go.WideShapes Go.ChangeAt Go.RowKit Go.Deep
theorem cellsTy:Tryz.prog.cellsOf 46=2:=by kernel_rfl
theorem cellsCl:Tryz.prog.cellsOf 131=2:=by kernel_rfl
theorem cellsTys:Tryz.prog.cellsOf 44=1:=by kernel_rfl
theorem cellsInt:Tryz.prog.cellsOf 3=1:=by kernel_rfl
theorem take_one {cs:List Value} {o:Nat} {v:Value} (h:(cs.drop o).take 1=[v]):cs[o]?=some v:=by
 have h1:((cs.drop o).take 1)[0]?=some v:=by rw [h];rfl
 simpa [List.getElem?_take,List.getElem?_drop] using h1
section
variable {H:Type} {enc:TypeId×Value→H} {w:World} {base:Nat} {spare:Nat→Bool} {held:Bool}
theorem fld_int {t:TypeId} {P:Program} {fuel o:Nat} {cs:List Value} {y:Option (DataW H×List MemPlace)} (ht:P.underlying t=some (.int .i64)) (hc:P.cellsOf t=1) (hy:y≠none)
  (h:DataW.trod enc P w base spare held fuel t ((cs.drop o).take (P.cellsOf t))=y):∃n,cs[o]?=some (.int .i64 n)∧I64 n:=by
 obtain ⟨x,rfl⟩:=Option.ne_none_iff_exists'.1 hy
 obtain ⟨n,hn,-,hw⟩:=DataW.trod_int ht h
 rw [hc] at hn
 exact ⟨n,take_one hn,bounds_i64 hw⟩
theorem open_row {E:Type} (d:E) {R:E→List Value→Prop} {P:Program} {t e:TypeId} {s fuel:Nat} {cs:List Value} {x:DataW H×List MemPlace}
  (ht:P.underlying t=some (.slice e)) (hs:P.cellsOf e=s) (h0:0<s)
  (he:∀(fuel:Nat) (cs:List Value) (x:DataW H×List MemPlace),DataW.trod enc P w base spare held fuel e cs=some x→∃z:E,R z cs)
  (h:DataW.trod enc P w base spare held fuel t cs=some x) :
  ∃(A:Option Addr) (l:List E) (c:Nat),cs=[.slice A l.length c]∧l.length≤maxLen∧(l.length=0∨∃b off,A=some ⟨b,off,none⟩ ∧
   ∀i,i<l.length→∃vs,R (nth d l i) vs∧∀j,j<s→w.cell? ⟨b,off+i*s+j,none⟩=vs[j]?):=by
 rcases open_slice ht h with ⟨rfl,-⟩|⟨a,len,cap,m,n,D,Pl,rfl,hb,hl,hm,hmm,-,hx⟩
 ·exact ⟨none,[],0,rfl,Nat.zero_le _,Or.inl rfl⟩
 have hlm:len≤m:=by rw [hmm];split<;>omega
 rw [hs] at hx
 obtain ⟨f,hf⟩:=@choose_lt E ⟨d⟩ len ( fun i z=>∃vs,R z vs∧vs.length=s∧∀j,j<s→w.cell? ((a.add (i*s)).add j)=vs[j]?) (fun i hi=>by
  obtain ⟨cs',h1,h2⟩:=hx i (by omega)
  obtain ⟨z,hz⟩:=he _ _ _ h2
  obtain ⟨-,hlen,hcell⟩:=World.cells?_some h1
  exact ⟨z,cs',hz,hlen,hcell⟩)
 refine ⟨some a,(List.range len).map f,cap,by simp,by simp;omega,?_⟩
 simp only [List.length_map,List.length_range]
 by_cases hz:len=0
 ·exact Or.inl hz
 right
 obtain ⟨b,off,spot⟩:=a
 have hspot:spot=none:=by
  obtain ⟨vs,-,hlen,hcell⟩:=hf 0 (by omega)
  have g:=hcell 0 h0
  rw [List.getElem?_eq_getElem (by omega)] at g
  simpa [Addr.add] using World.cell?_spot g
 subst hspot
 refine ⟨b,off,rfl,fun i hi=>?_⟩
 obtain ⟨vs,hR,-,hcell⟩:=hf i hi
 refine ⟨vs,?_,fun j hj=>?_⟩
 ·have:nth d ((List.range len).map f) i=f i:=by rw [nth_get (by simpa using hi)];simp
  rw [this];exact hR
 ·have:=hcell j hj
  rw [add_add,add_plain,←Nat.add_assoc] at this
  exact this
theorem open_ty {fuel:Nat} {cs:List Value} {x:DataW H×List MemPlace} (h:DataW.trod enc Tryz.prog w base spare held fuel 46 cs=some x) :
  ∃t:Ty,(cs[0]?=some (.int .i64 t.kind)∧cs[1]?=some (.int .i64 t.cls))∧I64 t.kind∧I64 t.cls:=by
 obtain ⟨xs,n,rfl,rfl,hl,hn,hf⟩:=DataW.trod_struct Tryz.underlying46 h
 have hn':xs.length=2:=hn
 obtain ⟨k,h0,w0⟩:=fld_int Tryz.underlying3 cellsInt (by simp [hn']) (hf 0 _ rfl)
 obtain ⟨c,h1,w1⟩:=fld_int Tryz.underlying3 cellsInt (by simp [hn']) (hf 1 _ rfl)
 exact ⟨⟨k,c⟩,⟨h0,h1⟩,w0,w1⟩
theorem open_tys {fuel:Nat} {cs:List Value} {x:DataW H×List MemPlace} (h:DataW.trod enc Tryz.prog w base spare held fuel 44 cs=some x) :
  ∃(A:Option Addr) (l:List Ty) (c:Nat),cs=[.slice A l.length c]∧TysAt w A l:=by
 obtain ⟨A,l,c,rfl,hm,hr⟩:=open_row ty0 Tryz.underlying44 cellsTy (by omega) (fun _ _ _=>open_ty) h
 rcases hr with h0|⟨b,off,rfl,hi⟩
 ·exact ⟨A,l,c,rfl,hm,Or.inl h0⟩
 refine ⟨_,l,c,rfl,hm,Or.inr ⟨b,off,rfl,fun i hlt=>?_⟩⟩
 obtain ⟨vs,⟨⟨h0,h1⟩,w0,w1⟩,hc⟩:=hi i hlt
 exact ⟨(hc 0 (by omega)).trans h0,(hc 1 (by omega)).trans h1,w0,w1⟩
theorem fld_tys {fuel o:Nat} {cs:List Value} {y:Option (DataW H×List MemPlace)} (hy:y≠none)
  (h:DataW.trod enc Tryz.prog w base spare held fuel 44 ((cs.drop o).take (Tryz.prog.cellsOf 44))=y):∃(A:Option Addr) (l:List Ty) (c:Nat),cs[o]?=some (.slice A l.length c)∧TysAt w A l:=by
 obtain ⟨x,rfl⟩:=Option.ne_none_iff_exists'.1 hy
 obtain ⟨A,l,c,hn,hT⟩:=open_tys h
 rw [cellsTys] at hn
 exact ⟨A,l,c,take_one hn,hT⟩
theorem open_cl {fuel:Nat} {cs:List Value} {x:DataW H×List MemPlace} (h:DataW.trod enc Tryz.prog w base spare held fuel 131 cs=some x) :
  ∃t:Cl,cs[0]?=some (.int .i64 t.super)∧I64 t.super∧∃A c,cs[1]?=some (.slice A t.fields.length c)∧TysAt w A t.fields:=by
 obtain ⟨xs,n,rfl,rfl,hl,hn,hf⟩:=DataW.trod_struct Tryz.underlying131 h
 have hn':xs.length=2:=hn
 obtain ⟨k,h0,w0⟩:=fld_int Tryz.underlying3 cellsInt (by simp [hn']) (hf 0 _ rfl)
 obtain ⟨A,l,c,h1,w1⟩:=fld_tys (by simp [hn']) (hf 1 _ rfl)
 exact ⟨⟨k,l⟩,h0,w0,A,c,h1,w1⟩
theorem open_cls {fuel:Nat} {cs:List Value} {x:DataW H×List MemPlace} (h:DataW.trod enc Tryz.prog w base spare held fuel 22 cs=some x) :
  ∃(A:Option Addr) (l:List Cl) (c:Nat),cs=[.slice A l.length c]∧ClsAt w A l:=by
 obtain ⟨A,l,c,rfl,hm,hr⟩:=open_row cl0 Tryz.underlying22 cellsCl (by omega) (fun _ _ _=>open_cl) h
 rcases hr with h0|⟨b,off,rfl,hi⟩
 ·exact ⟨A,l,c,rfl,hm,Or.inl h0⟩
 refine ⟨_,l,c,rfl,hm,Or.inr ⟨b,off,rfl,fun i hlt=>?_⟩⟩
 obtain ⟨vs,⟨h0,w0,A',c',h1,w1⟩,hc⟩:=hi i hlt
 exact ⟨(hc 0 (by omega)).trans h0,w0,A',c',(hc 1 (by omega)).trans h1,w1⟩
end
end
section
open Go.ChangeShapes Go.WideShapes Go.ChangeAt Go.RowKit Go.Deep
theorem cellsLong:Tryz.prog.cellsOf 2=1:=by kernel_rfl
theorem cellsInts:Tryz.prog.cellsOf 56=1:=by kernel_rfl
theorem cellsIn:Tryz.prog.cellsOf 58=6:=by kernel_rfl
theorem cellsIns:Tryz.prog.cellsOf 47=1:=by kernel_rfl
theorem cellsHd:Tryz.prog.cellsOf 98=4:=by kernel_rfl
theorem cellsHds:Tryz.prog.cellsOf 48=1:=by kernel_rfl
theorem cellsMe:Tryz.prog.cellsOf 50=8:=by kernel_rfl
theorem cellsMes:Tryz.prog.cellsOf 23=1:=by kernel_rfl
theorem cellsCls:Tryz.prog.cellsOf 22=1:=by kernel_rfl
theorem cellsFi:Tryz.prog.cellsOf 25=2:=by kernel_rfl
section
variable {H:Type} {enc:TypeId×Value→H} {w:World} {base:Nat} {spare:Nat→Bool} {held:Bool}
theorem open_ints' {fuel:Nat} {cs:List Value} {x:DataW H×List MemPlace} (h:DataW.trod enc Tryz.prog w base spare held fuel 56 cs=some x) :
  ∃(A:Option Addr) (l:List Int) (c:Nat),cs=[.slice A l.length c]∧IntsAt w A l:=by
 obtain ⟨A,l,c,rfl,hm,hr⟩:=open_row (0:Int) (R:=fun (n:Int) cs=>cs[0]?=some (.int .i64 n)∧I64 n) Tryz.underlying56 cellsInt (by omega)
  (fun _ _ _ hh=>by obtain ⟨n,rfl,-,hw⟩:=DataW.trod_int Tryz.underlying3 hh;exact ⟨n,rfl,bounds_i64 hw⟩) h
 rcases hr with h0|⟨b,off,rfl,hi⟩
 ·exact ⟨A,l,c,rfl,hm,Or.inl h0⟩
 refine ⟨_,l,c,rfl,hm,Or.inr ⟨b,off,rfl,fun i hlt=>?_⟩⟩
 obtain ⟨vs,⟨h0,w0⟩,hc⟩:=hi i hlt
 have:=(hc 0 (by omega)).trans h0
 rw [Nat.mul_one,Nat.add_zero] at this
 exact ⟨this,w0⟩
theorem open_in {fuel:Nat} {cs:List Value} {x:DataW H×List MemPlace} (h:DataW.trod enc Tryz.prog w base spare held fuel 58 cs=some x) :
  ∃t:In,cs[0]?=some (.int .i64 t.op)∧cs[1]?=some (.int .i64 t.a)∧cs[2]?=some (.int .i64 t.b)∧cs[3]?=some (.int .i64 t.c)∧cs[4]?=some (.int .i64 t.n)∧t.ok
   ∧ ∃A c,cs[5]?=some (.slice A t.args.length c)∧IntsAt w A t.args:=by
 obtain ⟨xs,n,rfl,rfl,hl,hn,hf⟩:=DataW.trod_struct Tryz.underlying58 h
 have hn':xs.length=6:=hn
 obtain ⟨k0,h0,w0⟩:=fld_int Tryz.underlying3 cellsInt (by simp [hn']) (hf 0 _ rfl)
 obtain ⟨k1,h1,w1⟩:=fld_int Tryz.underlying3 cellsInt (by simp [hn']) (hf 1 _ rfl)
 obtain ⟨k2,h2,w2⟩:=fld_int Tryz.underlying3 cellsInt (by simp [hn']) (hf 2 _ rfl)
 obtain ⟨k3,h3,w3⟩:=fld_int Tryz.underlying3 cellsInt (by simp [hn']) (hf 3 _ rfl)
 obtain ⟨k4,h4,w4⟩:=fld_int Tryz.underlying2 cellsLong (by simp [hn']) (hf 4 _ rfl)
 obtain ⟨y,hy⟩:=Option.ne_none_iff_exists'.1 (show xs[5]?≠none by simp [hn'])
 have h5:=hf 5 _ rfl
 rw [hy] at h5
 obtain ⟨A,l,c,hn,hT⟩:=open_ints' h5
 exact ⟨⟨k0,k1,k2,k3,k4,l⟩,h0,h1,h2,h3,h4,⟨w0,w1,w2,w3,w4⟩,A,c,take_one (cellsInts▸hn),hT⟩
theorem open_ins {fuel:Nat} {cs:List Value} {x:DataW H×List MemPlace} (h:DataW.trod enc Tryz.prog w base spare held fuel 47 cs=some x) :
  ∃(A:Option Addr) (l:List In) (c:Nat),cs=[.slice A l.length c]∧InsAt w A l:=by
 obtain ⟨A,l,c,rfl,hm,hr⟩:=open_row in0 Tryz.underlying47 cellsIn (by omega) (fun _ _ _=>open_in) h
 rcases hr with h0|⟨b,off,rfl,hi⟩
 ·exact ⟨A,l,c,rfl,hm,Or.inl h0⟩
 refine ⟨_,l,c,rfl,hm,Or.inr ⟨b,off,rfl,fun i hlt=>?_⟩⟩
 obtain ⟨vs,⟨h0,h1,h2,h3,h4,w0,A',c',h5,w1⟩,hc⟩:=hi i hlt
 exact ⟨(hc 0 (by omega)).trans h0,(hc 1 (by omega)).trans h1,(hc 2 (by omega)).trans h2,(hc 3 (by omega)).trans h3,(hc 4 (by omega)).trans h4,w0,A',c',(hc 5 (by omega)).trans h5,w1⟩
theorem open_hd {fuel:Nat} {cs:List Value} {x:DataW H×List MemPlace} (h:DataW.trod enc Tryz.prog w base spare held fuel 98 cs=some x) :
  ∃t:Hd,cs[0]?=some (.int .i64 t.fr)∧cs[1]?=some (.int .i64 t.til)∧cs[2]?=some (.int .i64 t.pc)∧cs[3]?=some (.int .i64 t.cls)∧t.ok:=by
 obtain ⟨xs,n,rfl,rfl,hl,hn,hf⟩:=DataW.trod_struct Tryz.underlying98 h
 have hn':xs.length=4:=hn
 obtain ⟨k0,h0,w0⟩:=fld_int Tryz.underlying3 cellsInt (by simp [hn']) (hf 0 _ rfl)
 obtain ⟨k1,h1,w1⟩:=fld_int Tryz.underlying3 cellsInt (by simp [hn']) (hf 1 _ rfl)
 obtain ⟨k2,h2,w2⟩:=fld_int Tryz.underlying3 cellsInt (by simp [hn']) (hf 2 _ rfl)
 obtain ⟨k3,h3,w3⟩:=fld_int Tryz.underlying3 cellsInt (by simp [hn']) (hf 3 _ rfl)
 exact ⟨⟨k0,k1,k2,k3⟩,h0,h1,h2,h3,w0,w1,w2,w3⟩
theorem open_hds {fuel:Nat} {cs:List Value} {x:DataW H×List MemPlace} (h:DataW.trod enc Tryz.prog w base spare held fuel 48 cs=some x) :
  ∃(A:Option Addr) (l:List Hd) (c:Nat),cs=[.slice A l.length c]∧HdsAt w A l:=by
 obtain ⟨A,l,c,rfl,hm,hr⟩:=open_row hd0 Tryz.underlying48 cellsHd (by omega) (fun _ _ _=>open_hd) h
 rcases hr with h0|⟨b,off,rfl,hi⟩
 ·exact ⟨A,l,c,rfl,hm,Or.inl h0⟩
 refine ⟨_,l,c,rfl,hm,Or.inr ⟨b,off,rfl,fun i hlt=>?_⟩⟩
 obtain ⟨vs,⟨h0,h1,h2,h3,w0⟩,hc⟩:=hi i hlt
 exact ⟨(hc 0 (by omega)).trans h0,(hc 1 (by omega)).trans h1,(hc 2 (by omega)).trans h2,(hc 3 (by omega)).trans h3,w0⟩
theorem open_me {fuel:Nat} {cs:List Value} {x:DataW H×List MemPlace} (h:DataW.trod enc Tryz.prog w base spare held fuel 50 cs=some x) :
  ∃t:Me,∃P C K p c k,cs[0]?=some (.slice P t.params.length p)∧cs[1]?=some (.int .i64 t.ret.kind)∧cs[2]?=some (.int .i64 t.ret.cls)∧cs[3]?=some (.int .i64 t.stack)∧cs[4]?=some (.int .i64 t.locs)∧cs[5]?=some (.int .i64 t.regs)
   ∧ cs[6]?=some (.slice C t.code.length c)∧cs[7]?=some (.slice K t.hands.length k)∧MeAt w t P C K:=by
 obtain ⟨xs,n,rfl,rfl,hl,hn,hf⟩:=DataW.trod_struct Tryz.underlying50 h
 have hn':xs.length=7:=hn
 obtain ⟨P,lp,p,h0,w0⟩:=fld_tys (by simp [hn']) (hf 0 _ rfl)
 obtain ⟨k2,h2,w2⟩:=fld_int Tryz.underlying3 cellsInt (by simp [hn']) (hf 2 _ rfl)
 obtain ⟨k3,h3,w3⟩:=fld_int Tryz.underlying3 cellsInt (by simp [hn']) (hf 3 _ rfl)
 obtain ⟨k4,h4,w4⟩:=fld_int Tryz.underlying3 cellsInt (by simp [hn']) (hf 4 _ rfl)
 obtain ⟨y,hy⟩:=Option.ne_none_iff_exists'.1 (show xs[5]?≠none by simp [hn'])
 have h5:=hf 5 _ rfl
 rw [hy] at h5
 obtain ⟨C,lc,c,hn5,hT5⟩:=open_ins h5
 obtain ⟨y,hy⟩:=Option.ne_none_iff_exists'.1 (show xs[6]?≠none by simp [hn'])
 have h6:=hf 6 _ rfl
 rw [hy] at h6
 obtain ⟨K,lk,k,hn6,hT6⟩:=open_hds h6
 obtain ⟨y,hy⟩:=Option.ne_none_iff_exists'.1 (show xs[1]?≠none by simp [hn'])
 have h1:=hf 1 _ rfl
 rw [hy] at h1
 obtain ⟨r,⟨hr0,hr1⟩,v0,v1⟩:=open_ty h1
 have hr0':((cs.drop 1).take (Tryz.prog.cellsOf 46))[0]?=some (.int .i64 r.kind):=hr0
 have hr1':((cs.drop 1).take (Tryz.prog.cellsOf 46))[1]?=some (.int .i64 r.cls):=hr1
 rw [cellsTy] at hr0' hr1'
 refine ⟨⟨lp,r,k2,k3,k4,lc,lk⟩,P,C,K,p,c,k,h0,?_,?_,h2,h3,h4,take_one (cellsIns▸hn5),take_one (cellsHds▸hn6),w0,hT5,hT6,v0,v1,w2,w3,w4⟩
 ·simpa [List.getElem?_take,List.getElem?_drop] using hr0'
 ·simpa [List.getElem?_take,List.getElem?_drop] using hr1'
theorem open_mes {fuel:Nat} {cs:List Value} {x:DataW H×List MemPlace} (h:DataW.trod enc Tryz.prog w base spare held fuel 23 cs=some x) :
  ∃(A:Option Addr) (l:List Me) (c:Nat),cs=[.slice A l.length c]∧MesAt w A l:=by
 obtain ⟨A,l,c,rfl,hm,hr⟩:=open_row me0 Tryz.underlying23 cellsMe (by omega) (fun _ _ _=>open_me) h
 rcases hr with h0|⟨b,off,rfl,hi⟩
 ·exact ⟨A,l,c,rfl,hm,Or.inl h0⟩
 refine ⟨_,l,c,rfl,hm,Or.inr ⟨b,off,rfl,fun i hlt=>?_⟩⟩
 obtain ⟨vs,⟨P,C,K,p,c,k,h0,h1,h2,h3,h4,h5,h6,h7,w1⟩,hc⟩:=hi i hlt
 exact ⟨P,C,K,p,c,k,(hc 0 (by omega)).trans h0,(hc 1 (by omega)).trans h1,(hc 2 (by omega)).trans h2,(hc 3 (by omega)).trans h3,(hc 4 (by omega)).trans h4,(hc 5 (by omega)).trans h5,(hc 6 (by omega)).trans h6,(hc 7 (by omega)).trans h7,w1⟩
theorem open_file {fuel:Nat} {cs:List Value} {x:DataW H×List MemPlace} (h:DataW.trod enc Tryz.prog w base spare held fuel 25 cs=some x) :
  ∃(f:Fi) (A B:Option Addr) (a b:Nat),cs=[.slice A f.classes.length a,.slice B f.methods.length b]∧ClsAt w A f.classes∧MesAt w B f.methods:=by
 obtain ⟨xs,n,rfl,rfl,hl,hn,hf⟩:=DataW.trod_struct Tryz.underlying25 h
 have hn':xs.length=2:=hn
 rw [cellsFi] at hl
 obtain ⟨y,hy⟩:=Option.ne_none_iff_exists'.1 (show xs[0]?≠none by simp [hn'])
 have h0:=hf 0 _ rfl
 rw [hy] at h0
 obtain ⟨A,l,a,hA,hT⟩:=open_cls h0
 obtain ⟨y,hy⟩:=Option.ne_none_iff_exists'.1 (show xs[1]?≠none by simp [hn'])
 have h1:=hf 1 _ rfl
 rw [hy] at h1
 obtain ⟨B,m,b,hB,hM⟩:=open_mes h1
 have e0:cs[0]?=some (.slice A l.length a):=take_one (cellsCls▸hA)
 have e1:cs[1]?=some (.slice B m.length b):=take_one (cellsMes▸hB)
 match cs,hl with
 | [u,v],_ =>
  simp at e0 e1
  subst e0 e1
  exact ⟨⟨l,m⟩,A,B,a,b,rfl,hT,hM⟩
end
end
section
open Go.ChangeShapes Go.WideShapes Go.ChangeAt Go.RowKit Go.Deep
variable {H:Type} {enc:TypeId×Value→H} {w:World} {base:Nat} {spare:Nat→Bool} {held:Bool}
theorem open_longs {fuel:Nat} {cs:List Value} {x:DataW H×List MemPlace} (h:DataW.trod enc Tryz.prog w base spare held fuel 26 cs=some x) :
  ∃(A:Option Addr) (l:List Int) (c:Nat),cs=[.slice A l.length c]∧IntsAt w A l:=by
 obtain ⟨A,l,c,rfl,hm,hr⟩:=open_row (0:Int) (R:=fun (n:Int) cs=>cs[0]?=some (.int .i64 n)∧I64 n) Tryz.underlying26 cellsLong (by omega)
  (fun _ _ _ hh=>by obtain ⟨n,rfl,-,hw⟩:=DataW.trod_int Tryz.underlying2 hh;exact ⟨n,rfl,bounds_i64 hw⟩) h
 rcases hr with h0|⟨b,off,rfl,hi⟩
 ·exact ⟨A,l,c,rfl,hm,Or.inl h0⟩
 refine ⟨_,l,c,rfl,hm,Or.inr ⟨b,off,rfl,fun i hlt=>?_⟩⟩
 obtain ⟨vs,⟨h0,w0⟩,hc⟩:=hi i hlt
 have:=(hc 0 (by omega)).trans h0
 rw [Nat.mul_one,Nat.add_zero] at this
 exact ⟨this,w0⟩
end
end Go.Proofs.YtgiiapenmjollabGreat
