import Derived.Test.YtgiiapenmjollaaGreatSras
namespace Go.Proofs.YtgiiapenmjollaaGreat
set_option linter.all false
set_option maxHeartbeats 40000000
set_option maxRecDepth 100000
open Go.RowKit
open Go.Value (int)
open Go.IntKind (i64)
variable {cs:List Value} {fuel:Nat}
section
open Go.ChangeShapes Go.WideShapes Go.ChangeAt Go.RowKit Go.Deep
theorem sP:Tryz.prog.cellsOf 2=1:=by kernel_rfl
theorem CH:Tryz.prog.cellsOf 53=1:=by kernel_rfl
theorem cellsIn:Tryz.prog.cellsOf 55=6:=by kernel_rfl
theorem FQ:Tryz.prog.cellsOf 46=1:=by kernel_rfl
theorem JY:Tryz.prog.cellsOf 108=4:=by kernel_rfl
theorem FR:Tryz.prog.cellsOf 47=1:=by kernel_rfl
theorem JZ:Tryz.prog.cellsOf 49=8:=by kernel_rfl
theorem FT:Tryz.prog.cellsOf 23=1:=by kernel_rfl
theorem FU:Tryz.prog.cellsOf 22=1:=by kernel_rfl
theorem Ju:Tryz.prog.cellsOf 25=2:=by kernel_rfl
section
variable {H:Type} {enc:TypeId×Value->H} {w:World} {base:Nat} {spare:Nat->Bool} {held:Bool}
theorem yY {x:DataW H×List MemPlace} (h:DataW.trod enc Tryz.prog w base spare held fuel 53 cs=some x) :
  ∃(A:Option Addr) (l:List Int) (c:Nat),cs=[.slice A l.length c]/\cL w A l:=by
 obtain ⟨A,l,c,rfl,hm,hr⟩:=jr (0:Int) (R:=fun (n:Int) cs=>cs[0]?=some (.int .i64 n)/\cP n) Tryz.underlying53 dI (by omega)
  (fun _ _ _ hh=>by obtain ⟨n,rfl,-,hw⟩:=DataW.trod_int Tryz.underlying3 hh;exact ⟨n,rfl,bounds_i64 hw⟩) h
 rcases hr with h0|⟨b,off,rfl,hi⟩
 ·exact ⟨A,l,c,rfl,hm,Or.inl h0⟩
 refine ⟨_,l,c,rfl,hm,Or.inr ⟨b,off,rfl,fun i hlt=>?_⟩⟩
 obtain ⟨vs,⟨h0,w0⟩,hc⟩:=hi i hlt
 have:=(hc 0 (by omega)).trans h0
 rw [Nat.mul_one,Nat.add_zero] at this
 exact ⟨this,w0⟩
theorem J0 {x:DataW H×List MemPlace} (h:DataW.trod enc Tryz.prog w base spare held fuel 55 cs=some x) :
  ∃t:In,cs[0]?=some (.int .i64 t.op)/\cs[1]?=some (.int .i64 t.a)/\cs[2]?=some (.int .i64 t.b)/\cs[3]?=some (.int .i64 t.c)/\cs[4]?=some (.int .i64 t.n)/\t.ok
   /\ ∃A c,cs[5]?=some (.slice A t.args.length c)/\cL w A t.args:=by
 obtain ⟨xs,n,rfl,rfl,hl,hn,hf⟩:=DataW.trod_struct Tryz.underlying55 h
 have kV:xs.length=6:=hn
 obtain ⟨k0,h0,w0⟩:=eN Tryz.underlying3 dI (by simp [kV]) (hf 0 _ rfl)
 obtain ⟨k1,h1,w1⟩:=eN Tryz.underlying3 dI (by simp [kV]) (hf 1 _ rfl)
 obtain ⟨k2,h2,w2⟩:=eN Tryz.underlying3 dI (by simp [kV]) (hf 2 _ rfl)
 obtain ⟨k3,h3,w3⟩:=eN Tryz.underlying3 dI (by simp [kV]) (hf 3 _ rfl)
 obtain ⟨k4,h4,w4⟩:=eN Tryz.underlying2 sP (by simp [kV]) (hf 4 _ rfl)
 obtain ⟨y,hy⟩:=Option.ne_none_iff_exists'.1 (show xs[5]?≠none by simp [kV])
 have h5:=hf 5 _ rfl
 rw [hy] at h5
 obtain ⟨A,l,c,hn,hT⟩:=yY h5
 exact ⟨⟨k0,k1,k2,k3,k4,l⟩,h0,h1,h2,h3,h4,⟨w0,w1,w2,w3,w4⟩,A,c,take_one (CH▸hn),hT⟩
theorem FV {x:DataW H×List MemPlace} (h:DataW.trod enc Tryz.prog w base spare held fuel 46 cs=some x) :
  ∃(A:Option Addr) (l:List In) (c:Nat),cs=[.slice A l.length c]/\oK w A l:=by
 obtain ⟨A,l,c,rfl,hm,hr⟩:=jr fW Tryz.underlying46 cellsIn (by omega) (fun _ _ _=>J0) h
 rcases hr with h0|⟨b,off,rfl,hi⟩
 ·exact ⟨A,l,c,rfl,hm,Or.inl h0⟩
 refine ⟨_,l,c,rfl,hm,Or.inr ⟨b,off,rfl,fun i hlt=>?_⟩⟩
 obtain ⟨vs,⟨h0,h1,h2,h3,h4,w0,A',c',h5,w1⟩,hc⟩:=hi i hlt
 exact ⟨(hc 0 (by omega)).trans h0,(hc 1 (by omega)).trans h1,(hc 2 (by omega)).trans h2,(hc 3 (by omega)).trans h3,(hc 4 (by omega)).trans h4,w0,A',c',(hc 5 (by omega)).trans h5,w1⟩
theorem J1 {x:DataW H×List MemPlace} (h:DataW.trod enc Tryz.prog w base spare held fuel 108 cs=some x) :
  ∃t:Hd,cs[0]?=some (.int .i64 t.fr)/\cs[1]?=some (.int .i64 t.til)/\cs[2]?=some (.int .i64 t.pc)/\cs[3]?=some (.int .i64 t.cls)/\t.ok:=by
 obtain ⟨xs,n,rfl,rfl,hl,hn,hf⟩:=DataW.trod_struct Tryz.underlying108 h
 have kV:xs.length=4:=hn
 obtain ⟨k0,h0,w0⟩:=eN Tryz.underlying3 dI (by simp [kV]) (hf 0 _ rfl)
 obtain ⟨k1,h1,w1⟩:=eN Tryz.underlying3 dI (by simp [kV]) (hf 1 _ rfl)
 obtain ⟨k2,h2,w2⟩:=eN Tryz.underlying3 dI (by simp [kV]) (hf 2 _ rfl)
 obtain ⟨k3,h3,w3⟩:=eN Tryz.underlying3 dI (by simp [kV]) (hf 3 _ rfl)
 exact ⟨⟨k0,k1,k2,k3⟩,h0,h1,h2,h3,w0,w1,w2,w3⟩
theorem FW {x:DataW H×List MemPlace} (h:DataW.trod enc Tryz.prog w base spare held fuel 47 cs=some x) :
  ∃(A:Option Addr) (l:List Hd) (c:Nat),cs=[.slice A l.length c]/\kQ w A l:=by
 obtain ⟨A,l,c,rfl,hm,hr⟩:=jr eD Tryz.underlying47 JY (by omega) (fun _ _ _=>J1) h
 rcases hr with h0|⟨b,off,rfl,hi⟩
 ·exact ⟨A,l,c,rfl,hm,Or.inl h0⟩
 refine ⟨_,l,c,rfl,hm,Or.inr ⟨b,off,rfl,fun i hlt=>?_⟩⟩
 obtain ⟨vs,⟨h0,h1,h2,h3,w0⟩,hc⟩:=hi i hlt
 exact ⟨(hc 0 (by omega)).trans h0,(hc 1 (by omega)).trans h1,(hc 2 (by omega)).trans h2,(hc 3 (by omega)).trans h3,w0⟩
theorem J2 {x:DataW H×List MemPlace} (h:DataW.trod enc Tryz.prog w base spare held fuel 49 cs=some x) :
  ∃t:Me,∃P C K p c k,cs[0]?=some (.slice P t.params.length p)/\cs[1]?=some (.int .i64 t.ret.kind)/\cs[2]?=some (.int .i64 t.ret.cls)/\cs[3]?=some (.int .i64 t.stack)/\cs[4]?=some (.int .i64 t.locs)/\cs[5]?=some (.int .i64 t.regs)
   /\ cs[6]?=some (.slice C t.code.length c)/\cs[7]?=some (.slice K t.hands.length k)/\kZ w t P C K:=by
 obtain ⟨xs,n,rfl,rfl,hl,hn,hf⟩:=DataW.trod_struct Tryz.underlying49 h
 have kV:xs.length=7:=hn
 obtain ⟨P,lp,p,h0,w0⟩:=Ar (by simp [kV]) (hf 0 _ rfl)
 obtain ⟨k2,h2,w2⟩:=eN Tryz.underlying3 dI (by simp [kV]) (hf 2 _ rfl)
 obtain ⟨k3,h3,w3⟩:=eN Tryz.underlying3 dI (by simp [kV]) (hf 3 _ rfl)
 obtain ⟨k4,h4,w4⟩:=eN Tryz.underlying3 dI (by simp [kV]) (hf 4 _ rfl)
 obtain ⟨y,hy⟩:=Option.ne_none_iff_exists'.1 (show xs[5]?≠none by simp [kV])
 have h5:=hf 5 _ rfl
 rw [hy] at h5
 obtain ⟨C,lc,c,Xe,Xf⟩:=FV h5
 obtain ⟨y,hy⟩:=Option.ne_none_iff_exists'.1 (show xs[6]?≠none by simp [kV])
 have h6:=hf 6 _ rfl
 rw [hy] at h6
 obtain ⟨K,lk,k,Xg,Xh⟩:=FW h6
 obtain ⟨y,hy⟩:=Option.ne_none_iff_exists'.1 (show xs[1]?≠none by simp [kV])
 have h1:=hf 1 _ rfl
 rw [hy] at h1
 obtain ⟨r,⟨yq,ND⟩,v0,v1⟩:=Aq h1
 have Pm:((cs.drop 1).take (Tryz.prog.cellsOf 45))[0]?=some (.int .i64 r.kind):=yq
 have Pn:((cs.drop 1).take (Tryz.prog.cellsOf 45))[1]?=some (.int .i64 r.cls):=ND
 rw [Ap] at Pm Pn
 refine ⟨⟨lp,r,k2,k3,k4,lc,lk⟩,P,C,K,p,c,k,h0,?_,?_,h2,h3,h4,take_one (FQ▸Xe),take_one (FR▸Xg),w0,Xf,Xh,v0,v1,w2,w3,w4⟩
 ·simpa [List.getElem?_take,List.getElem?_drop] using Pm
 ·simpa [List.getElem?_take,List.getElem?_drop] using Pn
theorem FX {x:DataW H×List MemPlace} (h:DataW.trod enc Tryz.prog w base spare held fuel 23 cs=some x) :
  ∃(A:Option Addr) (l:List Me) (c:Nat),cs=[.slice A l.length c]/\eE w A l:=by
 obtain ⟨A,l,c,rfl,hm,hr⟩:=jr bO Tryz.underlying23 JZ (by omega) (fun _ _ _=>J2) h
 rcases hr with h0|⟨b,off,rfl,hi⟩
 ·exact ⟨A,l,c,rfl,hm,Or.inl h0⟩
 refine ⟨_,l,c,rfl,hm,Or.inr ⟨b,off,rfl,fun i hlt=>?_⟩⟩
 obtain ⟨vs,⟨P,C,K,p,c,k,h0,h1,h2,h3,h4,h5,h6,h7,w1⟩,hc⟩:=hi i hlt
 exact ⟨P,C,K,p,c,k,(hc 0 (by omega)).trans h0,(hc 1 (by omega)).trans h1,(hc 2 (by omega)).trans h2,(hc 3 (by omega)).trans h3,(hc 4 (by omega)).trans h4,(hc 5 (by omega)).trans h5,(hc 6 (by omega)).trans h6,(hc 7 (by omega)).trans h7,w1⟩
theorem CI {x:DataW H×List MemPlace} (h:DataW.trod enc Tryz.prog w base spare held fuel 25 cs=some x) :
  ∃(f:Fi) (A B:Option Addr) (a b:Nat),cs=[.slice A f.classes.length a,.slice B f.methods.length b]/\ct w A f.classes/\eE w B f.methods:=by
 obtain ⟨xs,n,rfl,rfl,hl,hn,hf⟩:=DataW.trod_struct Tryz.underlying25 h
 have kV:xs.length=2:=hn
 rw [Ju] at hl
 obtain ⟨y,hy⟩:=Option.ne_none_iff_exists'.1 (show xs[0]?≠none by simp [kV])
 have h0:=hf 0 _ rfl
 rw [hy] at h0
 obtain ⟨A,l,a,hA,hT⟩:=FP h0
 obtain ⟨y,hy⟩:=Option.ne_none_iff_exists'.1 (show xs[1]?≠none by simp [kV])
 have h1:=hf 1 _ rfl
 rw [hy] at h1
 obtain ⟨B,m,b,hB,hM⟩:=FX h1
 have e0:cs[0]?=some (.slice A l.length a):=take_one (FU▸hA)
 have e1:cs[1]?=some (.slice B m.length b):=take_one (FT▸hB)
 match cs,hl with
 | [u,v],_ =>
  simp at e0 e1
  subst e0 e1
  exact ⟨⟨l,m⟩,A,B,a,b,rfl,hT,hM⟩
end
end
section
open Go.ChangeShapes Go.WideShapes Go.ChangeAt Go.RowKit Go.Deep
variable {H:Type} {enc:TypeId×Value->H} {w:World} {base:Nat} {spare:Nat->Bool} {held:Bool}
theorem qV {x:DataW H×List MemPlace} (h:DataW.trod enc Tryz.prog w base spare held fuel 26 cs=some x) :
  ∃(A:Option Addr) (l:List Int) (c:Nat),cs=[.slice A l.length c]/\cL w A l:=by
 obtain ⟨A,l,c,rfl,hm,hr⟩:=jr (0:Int) (R:=fun (n:Int) cs=>cs[0]?=some (.int .i64 n)/\cP n) Tryz.underlying26 sP (by omega)
  (fun _ _ _ hh=>by obtain ⟨n,rfl,-,hw⟩:=DataW.trod_int Tryz.underlying2 hh;exact ⟨n,rfl,bounds_i64 hw⟩) h
 rcases hr with h0|⟨b,off,rfl,hi⟩
 ·exact ⟨A,l,c,rfl,hm,Or.inl h0⟩
 refine ⟨_,l,c,rfl,hm,Or.inr ⟨b,off,rfl,fun i hlt=>?_⟩⟩
 obtain ⟨vs,⟨h0,w0⟩,hc⟩:=hi i hlt
 have:=(hc 0 (by omega)).trans h0
 rw [Nat.mul_one,Nat.add_zero] at this
 exact ⟨this,w0⟩
end
end Go.Proofs.YtgiiapenmjollaaGreat
