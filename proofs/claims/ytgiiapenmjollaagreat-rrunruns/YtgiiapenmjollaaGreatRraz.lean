import Derived.Test.YtgiiapenmjollaaGreatRraq
import Derived.Test.YtgiiapenmjollaaGreatRrar
import Derived.Deep.AppendLies
import Derived.Deep.RegionLaw
namespace Go.Proofs.YtgiiapenmjollaaGreat
set_option linter.all false
set_option maxHeartbeats 40000000
set_option maxRecDepth 100000
open Go.RowKit
open Tryz
variable {c:aL} {h:Hp} {L:List Kl} {g:Mg} {b s:Nat} {Y Z:Nat->Prop} {w w' w0 w2 wx:World}
def ft (l:List Va) (fE:Nat):List Va->List Va
 | []=>l
 | v::k=>ft (jQ l fE v) (fE+bN [v]) k
theorem sD:∀(l:List Va) (l0:List Va) (fE:Nat) (v:Va),ft l0 fE (l++[v])=jQ (ft l0 fE l) (fE+bN l) v
 | [],l0,fE,v=>by simp [ft,bN]
 | x::l,l0,fE,v=>by
  show ft (jQ l0 fE x) (fE+bN [x]) (l++[v])=jQ (ft (jQ l0 fE x) (fE+bN [x]) l) (fE+bN (x::l)) v
  rw [sD l,kJ,Nat.add_assoc]
  rfl
theorem oj:∀(l:List Va) (l0:List Va) (fE:Nat),(ft l0 fE l).length=l0.length
 | [],l0,fE=>rfl
 | x::l,l0,fE=>by
  show (ft (jQ l0 fE x) (fE+bN [x]) l).length=_
  rw [oj l,wK]
theorem EM {l:List Va} {k:Nat} (h:k<l.length):l.take (k+1)=l.take k++[nth aE l k]:=by
 rw [List.take_add_one,cg h];simp [List.getElem?_eq_getElem h]
theorem Jl:∀(l:List Va),bN (l.map im)=bN l
 | []=>rfl
 | x::l=>by show (if (im x).kind=2 then 2 else 1)+bN (l.map im)=_;rw [Jl l,Be];rfl
theorem yq:∀(vs:List Va) (l k:List Va) (fE:Nat),mM l k->(∀v∈vs,1<=v.kind/\v.kind<=3)->fE+bN vs<=l.length->mM (dT l fE vs) (ft k fE (vs.map im))
 | [],l,k,fE,h,_,_=>h
 | v::vs,l,k,fE,h,hk,hs=>by
  have es:bN (v::vs)=(if v.kind=2 then 2 else 1)+bN vs:=rfl
  have hv:=hk v (List.mem_cons_self ..)
  show mM (dT (eL l fE v) (fE+bN [v]) vs) (ft (jQ k fE (im v)) (fE+bN [im v]) (vs.map im))
  have e1:bN [im v]=bN [v]:=by rw [kJ,kJ,Be]
  rw [e1]
  refine yq vs _ _ _ (h.sto (by rw [es] at hs;split at hs<;>omega) v hv (fun e=>by rw [es,if_pos e] at hs;omega)) (fun x hx=>hk x (List.mem_cons_of_mem _ hx)) ?_
  rw [kE,kJ]
  rw [es] at hs
  omega
theorem Pn (lb lc n N:Nat) (l:List Va) (v:Va) (w:World) (B:cu w lb l) (hN:l.length=N) (hn:n<N) (hl:N<=1000) (h2:v.kind=2->n+1<N) :
  χ 84 #[.slice (some ⟨lb,0,none⟩) N lc,ι (n:Int),cm v] w fun e w'=>e=.returned (.tuple #[])/\cu w' lb (jQ l n v)/\w.grownBy w' (some lb):=by
 subst hN
 by_cases hk:v.kind=2
 ·unfold jQ;rw [if_pos hk];exact qW lb lc n l v w B (h2 hk) hl hk
 ·unfold jQ;rw [if_neg hk];exact tv lb lc n l v w B hn hl hk
theorem wj (N:Nat) (us:List Va) (b cap:Nat) (w:World) (B:cu w b us) (hN:N<=1000) (nh:bN us<=N) (hk:∀v∈us,1<=v.kind/\v.kind<=3) :
  χ 39 #[ι (N:Int),.slice (some ⟨b,0,none⟩) us.length cap] w fun e w'=>e=.returned (.slice (some ⟨w.heap.size,0,none⟩) N N)/\cu w' w.heap.size (ft (List.replicate N aE) 0 us)/\Bl w w':=by
 have hlen:us.length<=N:=by have:=Ki us;omega
 have NL:=Ks N (by omega)
 have HB:=ae B
 have HK:=ae hk
 have Vn:=ae nh
 have HS:Θ (Bl w (w.alloc (.cells (bh (List.replicate N aE)).toArray 100))/\cu (w.alloc (.cells (bh (List.replicate N aE)).toArray 100)) w.heap.size (ft (List.replicate N aE) 0 (us.take 0))) :=
  ⟨(Bl.refl w).alloc _,cu.new w _⟩
 clear B hk nh
 go_enter func39,ntmps39
 go_wp2
 go_loopw [6,13] (fun fE i wr=>∃j:Nat,j<=us.length/\i=ι j/\fE=ι ((bN (us.take j):Nat):Int)/\Θ (Bl w wr/\cu wr w.heap.size (ft (List.replicate N aE) 0 (us.take j)))) (fun _ i _=>us.length-(intOf i).toNat)
 case atStart=>exact ⟨0,Nat.zero_le _,rfl,by simp [bN],HS.o⟩
 case round =>
  clear HS NL
  obtain ⟨j,hj,rfl,rfl,HR⟩:=hrel
  by_cases ij:j<us.length
  ·have hB:=HB.o.bl HR.o.1
   have x0:=hB.c0 ij
   have x1:=hB.c1 ij
   have Vo:=EM ij
   have hv:=HK.o _ (bE (d:=aE) ij)
   generalize hV:nth aE us j=v at *
   have hsz:bN (us.take (j+1))=bN (us.take j)+(if v.kind=2 then 2 else 1):=by rw [Vo,jD,kJ]
   have hle:bN (us.take (j+1))<=N:=Nat.le_trans (lG us _) Vn.o
   have hwd:kx v.kind=(if v.kind=2 then 2 else 1:Nat):=by unfold kx;rw [if_neg (by omega)];split<;>rfl
   have HSZ:=ae hsz
   have hlt:bN (us.take j)<N:=by split at hsz<;>omega
   have h2:v.kind=2->bN (us.take j)+1<N:=fun e=>by rw [if_pos e] at hsz;omega
   have Vp:=ae Vo
   have HV:=ae hv
   have H2:=ae h2
   obtain ⟨S,hS⟩:∃S,bN (us.take j)=S:=⟨_,rfl⟩
   have XN:=ae hS
   obtain ⟨W,hW⟩:∃W,kx v.kind=W:=⟨_,rfl⟩
   have HW:=ae (hW.symm.trans hwd)
   have hWb:0<=W/\W<=2:=by rw [<-hW];exact lT _
   rw [hS]
   rw [hS] at hlt
   clear hB hsz hle hwd h2 Vo hv hV
   have bn:=aB wr #[ι v.kind,ι v.n] 100
   have JG:=ae bn
   have HNE:Θ (w.heap.size<wr.heap.size):=af HR.o.2.blk
   clear bn hS
   go_wp2_with (first
    | (go_at_call 84;refine (Pn w.heap.size N S N (ft (List.replicate N aE) 0 (us.take j)) v _ (HR.o.2.bl ((Bl.refl wr).alloc _)) (by rw [oj];simp) hlt hN (by rw [<-XN.o];exact H2.o)).mono ?_;rintro e w1 ⟨rfl,L1,G1⟩;have y0:=aO (aV G1 JG.o (fun e=>by have:=HNE.o;have:=Option.some.inj e;omega));have L1:=ae L1;have G1:=ae G1)
    | (go_at_call 85;refine (ml _ _).mono ?_;rintro e w2 ⟨he,bX⟩;rw [hW] at he;subst he;rw [bX];clear bX w2))
   go_roundw
   case rel =>
    have hS:=XN.o
    have hsz:=HSZ.o
    have hWW:=HW.o
    refine ⟨j+1,by omega,by go_num,?_,?_,?_⟩
    ·rw [hsz,hS,hWW];simp
    ·refine Below.grown (HR.o.1.trans ((Bl.refl wr).alloc _)) G1.o ?_ (fun k hk=>?_)
     ·exact (HR.o.1.trans ((Bl.refl wr).alloc _)).size
     ·cases hk;exact Nat.le_refl _
    ·rw [Vp.o,sD,Nat.zero_add,hS];exact L1.o
   case measure=>simp [intOf];omega
  ·obtain rfl:j=us.length:=by omega
   go_wp2
   go_ret
   have:=HR.o.2
   rw [List.take_length] at this
   exact ⟨rfl,this,HR.o.1⟩
theorem wm (k:Int) (N:Nat) (Po:k=(N:Int)) (us:List Va) (b cap:Nat) (w:World) (B:cu w b us) (hN:N<=1000) (nh:bN us<=N) (hk:∀v∈us,1<=v.kind/\v.kind<=3) :
  χ 39 #[ι k,.slice (some ⟨b,0,none⟩) us.length cap] w fun e w'=>e=.returned (.slice (some ⟨w.heap.size,0,none⟩) N N)/\cu w' w.heap.size (ft (List.replicate N aE) 0 us)/\Bl w w':=by
 subst Po;exact wj N us b cap w B hN nh hk
theorem pN:∀(l:List Va) (l0:List Va) (fE:Nat),(dT l0 fE l).length=l0.length
 | [],l0,fE=>rfl
 | x::l,l0,fE=>by
  show (dT (eL l0 fE x) (fE+bN [x]) l).length=_
  rw [pN l,kE]
theorem om {K:Act->World->Prop} {a:Act} (P:World->Prop) (hp:P w) (h:∀V,P V->K a V):K a w:=h w hp
def newRow (g:Mg) (m:Me) (P C J:Option Addr) (p c k lb N:Nat):Array Value :=
 #[π g.hb 0,π g.r 0,.slice P m.params.length p,ι m.ret.kind,ι m.ret.cls,ι m.stack,ι m.locs,ι m.regs,.slice C m.code.length c,.slice J m.hands.length k,.slice (some ⟨lb,0,none⟩) N N,ι 0,ι 0,ι 0,ι 0,ι 0]
structure Cg (g:Mg) (m:Me) (P C J:Option Addr) (p c k N:Nat) (us:List Va) (w:World) (q:Qb) (lb:Nat) (w':World):Prop where
 bl:Bl w w'
 own:w.heap.size<=q.q
 ownl:w.heap.size<=lb
 ownb:w.heap.size<=q.bx
 blk:w'.heap[q.q]?=some (.cells (newRow g m P C J p c k lb N) 143 (0,0))
 box:w'.heap[q.bx]?=some (.cells #[π q.q 0] 139 (0,0))
 loc:cu w' lb (ft (List.replicate N aE) 0 us)
def Jm (g:Mg) (m:Me) (P C J:Option Addr) (p c k N:Nat) (us:List Va) (w:World) (e:Ending) (w':World):Prop:=∃q lb,e=.returned (.agg (eN q).toArray)/\Cg g m P C J p c k N us w q lb w'
theorem EN (g:Mg) (m:Me) (P C J:Option Addr) (p c k N b cap:Nat) (us:List Va) (w:World) (h0:κ w g.r 0 (π g.hb 0)) (Po:m.regs=(N:Int)) (B:cu w b us) (hN:N<=1000) (nh:bN us<=N) (hk:∀v∈us,1<=v.kind/\v.kind<=3) :
  χ 31 #[π g.r 0,sK m P C J p c k,.slice (some ⟨b,0,none⟩) us.length cap] w fun e w'=>Jm g m P C J p c k N us w e w':=by
 have SZ:Θ (∀w',Bl w w'->χ 39 #[ι m.regs,.slice (some ⟨b,0,none⟩) us.length cap] w' fun e w2=>e=.returned (.slice (some ⟨w'.heap.size,0,none⟩) N N)/\cu w2 w'.heap.size (ft (List.replicate N aE) 0 us)/\Bl w' w2) :=
  fun w' hb=>wm m.regs N Po us b cap w' (B.bl hb) hN nh hk
 have JI:∀(fn:Fn) (first cap:Array Value) (w:World),(Instr.makeFunc fn first cap).run Tryz.prog w=.ok (.func fn first cap) w:=fun _ _ _ _=>rfl
 have PX:=br h0
 have bM:Θ (Bl w ((w.alloc (mY m P C J p c k)).alloc (.cells #[.nilFunc,.nilFunc,.nilFunc] 85))):=((Bl.refl w).alloc _).alloc _
 have q0:((w.alloc (mY m P C J p c k)).alloc (.cells #[.nilFunc,.nilFunc,.nilFunc] 85)).heap[w.heap.size+1]?=some (.cells #[.nilFunc,.nilFunc,.nilFunc] 85 (0,0)):=by
  have:=aB (w.alloc (mY m P C J p c k)) #[.nilFunc,.nilFunc,.nilFunc] 85
  rwa [World.size_alloc] at this
 have Q0:=ae q0
 have HT:Θ (∀w',Bl ((w.alloc (mY m P C J p c k)).alloc (.cells #[.nilFunc,.nilFunc,.nilFunc] 85)) w'->(fun w'=>Θ (Bl ((w.alloc (mY m P C J p c k)).alloc (.cells #[.nilFunc,.nilFunc,.nilFunc] 85)) w')/\w'.cell? ⟨g.r,0,none⟩=some (π g.hb 0)/\w'.cell? ⟨w.heap.size,0,none⟩=some (.slice P m.params.length p)/\w'.cell? ⟨w.heap.size,1,none⟩=some (ι m.ret.kind)/\w'.cell? ⟨w.heap.size,2,none⟩=some (ι m.ret.cls)/\w'.cell? ⟨w.heap.size,3,none⟩=some (ι m.stack)/\w'.cell? ⟨w.heap.size,4,none⟩=some (ι m.locs)/\w'.cell? ⟨w.heap.size,5,none⟩=some (ι m.regs)/\w'.cell? ⟨w.heap.size,6,none⟩=some (.slice C m.code.length c)/\w'.cell? ⟨w.heap.size,7,none⟩=some (.slice J m.hands.length k)) w'):=fun w' hb=>by
  have dQ:Bl (w.alloc (mY m P C J p c k)) w':=((Bl.refl _).alloc _).trans hb
  exact ⟨hb,hb.cell (bM.o.cell h0),dQ.cell (ai rfl),dQ.cell (ai rfl),dQ.cell (ai rfl),dQ.cell (ai rfl),dQ.cell (ai rfl),dQ.cell (ai rfl),dQ.cell (ai rfl),dQ.cell (ai rfl)⟩
 clear B hk nh h0 Po q0
 go_enter func31,ntmps31
 go_wp2
 refine wp_region_held_drew (S:=fun w'=>Θ (Bl ((w.alloc (mY m P C J p c k)).alloc (.cells #[.nilFunc,.nilFunc,.nilFunc] 85)) w')/\κ w' g.r 0 (π g.hb 0)/\κ w' w.heap.size 0 (.slice P m.params.length p)/\κ w' w.heap.size 1 (ι m.ret.kind)/\κ w' w.heap.size 2 (ι m.ret.cls)/\κ w' w.heap.size 3 (ι m.stack)/\κ w' w.heap.size 4 (ι m.locs)/\κ w' w.heap.size 5 (ι m.regs)/\κ w' w.heap.size 6 (.slice C m.code.length c)/\κ w' w.heap.size 7 (.slice J m.hands.length k)) (by kernel_rfl) ?_ (fun aa=>?_)
 ·exact HT.o _ (Bl.refl _).drew
 iterate 9 (refine tn rfl (by kernel_rfl) (fun _ _ _ h=>h) (by intro _ h;go_split_ands;go_simp<;>with_reducible rfl) aa ?_;try simp only [aZ])
 refine wpAnyH_ready (rs:=[9,12]) (by kernel_rfl) (by simp) ?_
 refine AllReadyH.cons rfl (fun K hK=>?_) (AllReadyH.cons rfl (fun K hK=>?_) (AllReadyH.nil))
 ·go_simp
  go_at_call 39
  refine (SZ.o _ (bM.o.trans aa.1.o)).mono ?_
  rintro e w1 ⟨rfl,L1,b1⟩
  have Vq:((w.alloc (mY m P C J p c k)).alloc (.cells #[.nilFunc,.nilFunc,.nilFunc] 85)).drew.heap.size=w.heap.size+1+1:=by simp
  rw [Vq] at L1
  have hb1:=ae (aa.1.o.trans b1)
  have BK:=ae L1
  clear L1
  go_wp2_with fail
  refine hK.out _ _ (HT.o _ hb1.o) (fun ah=>?_)
  try simp only [aZ]
  refine tn rfl (by kernel_rfl) (fun _ _ _ h=>h) (by intro _ h;go_split_ands;go_simp<;>with_reducible rfl) ah ?_
  try simp only [aZ]
  refine wpAnyH_ready (rs:=[11,12]) (by kernel_rfl) (by simp) ?_
  refine AllReadyH.cons rfl (fun K hK=>?_) (AllReadyH.cons rfl (fun K hK=>?_) (AllReadyH.nil))
  ·go_wp2_with fail
   refine om (fun V=>Bl w1 V/\V.heap[w1.heap.size]?=some (.cells (newRow g m P C J p c k (w.heap.size+1+1) N) 143 (0,0))) ⟨(Bl.refl _).alloc _,aB _ _ _⟩ (fun yr lP=>?_)
   have RF:=ae lP.2
   have Mu:=ae lP.1
   have P3:=ae (ah.1.o.trans lP.1)
   clear lP
   refine hK.out _ _ (HT.o _ P3.o) (fun aH=>?_)
   try simp only [aZ]
   refine aY (i:=12) (by kernel_rfl) rfl fun K hK=>?_
   go_simp
   refine om (fun V=>Bl (yr) V/\V.heap[yr.heap.size]?=some (.cells #[.pointer none] 139 (0,0))) ?_ (fun yt jU=>?_)
   ·refine ⟨?_,?_⟩
    ·first|exact (Bl.refl _).alloc _|exact (Bl.refl _).drew.alloc _
    ·first|exact aB _ _ _|exact J4 (by simp)
   have X0:=ae jU.2
   have PR:=ae jU.1
   have Pp:=ae (aH.1.o.trans jU.1)
   clear jU
   refine hK.out _ _ (HT.o _ Pp.o) (fun bG=>?_)
   try simp only [aZ]
   refine aY (i:=13) (by kernel_rfl) rfl fun K hK=>?_
   have x1:=ax (Bl.refl _) X0.o
   have y1:=ax ((Bl.refl _).trans PR.o) RF.o
   have l1:=BK.o.bl (((Bl.refl _).trans Mu.o).trans PR.o)
   have bW:=bG.1.o
   have r1:=ax bW Q0.o
   have JK:yt.cell? ⟨yr.heap.size,0,none⟩=some (.pointer none):=by rw [ab x1];rfl
   have RG:=aA x1
   have Nn:=cC x1 y1 (by decide)
   have Np:=cC x1 l1.blk (by decide)
   have Nq:=cC x1 r1 (by decide)
   have dX:w.heap.size+1+1<=yr.heap.size:=by have:=P3.o.size;simp at this;omega
   have yv:w.heap.size+1+1<=w1.heap.size:=by have:=hb1.o.size;simp at this;omega
   have yw:w.heap.size+1+1<=w.heap.size+1+1:=by exact Nat.le_refl _
   replace x1:=ae x1
   replace y1:=ae y1
   replace l1:=ae l1
   replace r1:=ae r1
   replace dX:=ae dX
   replace yv:=ae yv
   replace yw:=ae yw
   go_simp
   refine om (fun V=>Bl ((w.alloc (mY m P C J p c k)).alloc (.cells #[.nilFunc,.nilFunc,.nilFunc] 85)) V/\Cg g m P C J p c k N us w ⟨w1.heap.size,yr.heap.size⟩ (w.heap.size+1+1) V/\V.heap[w.heap.size+1]?=some (.cells #[.nilFunc,.nilFunc,.nilFunc] 85 (0,0))) ?_ (fun yx qx=>?_)
   ·have EH:Bl ((w.alloc (mY m P C J p c k)).alloc (.cells #[.nilFunc,.nilFunc,.nilFunc] 85)) (yt.setCell ⟨yr.heap.size,0,none⟩ (π w1.heap.size 0)):=bW.setCell (p:=⟨yr.heap.size,0,none⟩) (by have:=dX.o;first|(simp;done)|(simp;omega)) _
    refine ⟨EH,⟨bM.o.trans EH,?_,?_,?_,?_,?_,⟨?_⟩⟩,?_⟩
    ·have:=yv.o;show w.heap.size<=_;dsimp only;omega
    ·have:=yw.o;omega
    ·have:=dX.o;show w.heap.size<=_;dsimp only;omega
    ·rw [ak (Ne.symm Nn)];exact y1.o
    ·rw [ay x1.o];rfl
    ·rw [ak (Ne.symm Np)];exact l1.o.blk
    ·rw [ak (Ne.symm Nq)];exact r1.o
   have RI:=ae qx.2.1
   have RJ:=ae qx.1
   have q1:=qx.2.2
   have XO:yx.cell? ⟨yr.heap.size,0,none⟩=some (π w1.heap.size 0):=by rw [ab qx.2.1.box];rfl
   clear qx bW JK RG Nn Np Nq
   refine hK.out _ _ (HT.o _ RJ.o) (fun bd=>?_)
   try simp only [aZ]
   refine wpAnyH_done (by kernel_rfl) ?_ _
   have v0:yx.cell? ⟨w.heap.size+1,0,none⟩=some .nilFunc:=by rw [ab q1];rfl
   have v1:yx.cell? ⟨w.heap.size+1,1,none⟩=some .nilFunc:=by rw [ab q1];rfl
   have v2:yx.cell? ⟨w.heap.size+1,2,none⟩=some .nilFunc:=by rw [ab q1];rfl
   have fz:=aA q1
   replace q1:=ae q1
   go_wp2
   have q3:(((yx.setCell ⟨w.heap.size+1,0,none⟩ (.func (.func 70) #[π w1.heap.size 0] #[])).setCell ⟨w.heap.size+1,1,none⟩ (.func (.func 69) #[] #[π yr.heap.size 0])).setCell ⟨w.heap.size+1,2,none⟩ (.func (.func 71) #[π w1.heap.size 0] #[])).heap[w.heap.size+1]?=some (.cells (eN ⟨w1.heap.size,yr.heap.size⟩).toArray 85 (0,0)):=by rw [ay (ay (ay q1.o _) _)];rfl
   refine bodyPost_ret (results_cell_row rfl _ _ (w.heap.size+1) _ _ _ _ rfl q3 underlying85 rfl mi) rfl ?_
   have hB:=RI.o
   have dX:=dX.o
   have yv:=yv.o
   have yw:=yw.o
   refine ⟨⟨w1.heap.size,yr.heap.size⟩,_,rfl,((hB.bl.setCell (p:=⟨w.heap.size+1,0,none⟩) (Nat.le_succ _) _).setCell (p:=⟨w.heap.size+1,1,none⟩) (Nat.le_succ _) _).setCell (p:=⟨w.heap.size+1,2,none⟩) (Nat.le_succ _) _,hB.own,hB.ownl,hB.ownb,?_,?_,⟨?_⟩⟩
   ·rw [ak (by dsimp only;omega),ak (by dsimp only;omega),ak (by dsimp only;omega)];exact hB.blk
   ·rw [ak (by dsimp only;omega),ak (by dsimp only;omega),ak (by dsimp only;omega)];exact hB.box
   ·rw [ak (by omega),ak (by omega),ak (by omega)];exact hB.loc.blk
  ·go_simp
   refine om (fun V=>Bl (w1) V/\V.heap[w1.heap.size]?=some (.cells #[.pointer none] 139 (0,0))) ?_ (fun yt jU=>?_)
   ·refine ⟨?_,?_⟩
    ·first|exact (Bl.refl _).alloc _|exact (Bl.refl _).drew.alloc _
    ·first|exact aB _ _ _|exact J4 (by simp)
   have X0:=ae jU.2
   have PR:=ae jU.1
   have Pp:=ae (ah.1.o.trans jU.1)
   clear jU
   refine hK.out _ _ (HT.o _ Pp.o) (fun cQ=>?_)
   try simp only [aZ]
   refine aY (i:=11) (by kernel_rfl) rfl fun K hK=>?_
   go_wp2_with fail
   refine om (fun V=>Bl yt V/\V.heap[yt.heap.size]?=some (.cells (newRow g m P C J p c k (w.heap.size+1+1) N) 143 (0,0))) ⟨(Bl.refl _).alloc _,aB _ _ _⟩ (fun yr lP=>?_)
   have RF:=ae lP.2
   have Mu:=ae lP.1
   have P3:=ae (cQ.1.o.trans lP.1)
   clear lP
   refine hK.out _ _ (HT.o _ P3.o) (fun cd=>?_)
   try simp only [aZ]
   refine aY (i:=13) (by kernel_rfl) rfl fun K hK=>?_
   have x1:=ax ((Bl.refl _).trans Mu.o) X0.o
   have y1:=ax (Bl.refl _) RF.o
   have l1:=BK.o.bl (((Bl.refl _).trans PR.o).trans Mu.o)
   have bW:=cd.1.o
   have r1:=ax bW Q0.o
   have JK:yr.cell? ⟨w1.heap.size,0,none⟩=some (.pointer none):=by rw [ab x1];rfl
   have RG:=aA x1
   have Nn:=cC x1 y1 (by decide)
   have Np:=cC x1 l1.blk (by decide)
   have Nq:=cC x1 r1 (by decide)
   have dX:w.heap.size+1+1<=w1.heap.size:=by have:=hb1.o.size;simp at this;omega
   have yv:w.heap.size+1+1<=yt.heap.size:=by have:=Pp.o.size;simp at this;omega
   have yw:w.heap.size+1+1<=w.heap.size+1+1:=by exact Nat.le_refl _
   replace x1:=ae x1
   replace y1:=ae y1
   replace l1:=ae l1
   replace r1:=ae r1
   replace dX:=ae dX
   replace yv:=ae yv
   replace yw:=ae yw
   go_simp
   refine om (fun V=>Bl ((w.alloc (mY m P C J p c k)).alloc (.cells #[.nilFunc,.nilFunc,.nilFunc] 85)) V/\Cg g m P C J p c k N us w ⟨yt.heap.size,w1.heap.size⟩ (w.heap.size+1+1) V/\V.heap[w.heap.size+1]?=some (.cells #[.nilFunc,.nilFunc,.nilFunc] 85 (0,0))) ?_ (fun yx qx=>?_)
   ·have EH:Bl ((w.alloc (mY m P C J p c k)).alloc (.cells #[.nilFunc,.nilFunc,.nilFunc] 85)) (yr.setCell ⟨w1.heap.size,0,none⟩ (π yt.heap.size 0)):=bW.setCell (p:=⟨w1.heap.size,0,none⟩) (by have:=dX.o;first|(simp;done)|(simp;omega)) _
    refine ⟨EH,⟨bM.o.trans EH,?_,?_,?_,?_,?_,⟨?_⟩⟩,?_⟩
    ·have:=yv.o;show w.heap.size<=_;dsimp only;omega
    ·have:=yw.o;omega
    ·have:=dX.o;show w.heap.size<=_;dsimp only;omega
    ·rw [ak (Ne.symm Nn)];exact y1.o
    ·rw [ay x1.o];rfl
    ·rw [ak (Ne.symm Np)];exact l1.o.blk
    ·rw [ak (Ne.symm Nq)];exact r1.o
   have RI:=ae qx.2.1
   have RJ:=ae qx.1
   have q1:=qx.2.2
   have XO:yx.cell? ⟨w1.heap.size,0,none⟩=some (π yt.heap.size 0):=by rw [ab qx.2.1.box];rfl
   clear qx bW JK RG Nn Np Nq
   refine hK.out _ _ (HT.o _ RJ.o) (fun sr=>?_)
   try simp only [aZ]
   refine wpAnyH_done (by kernel_rfl) ?_ _
   have v0:yx.cell? ⟨w.heap.size+1,0,none⟩=some .nilFunc:=by rw [ab q1];rfl
   have v1:yx.cell? ⟨w.heap.size+1,1,none⟩=some .nilFunc:=by rw [ab q1];rfl
   have v2:yx.cell? ⟨w.heap.size+1,2,none⟩=some .nilFunc:=by rw [ab q1];rfl
   have fz:=aA q1
   replace q1:=ae q1
   go_wp2
   have q3:(((yx.setCell ⟨w.heap.size+1,0,none⟩ (.func (.func 70) #[π yt.heap.size 0] #[])).setCell ⟨w.heap.size+1,1,none⟩ (.func (.func 69) #[] #[π w1.heap.size 0])).setCell ⟨w.heap.size+1,2,none⟩ (.func (.func 71) #[π yt.heap.size 0] #[])).heap[w.heap.size+1]?=some (.cells (eN ⟨yt.heap.size,w1.heap.size⟩).toArray 85 (0,0)):=by rw [ay (ay (ay q1.o _) _)];rfl
   refine bodyPost_ret (results_cell_row rfl _ _ (w.heap.size+1) _ _ _ _ rfl q3 underlying85 rfl mi) rfl ?_
   have hB:=RI.o
   have dX:=dX.o
   have yv:=yv.o
   have yw:=yw.o
   refine ⟨⟨yt.heap.size,w1.heap.size⟩,_,rfl,((hB.bl.setCell (p:=⟨w.heap.size+1,0,none⟩) (Nat.le_succ _) _).setCell (p:=⟨w.heap.size+1,1,none⟩) (Nat.le_succ _) _).setCell (p:=⟨w.heap.size+1,2,none⟩) (Nat.le_succ _) _,hB.own,hB.ownl,hB.ownb,?_,?_,⟨?_⟩⟩
   ·rw [ak (by dsimp only;omega),ak (by dsimp only;omega),ak (by dsimp only;omega)];exact hB.blk
   ·rw [ak (by dsimp only;omega),ak (by dsimp only;omega),ak (by dsimp only;omega)];exact hB.box
   ·rw [ak (by omega),ak (by omega),ak (by omega)];exact hB.loc.blk
 ·go_simp
  refine om (fun V=>Bl (((w.alloc (mY m P C J p c k)).alloc (.cells #[.nilFunc,.nilFunc,.nilFunc] 85)).drew) V/\V.heap[w.heap.size+1+1]?=some (.cells #[.pointer none] 139 (0,0))) ?_ (fun yt jU=>?_)
  ·refine ⟨?_,?_⟩
   ·first|exact (Bl.refl _).alloc _|exact (Bl.refl _).drew.alloc _
   ·first|exact aB _ _ _|exact J4 (by simp)
  have X0:=ae jU.2
  have PR:=ae jU.1
  have Pp:=ae (aa.1.o.trans jU.1)
  clear jU
  refine hK.out _ _ (HT.o _ Pp.o) (fun kP=>?_)
  try simp only [aZ]
  refine aY (i:=9) (by kernel_rfl) rfl fun K hK=>?_
  go_simp
  go_at_call 39
  refine (SZ.o _ (bM.o.trans kP.1.o)).mono ?_
  rintro e w1 ⟨rfl,L1,b1⟩
  have X1:=ae (ax b1 X0.o)
  have hb1:=ae (kP.1.o.trans b1)
  have BK:=ae L1
  clear L1
  go_wp2_with fail
  refine hK.out _ _ (HT.o _ hb1.o) (fun kQ=>?_)
  try simp only [aZ]
  refine tn rfl (by kernel_rfl) (fun _ _ _ h=>h) (by intro _ h;go_split_ands;go_simp<;>with_reducible rfl) kQ ?_
  try simp only [aZ]
  refine aY (i:=11) (by kernel_rfl) rfl fun K hK=>?_
  go_wp2_with fail
  refine om (fun V=>Bl w1 V/\V.heap[w1.heap.size]?=some (.cells (newRow g m P C J p c k (yt.heap.size) N) 143 (0,0))) ⟨(Bl.refl _).alloc _,aB _ _ _⟩ (fun yr lP=>?_)
  have RF:=ae lP.2
  have Mu:=ae lP.1
  have P3:=ae (kQ.1.o.trans lP.1)
  clear lP
  refine hK.out _ _ (HT.o _ P3.o) (fun jN=>?_)
  try simp only [aZ]
  refine aY (i:=13) (by kernel_rfl) rfl fun K hK=>?_
  have x1:=ax (((Bl.refl _).trans b1).trans Mu.o) X0.o
  have y1:=ax (Bl.refl _) RF.o
  have l1:=BK.o.bl ((Bl.refl _).trans Mu.o)
  have bW:=jN.1.o
  have r1:=ax bW Q0.o
  have JK:yr.cell? ⟨w.heap.size+1+1,0,none⟩=some (.pointer none):=by rw [ab x1];rfl
  have RG:=aA x1
  have Nn:=cC x1 y1 (by decide)
  have Np:=cC x1 l1.blk (by decide)
  have Nq:=cC x1 r1 (by decide)
  have dX:w.heap.size+1+1<=w.heap.size+1+1:=by exact Nat.le_refl _
  have yv:w.heap.size+1+1<=w1.heap.size:=by have:=hb1.o.size;simp at this;omega
  have yw:w.heap.size+1+1<=yt.heap.size:=by have:=Pp.o.size;simp at this;omega
  replace x1:=ae x1
  replace y1:=ae y1
  replace l1:=ae l1
  replace r1:=ae r1
  replace dX:=ae dX
  replace yv:=ae yv
  replace yw:=ae yw
  go_simp
  refine om (fun V=>Bl ((w.alloc (mY m P C J p c k)).alloc (.cells #[.nilFunc,.nilFunc,.nilFunc] 85)) V/\Cg g m P C J p c k N us w ⟨w1.heap.size,w.heap.size+1+1⟩ (yt.heap.size) V/\V.heap[w.heap.size+1]?=some (.cells #[.nilFunc,.nilFunc,.nilFunc] 85 (0,0))) ?_ (fun yx qx=>?_)
  ·have EH:Bl ((w.alloc (mY m P C J p c k)).alloc (.cells #[.nilFunc,.nilFunc,.nilFunc] 85)) (yr.setCell ⟨w.heap.size+1+1,0,none⟩ (π w1.heap.size 0)):=bW.setCell (p:=⟨w.heap.size+1+1,0,none⟩) (by have:=dX.o;first|(simp;done)|(simp;omega)) _
   refine ⟨EH,⟨bM.o.trans EH,?_,?_,?_,?_,?_,⟨?_⟩⟩,?_⟩
   ·have:=yv.o;show w.heap.size<=_;dsimp only;omega
   ·have:=yw.o;omega
   ·have:=dX.o;show w.heap.size<=_;dsimp only;omega
   ·rw [ak (Ne.symm Nn)];exact y1.o
   ·rw [ay x1.o];rfl
   ·rw [ak (Ne.symm Np)];exact l1.o.blk
   ·rw [ak (Ne.symm Nq)];exact r1.o
  have RI:=ae qx.2.1
  have RJ:=ae qx.1
  have q1:=qx.2.2
  have XO:yx.cell? ⟨w.heap.size+1+1,0,none⟩=some (π w1.heap.size 0):=by rw [ab qx.2.1.box];rfl
  clear qx bW JK RG Nn Np Nq
  refine hK.out _ _ (HT.o _ RJ.o) (fun Ch=>?_)
  try simp only [aZ]
  refine wpAnyH_done (by kernel_rfl) ?_ _
  have v0:yx.cell? ⟨w.heap.size+1,0,none⟩=some .nilFunc:=by rw [ab q1];rfl
  have v1:yx.cell? ⟨w.heap.size+1,1,none⟩=some .nilFunc:=by rw [ab q1];rfl
  have v2:yx.cell? ⟨w.heap.size+1,2,none⟩=some .nilFunc:=by rw [ab q1];rfl
  have fz:=aA q1
  replace q1:=ae q1
  go_wp2
  have q3:(((yx.setCell ⟨w.heap.size+1,0,none⟩ (.func (.func 70) #[π w1.heap.size 0] #[])).setCell ⟨w.heap.size+1,1,none⟩ (.func (.func 69) #[] #[π (w.heap.size+1+1) 0])).setCell ⟨w.heap.size+1,2,none⟩ (.func (.func 71) #[π w1.heap.size 0] #[])).heap[w.heap.size+1]?=some (.cells (eN ⟨w1.heap.size,w.heap.size+1+1⟩).toArray 85 (0,0)):=by rw [ay (ay (ay q1.o _) _)];rfl
  refine bodyPost_ret (results_cell_row rfl _ _ (w.heap.size+1) _ _ _ _ rfl q3 underlying85 rfl mi) rfl ?_
  have hB:=RI.o
  have dX:=dX.o
  have yv:=yv.o
  have yw:=yw.o
  refine ⟨⟨w1.heap.size,w.heap.size+1+1⟩,_,rfl,((hB.bl.setCell (p:=⟨w.heap.size+1,0,none⟩) (Nat.le_succ _) _).setCell (p:=⟨w.heap.size+1,1,none⟩) (Nat.le_succ _) _).setCell (p:=⟨w.heap.size+1,2,none⟩) (Nat.le_succ _) _,hB.own,hB.ownl,hB.ownb,?_,?_,⟨?_⟩⟩
  ·rw [ak (by dsimp only;omega),ak (by dsimp only;omega),ak (by dsimp only;omega)];exact hB.blk
  ·rw [ak (by dsimp only;omega),ak (by dsimp only;omega),ak (by dsimp only;omega)];exact hB.box
  ·rw [ak (by omega),ak (by omega),ak (by omega)];exact hB.loc.blk
theorem AY:(Tryz.prog.info? 85).map (fun i=>(i.zero,i.size,i.bytes))=some (some (.agg #[.nilFunc,.nilFunc,.nilFunc]),3,24):=by kernel_rfl
theorem HX.pushc {X:Nat->Prop} {qs:List Qb} {q:Qb} {vc vo vx v':Value} (R:RH s w0 g w h qs vc vo vx) (hf:∀b,X b->lj g vc vo vx b) (hK:je X wx w) (hg:w.grownBy w2 vc.ownBlock) (ho:w2.ownsRow w0.heap.size 85 3 v' (qs.length+1) (ct qs++eN q)) (hat:v'.ownBlock=vc.ownBlock∨∀b,v'.ownBlock=some b->w.heap.size<=b) :
  HX s X wx w0 g (w2.setCell ⟨g.r,3,none⟩ v') h (qs++[q]):=by
 have hrow:∀b,vc.ownBlock=some b->w0.heap.size<=b:=fun b e=>(R.calls.lt b e).1
 have nM:=aV hg R.run (bg R.calls R.run (by decide))
 have hh2:=aV hg R.hp (bg R.calls R.hp (by decide))
 have eF:=cD (w:=w2) g.r 3 v'
 obtain ⟨n,D,F⟩:=R.fld
 have Ia:g.r≠g.mp:=iE R.run F.own
 have hap:∀b,v'.ownBlock=some b->¬X b:=fun b e hx=>by
  rcases hat with z|z
  ·rw [z] at e;exact (hf b hx).c e
  ·have h1:=z b e
   have:=(hK.blk b hx).1;have:=hK.size;omega
 have hcc:ct (qs++[q])=ct qs++eN q:=by rw [gR];simp [ct]
 have dQ:Bl w0 w2:=Below.grown R.bl hg R.bl.size hrow
 refine ⟨v',vo,vx,⟨R.ownr,R.ownh,R.ownm,Below.grown dQ eF dQ.size (fun k hk=>by cases hk;exact R.ownr),?_,?_,?_,?_,?_,n,D,?_,F.few,F.hit,F.miss,F.new,F.ks,F.kd⟩,fun b hx=>?_,(hK.kept hg (fun b e hx=>(hf b hx).c e)).kept eF (fun b e hx=>?_)⟩
 ·rw [ay nM];rfl
 ·exact aV eF hh2 (fun e=>cC R.run R.hp (by decide) (Option.some.inj e))
 ·exact (R.o.kept hg (vh R.o R.calls (by decide))).kept eF (Or.inr (bg R.o R.run (by decide)))
 ·exact (R.obs.kept hg (vh R.obs R.calls (by decide))).kept eF (Or.inr (bg R.obs R.run (by decide)))
 ·rw [hcc,List.length_append]
  exact ho.kept eF (Or.inr (bg ho nM (by decide)))
 ·exact (F.own.kept hg (fun e=>l4 R.calls F.own e.symm)).kept eF (fun e=>Ia (Option.some.inj e.symm))
 ·have:=hf b hx
  exact ⟨this.r,this.h,this.m,fun e=>hap b e hx,this.o,this.x⟩
 ·cases e;exact (hf g.r hx).r rfl
structure Laid (s:Nat) (X:Nat->Prop) (wx w0:World) (g:Mg) (h:Hp) (qs:List Qb) (m:Me) (N:Nat) (us:List Va) (w:World) (q:Qb) (lb:Nat) (P C J:Option Addr) (p c k:Nat) (w':World):Prop where
 hx:HX s X wx w0 g w' h (qs++[q])
 ownq:w.heap.size<=q.q
 ownl:w.heap.size<=lb
 ownb:w.heap.size<=q.bx
 me:ku w0 m P C J
 box:w'.heap[q.bx]?=some (.cells #[π q.q 0] 139 (0,0))
 blk:w'.heap[q.q]?=some (.cells (newRow g m P C J p c k lb N) 143 (0,0))
 loc:cu w' lb (ft (List.replicate N aE) 0 us)
def RL (s:Nat) (X:Nat->Prop) (wx w0:World) (g:Mg) (h:Hp) (qs:List Qb) (m:Me) (N:Nat) (us:List Va) (w:World) (e:Ending) (w':World):Prop :=
 e=.returned (.tuple #[])/\∃q lb P C J p c k,Laid s X wx w0 g h qs m N us w q lb P C J p c k w'
theorem yy (s:Nat) (X:Nat->Prop) (wx w0:World) (g:Mg) (h:Hp) (qs:List Qb) (i:Nat) (m:Me) (N b cap:Nat) (us:List Va) (w:World) (H:HX s X wx w0 g w h qs) (hq:qs.length<20) (hi:i<h.file.methods.length) (hm:nth bT h.file.methods i=m) (hM:cz w0 g.M h.file.methods) (Po:m.regs=(N:Int)) (B:cu w b us) (hN:N<=1000) (nh:bN us<=N) (hk:∀v∈us,1<=v.kind/\v.kind<=3) :
  χ 45 #[π g.r 0,ι (i:Int),.slice (some ⟨b,0,none⟩) us.length cap] w fun e w'=>RL s X wx w0 g h qs m N us w e w':=by
 obtain ⟨i0,wC,vl,wD,wE⟩:=info_parts AY
 have iL:=hM.1
 unfold maxLen at iL
 rcases hM.2 with h0|⟨mb,mo,M0,hcell⟩
 ·omega
 obtain ⟨P,C,J,p,c,k,m0,m1,m2,m3,m4,m5,m6,m7,hme⟩:=hcell i hi
 rw [hm] at m0 m1 m2 m3 m4 m5 m6 m7 hme
 have sZ:=ae hme
 have HH:=ae H
 obtain ⟨vc,vo,vx,R,hf,hK⟩:=H
 have hR:=ae R
 have QO:=ae hf
 have Vr:=ae hK
 have RM:=R.bl
 obtain ⟨Ac,AZ,hvs,E1,BL⟩:=jg R.calls
 subst hvs
 have r0:w.cell? ⟨g.r,0,none⟩=some (π g.hb 0):=by rw [ab R.run];rfl
 have r1:w.cell? ⟨g.r,1,none⟩=some (.slice (some ⟨mb,mo,none⟩) h.file.methods.length g.m):=by rw [ab R.run,<-M0];rfl
 have r2:w.cell? ⟨g.r,2,none⟩=some (.func (.func 31) #[] #[]):=by rw [ab R.run];rfl
 have r3:w.cell? ⟨g.r,3,none⟩=some (.slice Ac qs.length AZ):=by rw [ab R.run];rfl
 have PX:=br r0
 have XR:Θ (∀w',Bl w w'->χ 31 #[π g.r 0,sK m P C J p c k,.slice (some ⟨b,0,none⟩) us.length cap] w' fun e w2=>Jm g m P C J p c k N us w' e w2) :=
  fun w' hb=>EN g m P C J p c k N b cap us w' (hb.cell r0) Po (B.bl hb) hN nh hk
 have HT:Θ (∀w',Bl w w'->(fun w'=>w'.cell? ⟨g.r,1,none⟩=some (.slice (some ⟨mb,mo,none⟩) h.file.methods.length g.m)/\w'.cell? ⟨g.r,2,none⟩=some (.func (.func 31) #[] #[])/\w'.cell? ⟨mb,mo+i*8,none⟩=some (.slice P m.params.length p)/\w'.cell? ⟨mb,mo+i*8+1,none⟩=some (ι m.ret.kind)/\w'.cell? ⟨mb,mo+i*8+2,none⟩=some (ι m.ret.cls)/\w'.cell? ⟨mb,mo+i*8+3,none⟩=some (ι m.stack)/\w'.cell? ⟨mb,mo+i*8+4,none⟩=some (ι m.locs)/\w'.cell? ⟨mb,mo+i*8+5,none⟩=some (ι m.regs)/\w'.cell? ⟨mb,mo+i*8+6,none⟩=some (.slice C m.code.length c)/\w'.cell? ⟨mb,mo+i*8+7,none⟩=some (.slice J m.hands.length k)) w'):=fun w' hb=>by
  have E6:=RM.trans hb
  exact ⟨hb.cell r1,hb.cell r2,E6.cell m0,E6.cell m1,E6.cell m2,E6.cell m3,E6.cell m4,E6.cell m5,E6.cell m6,E6.cell m7⟩
 have jG:Θ (∀q w1,Bl w w1->RH s w0 g (w1.alloc (.cells (eN q).toArray 85)) h qs (.slice Ac qs.length AZ) vo vx):=fun q w1 hb=>hR.o.kept (df (hb.alloc _) none) (fun b e=>by cases e)
 have tL:Θ (∀q w1 w2,Bl w w1->(w1.alloc (.cells (eN q).toArray 85)).grownBy w2 (Value.slice Ac qs.length AZ).ownBlock->(fun w'=>w'.cell? ⟨g.r,1,none⟩=some (.slice (some ⟨mb,mo,none⟩) h.file.methods.length g.m)/\w'.cell? ⟨g.r,2,none⟩=some (.func (.func 31) #[] #[])/\w'.cell? ⟨mb,mo+i*8,none⟩=some (.slice P m.params.length p)/\w'.cell? ⟨mb,mo+i*8+1,none⟩=some (ι m.ret.kind)/\w'.cell? ⟨mb,mo+i*8+2,none⟩=some (ι m.ret.cls)/\w'.cell? ⟨mb,mo+i*8+3,none⟩=some (ι m.stack)/\w'.cell? ⟨mb,mo+i*8+4,none⟩=some (ι m.locs)/\w'.cell? ⟨mb,mo+i*8+5,none⟩=some (ι m.regs)/\w'.cell? ⟨mb,mo+i*8+6,none⟩=some (.slice C m.code.length c)/\w'.cell? ⟨mb,mo+i*8+7,none⟩=some (.slice J m.hands.length k)) w2/\w2.cell? ⟨g.r,3,none⟩=some (.slice Ac qs.length AZ)/\∀i,w2.frozen? ⟨g.r,i,none⟩=false):=fun q w1 w2 hb hg=>by
  have R1:=jG.o q w1 hb
  have nM:=aV hg R1.run (bg R1.calls R1.run (by decide))
  have dQ:Bl w0 w2:=Below.grown R1.bl hg R1.bl.size (fun b e=>(R1.calls.lt b e).1)
  exact ⟨⟨by rw [ab nM,<-M0];rfl,by rw [ab nM];rfl,dQ.cell m0,dQ.cell m1,dQ.cell m2,dQ.cell m3,dQ.cell m4,dQ.cell m5,dQ.cell m6,dQ.cell m7⟩,by rw [ab nM];rfl,aA nM⟩
 have Vs:Θ (∀q w1 w2 v',Bl w w1->(w1.alloc (.cells (eN q).toArray 85)).grownBy w2 (Value.slice Ac qs.length AZ).ownBlock->(fun w'=>w'.cell? ⟨g.r,1,none⟩=some (.slice (some ⟨mb,mo,none⟩) h.file.methods.length g.m)/\w'.cell? ⟨g.r,2,none⟩=some (.func (.func 31) #[] #[])/\w'.cell? ⟨mb,mo+i*8,none⟩=some (.slice P m.params.length p)/\w'.cell? ⟨mb,mo+i*8+1,none⟩=some (ι m.ret.kind)/\w'.cell? ⟨mb,mo+i*8+2,none⟩=some (ι m.ret.cls)/\w'.cell? ⟨mb,mo+i*8+3,none⟩=some (ι m.stack)/\w'.cell? ⟨mb,mo+i*8+4,none⟩=some (ι m.locs)/\w'.cell? ⟨mb,mo+i*8+5,none⟩=some (ι m.regs)/\w'.cell? ⟨mb,mo+i*8+6,none⟩=some (.slice C m.code.length c)/\w'.cell? ⟨mb,mo+i*8+7,none⟩=some (.slice J m.hands.length k)) (w2.setCell ⟨g.r,3,none⟩ v')):=fun q w1 w2 v' hb hg=>by
  have R1:=jG.o q w1 hb
  have nM:=aV hg R1.run (bg R1.calls R1.run (by decide))
  have dQ:Bl w0 w2:=Below.grown R1.bl hg R1.bl.size (fun b e=>(R1.calls.lt b e).1)
  have zh:=ay (i:=3) nM v'
  have mW:Bl w0 (w2.setCell ⟨g.r,3,none⟩ v'):=Below.grown dQ (cD g.r 3 v') dQ.size (fun k hk=>by cases hk;exact R1.ownr)
  exact ⟨by rw [ab zh,<-M0];rfl,by rw [ab zh];rfl,mW.cell m0,mW.cell m1,mW.cell m2,mW.cell m3,mW.cell m4,mW.cell m5,mW.cell m6,mW.cell m7⟩
 have n0:¬(20:Int)<=(qs.length:Int):=by omega
 have i0':(0:Int)<=(i:Int):=by omega
 have i1':(i:Int)<(h.file.methods.length:Int):=by omega
 have hqq:=ae hq
 clear R hf hK RM E1 BL m0 m1 m2 m3 m4 m5 m6 m7 hme hcell hm Po B nh hk hM r0 r1 r2 hq hN
 go_enter func45,ntmps45
 go_wp2
 refine wp_region_held_drew (S:=fun w'=>κ w' g.r 1 (.slice (some ⟨mb,mo,none⟩) h.file.methods.length g.m)/\κ w' g.r 2 (.func (.func 31) #[] #[])/\κ w' mb (mo+i*8) (.slice P m.params.length p)/\κ w' mb (mo+i*8+1) (ι m.ret.kind)/\κ w' mb (mo+i*8+2) (ι m.ret.cls)/\κ w' mb (mo+i*8+3) (ι m.stack)/\κ w' mb (mo+i*8+4) (ι m.locs)/\κ w' mb (mo+i*8+5) (ι m.regs)/\κ w' mb (mo+i*8+6) (.slice C m.code.length c)/\κ w' mb (mo+i*8+7) (.slice J m.hands.length k)) (by kernel_rfl) ?_ (fun aa=>?_)
 ·exact HT.o _ (Bl.refl _).drew
 refine tk (i:=0) (d:=some 13) rfl rfl (by kernel_rfl) (fun _ _ _ h=>h) (by rfl) (by intro _ h;(try dsimp only at h);go_split_ands;go_simp<;>with_reducible rfl) aa ?_
 try simp only [aZ]
 refine tk (i:=1) (d:=some 14) rfl rfl (by kernel_rfl) (fun _ _ _ h=>h) (by rfl) (by intro _ h;(try dsimp only at h);go_split_ands;go_simp<;>with_reducible rfl) aa ?_
 try simp only [aZ]
 refine tk (i:=2) (d:=some 15) rfl rfl (by kernel_rfl) (fun _ _ _ h=>h) (by rfl) (by intro _ h;(try dsimp only at h);go_split_ands;go_simp<;>with_reducible rfl) aa ?_
 try simp only [aZ]
 refine tk (i:=3) (d:=some 16) rfl rfl (by kernel_rfl) (fun _ _ _ h=>h) (by rfl) (by intro _ h;(try dsimp only at h);go_split_ands;go_simp<;>with_reducible rfl) aa ?_
 try simp only [aZ]
 refine tk (i:=5) (d:=some 18) rfl rfl (by kernel_rfl) (fun _ _ _ h=>h) (by rfl) (by intro _ h;(try dsimp only at h);go_split_ands;go_simp<;>with_reducible rfl) aa ?_
 try simp only [aZ]
 refine tk (i:=6) (d:=some 19) rfl rfl (by kernel_rfl) (fun _ _ _ h=>h) (by rfl) (by intro _ h;(try dsimp only at h);go_split_ands;go_simp<;>with_reducible rfl) aa ?_
 try simp only [aZ]
 refine tk (i:=7) (d:=some 20) rfl rfl (by kernel_rfl) (fun _ _ _ h=>h) (by rfl) (by intro _ h;(try dsimp only at h);go_split_ands;go_simp<;>with_reducible rfl) aa ?_
 try simp only [aZ]
 refine tk (i:=8) (d:=some 21) rfl rfl (by kernel_rfl) (fun _ _ _ h=>h) (by rfl) (by intro _ h;(try dsimp only at h);go_split_ands;go_simp<;>with_reducible rfl) aa ?_
 try simp only [aZ]
 refine tk (i:=9) (d:=some 22) rfl rfl (by kernel_rfl) (fun _ _ _ h=>h) (by rfl) (by intro _ h;(try dsimp only at h);go_split_ands;go_simp<;>with_reducible rfl) aa ?_
 try simp only [aZ]
 refine tk (i:=10) (d:=some 23) rfl rfl (by kernel_rfl) (fun _ _ _ h=>h) (by rfl) (by intro _ h;(try dsimp only at h);go_split_ands;go_simp<;>with_reducible rfl) aa ?_
 try simp only [aZ]
 refine tk (i:=11) (d:=some 24) rfl rfl (by kernel_rfl) (fun _ _ _ h=>h) (by rfl) (by intro _ h;(try dsimp only at h);go_split_ands;go_simp<;>with_reducible rfl) aa ?_
 try simp only [aZ]
 refine tk (i:=12) (d:=some 25) rfl rfl (by kernel_rfl) (fun _ _ _ h=>h) (by rfl) (by intro _ h;(try dsimp only at h);go_split_ands;go_simp<;>with_reducible rfl) aa ?_
 try simp only [aZ]
 refine tk (i:=13) (d:=some 26) rfl rfl (by kernel_rfl) (fun _ _ _ h=>h) (by rfl) (by intro _ h;(try dsimp only at h);go_split_ands;go_simp<;>with_reducible rfl) aa ?_
 try simp only [aZ]
 refine tk (i:=14) (d:=some 27) rfl rfl (by kernel_rfl) (fun _ _ _ h=>h) (by rfl) (by intro _ h;(try dsimp only at h);go_split_ands;go_simp<;>with_reducible rfl) aa ?_
 try simp only [aZ]
 refine tk (i:=15) (d:=some 28) rfl rfl (by kernel_rfl) (fun _ _ _ h=>h) (by rfl) (by intro _ h;(try dsimp only at h);go_split_ands;go_simp<;>with_reducible rfl) aa ?_
 try simp only [aZ]
 refine tk (i:=16) (d:=some 29) rfl rfl (by kernel_rfl) (fun _ _ _ h=>h) (by rfl) (by intro _ h;(try dsimp only at h);go_split_ands;go_simp<;>with_reducible rfl) aa ?_
 try simp only [aZ]
 refine tk (i:=17) (d:=some 30) rfl rfl (by kernel_rfl) (fun _ _ _ h=>h) (by rfl) (by intro _ h;(try dsimp only at h);go_split_ands;go_simp<;>with_reducible rfl) aa ?_
 try simp only [aZ]
 refine wpAnyH_ready (rs:=[4,18]) (by kernel_rfl) (by simp) ?_
 refine AllReadyH.cons rfl (fun K hK=>?_) (AllReadyH.cons rfl (fun K hK=>?_) (AllReadyH.nil))
 ·go_wp2_with fail
  refine hK.out _ _ (aa) (fun ah=>?_)
  try simp only [aZ]
  refine aY (i:=18) (by kernel_rfl) rfl fun K hK=>?_
  go_simp
  go_at_call 31
  refine (XR.o _ (Bl.refl w).drew).mono ?_
  rintro e w1 ⟨q,lb,rfl,Bg⟩
  have Mn:Bl w w1:=(Bl.refl w).drew.trans Bg.bl
  have f3:=Mn.cell r3
  have f4:∀o,(w1.alloc o).cell? ⟨g.r,3,none⟩=some (.slice Ac qs.length AZ):=fun o=>(Mn.alloc o).cell r3
  have S6:=ae Bg
  have gu:=ae Mn
  clear Bg Mn
  unfold eN
  go_wp2_with fail
  refine hK.out _ _ (HT.o _ gu.o) (fun aH=>?_)
  try simp only [aZ]
  refine aY (i:=19) (by kernel_rfl) rfl fun K hK=>?_
  go_simp
  refine hK.out _ _ (HT.o _ (gu.o.alloc _)) (fun bG=>?_)
  try simp only [aZ]
  refine aY (i:=20) (by kernel_rfl) rfl fun K hK=>?_
  refine step_append_lies _ (by rfl) _ _ _ (by rfl) w0.heap.size 85 i0 _ 3 24 underlying88 wC vl wD wE rfl (by omega) _ qs.length (ct qs) (by rfl) (jG.o q w1 gu.o).calls ⟨w1.heap.size,0,none⟩ 1 1 (eN q) (by rfl) (by rfl) (World.news_of_block (cs:=#[.func (.func 70) #[π q.q 0] #[],.func (.func 69) #[] #[π q.bx 0],.func (.func 71) #[π q.q 0] #[]]) (t:=85) (fr:=(0,0)) (aB _ _ _)) (by simp [eN,Value.oneCell']) (by omega) (by unfold maxLen;omega) (by omega) (jG.o q w1 gu.o).bl.size _ rfl ?_
  intro gb cp w2 kH bO hat vm
  have Ci:=tL.o q w1 w2 gu.o bO
  have c3:=Ci.2.1
  have z3:=Ci.2.2
  have Jn:=ae Ci.1
  clear Ci
  replace kH:=ae kH
  replace bO:=ae bO
  replace hat:=ae hat
  change K (Act.put _ (some 33) _) w2
  refine hK.out _ _ (Jn.o) (fun bd=>?_)
  try simp only [aZ]
  refine tk (i:=21) (d:=some 34) rfl rfl (by kernel_rfl) (fun _ _ _ h=>h) (by rfl) (by intro _ h;(try dsimp only at h);go_split_ands;go_simp<;>with_reducible rfl) bd ?_
  try simp only [aZ]
  refine tk (i:=22) (d:=some 35) rfl rfl (by kernel_rfl) (fun _ _ _ h=>h) (by rfl) (by intro _ h;(try dsimp only at h);go_split_ands;go_simp<;>with_reducible rfl) bd ?_
  try simp only [aZ]
  refine aY (i:=23) (by kernel_rfl) rfl fun K hK=>?_
  go_simp
  refine hK.out _ _ (Vs.o q w1 w2 _ gu.o bO.o) (fun cQ=>?_)
  try simp only [aZ]
  refine wpAnyH_done (by kernel_rfl) ?_ _
  go_wp2
  go_end0
  have RN:=HX.pushc (jG.o q w1 gu.o) QO.o (Vr.o.kept (df (gu.o.alloc _) none) (fun b e=>by cases e)) bO.o kH.o (hat.o.elim (fun e=>Or.inl e.symm) (fun e=>Or.inr fun b hb=>Nat.le_of_eq (e.symm.trans (by simpa [Value.ownBlock] using hb))))
  have qy:=jG.o q w1 gu.o
  have hB:=S6.o
  have mH:(w1.alloc (.cells (eN q).toArray 85)).heap[q.q]?=some (.cells (newRow g m P C J p c k lb N) 143 (0,0)):=ax ((Bl.refl w1).alloc _) hB.blk
  have mP:(w1.alloc (.cells (eN q).toArray 85)).heap[q.bx]?=some (.cells #[π q.q 0] 139 (0,0)):=ax ((Bl.refl w1).alloc _) hB.box
  have sM:(w1.alloc (.cells (eN q).toArray 85)).heap[lb]?=some (.cells (bh (ft (List.replicate N aE) 0 us)).toArray 100 (0,0)):=ax ((Bl.refl w1).alloc _) hB.loc.blk
  have BJ:=aV bO.o mH (bg qy.calls mH (by decide))
  have pT:=aV bO.o mP (bg qy.calls mP (by decide))
  have EX:=aV bO.o sM (bg qy.calls sM (by decide))
  have o1:w.heap.size<=q.q:=hB.own
  have o2:w.heap.size<=lb:=hB.ownl
  have o3:w.heap.size<=q.bx:=hB.ownb
  refine ⟨rfl,q,lb,P,C,J,p,c,k,RN,o1,o2,o3,sZ.o,?_,?_,⟨?_⟩⟩
  ·rw [ak (cC mP qy.run (by decide))];exact pT
  ·rw [ak (cC mH qy.run (by decide))];exact BJ
  ·rw [ak (cC sM qy.run (by decide))];exact EX
 ·go_simp
  go_at_call 31
  refine (XR.o _ (Bl.refl w).drew).mono ?_
  rintro e w1 ⟨q,lb,rfl,Bg⟩
  have Mn:Bl w w1:=(Bl.refl w).drew.trans Bg.bl
  have f3:=Mn.cell r3
  have f4:∀o,(w1.alloc o).cell? ⟨g.r,3,none⟩=some (.slice Ac qs.length AZ):=fun o=>(Mn.alloc o).cell r3
  have S6:=ae Bg
  have gu:=ae Mn
  clear Bg Mn
  unfold eN
  go_wp2_with fail
  refine hK.out _ _ (HT.o _ gu.o) (fun cd=>?_)
  try simp only [aZ]
  refine wpAnyH_ready (rs:=[4,19]) (by kernel_rfl) (by simp) ?_
  refine AllReadyH.cons rfl (fun K hK=>?_) (AllReadyH.cons rfl (fun K hK=>?_) (AllReadyH.nil))
  ·go_wp2_with fail
   refine hK.out _ _ (cd) (fun sr=>?_)
   try simp only [aZ]
   refine aY (i:=19) (by kernel_rfl) rfl fun K hK=>?_
   go_simp
   refine hK.out _ _ (HT.o _ (gu.o.alloc _)) (fun kP=>?_)
   try simp only [aZ]
   refine aY (i:=20) (by kernel_rfl) rfl fun K hK=>?_
   refine step_append_lies _ (by rfl) _ _ _ (by rfl) w0.heap.size 85 i0 _ 3 24 underlying88 wC vl wD wE rfl (by omega) _ qs.length (ct qs) (by rfl) (jG.o q w1 gu.o).calls ⟨w1.heap.size,0,none⟩ 1 1 (eN q) (by rfl) (by rfl) (World.news_of_block (cs:=#[.func (.func 70) #[π q.q 0] #[],.func (.func 69) #[] #[π q.bx 0],.func (.func 71) #[π q.q 0] #[]]) (t:=85) (fr:=(0,0)) (aB _ _ _)) (by simp [eN,Value.oneCell']) (by omega) (by unfold maxLen;omega) (by omega) (jG.o q w1 gu.o).bl.size _ rfl ?_
   intro gb cp w2 kH bO hat vm
   have Ci:=tL.o q w1 w2 gu.o bO
   have c3:=Ci.2.1
   have z3:=Ci.2.2
   have Jn:=ae Ci.1
   clear Ci
   replace kH:=ae kH
   replace bO:=ae bO
   replace hat:=ae hat
   change K (Act.put _ (some 33) _) w2
   refine hK.out _ _ (Jn.o) (fun kQ=>?_)
   try simp only [aZ]
   refine tk (i:=21) (d:=some 34) rfl rfl (by kernel_rfl) (fun _ _ _ h=>h) (by rfl) (by intro _ h;(try dsimp only at h);go_split_ands;go_simp<;>with_reducible rfl) kQ ?_
   try simp only [aZ]
   refine tk (i:=22) (d:=some 35) rfl rfl (by kernel_rfl) (fun _ _ _ h=>h) (by rfl) (by intro _ h;(try dsimp only at h);go_split_ands;go_simp<;>with_reducible rfl) kQ ?_
   try simp only [aZ]
   refine aY (i:=23) (by kernel_rfl) rfl fun K hK=>?_
   go_simp
   refine hK.out _ _ (Vs.o q w1 w2 _ gu.o bO.o) (fun jN=>?_)
   try simp only [aZ]
   refine wpAnyH_done (by kernel_rfl) ?_ _
   go_wp2
   go_end0
   have RN:=HX.pushc (jG.o q w1 gu.o) QO.o (Vr.o.kept (df (gu.o.alloc _) none) (fun b e=>by cases e)) bO.o kH.o (hat.o.elim (fun e=>Or.inl e.symm) (fun e=>Or.inr fun b hb=>Nat.le_of_eq (e.symm.trans (by simpa [Value.ownBlock] using hb))))
   have qy:=jG.o q w1 gu.o
   have hB:=S6.o
   have mH:(w1.alloc (.cells (eN q).toArray 85)).heap[q.q]?=some (.cells (newRow g m P C J p c k lb N) 143 (0,0)):=ax ((Bl.refl w1).alloc _) hB.blk
   have mP:(w1.alloc (.cells (eN q).toArray 85)).heap[q.bx]?=some (.cells #[π q.q 0] 139 (0,0)):=ax ((Bl.refl w1).alloc _) hB.box
   have sM:(w1.alloc (.cells (eN q).toArray 85)).heap[lb]?=some (.cells (bh (ft (List.replicate N aE) 0 us)).toArray 100 (0,0)):=ax ((Bl.refl w1).alloc _) hB.loc.blk
   have BJ:=aV bO.o mH (bg qy.calls mH (by decide))
   have pT:=aV bO.o mP (bg qy.calls mP (by decide))
   have EX:=aV bO.o sM (bg qy.calls sM (by decide))
   have o1:w.heap.size<=q.q:=hB.own
   have o2:w.heap.size<=lb:=hB.ownl
   have o3:w.heap.size<=q.bx:=hB.ownb
   refine ⟨rfl,q,lb,P,C,J,p,c,k,RN,o1,o2,o3,sZ.o,?_,?_,⟨?_⟩⟩
   ·rw [ak (cC mP qy.run (by decide))];exact pT
   ·rw [ak (cC mH qy.run (by decide))];exact BJ
   ·rw [ak (cC sM qy.run (by decide))];exact EX
  ·go_simp
   refine hK.out _ _ (HT.o _ (gu.o.alloc _)) (fun Ch=>?_)
   try simp only [aZ]
   refine aY (i:=4) (by kernel_rfl) rfl fun K hK=>?_
   go_wp2_with fail
   refine hK.out _ _ (Ch) (fun S7=>?_)
   try simp only [aZ]
   refine aY (i:=20) (by kernel_rfl) rfl fun K hK=>?_
   refine step_append_lies _ (by rfl) _ _ _ (by rfl) w0.heap.size 85 i0 _ 3 24 underlying88 wC vl wD wE rfl (by omega) _ qs.length (ct qs) (by rfl) (jG.o q w1 gu.o).calls ⟨w1.heap.size,0,none⟩ 1 1 (eN q) (by rfl) (by rfl) (World.news_of_block (cs:=#[.func (.func 70) #[π q.q 0] #[],.func (.func 69) #[] #[π q.bx 0],.func (.func 71) #[π q.q 0] #[]]) (t:=85) (fr:=(0,0)) (aB _ _ _)) (by simp [eN,Value.oneCell']) (by omega) (by unfold maxLen;omega) (by omega) (jG.o q w1 gu.o).bl.size _ rfl ?_
   intro gb cp w2 kH bO hat vm
   have Ci:=tL.o q w1 w2 gu.o bO
   have c3:=Ci.2.1
   have z3:=Ci.2.2
   have Jn:=ae Ci.1
   clear Ci
   replace kH:=ae kH
   replace bO:=ae bO
   replace hat:=ae hat
   change K (Act.put _ (some 33) _) w2
   refine hK.out _ _ (Jn.o) (fun Cj=>?_)
   try simp only [aZ]
   refine tk (i:=21) (d:=some 34) rfl rfl (by kernel_rfl) (fun _ _ _ h=>h) (by rfl) (by intro _ h;(try dsimp only at h);go_split_ands;go_simp<;>with_reducible rfl) Cj ?_
   try simp only [aZ]
   refine tk (i:=22) (d:=some 35) rfl rfl (by kernel_rfl) (fun _ _ _ h=>h) (by rfl) (by intro _ h;(try dsimp only at h);go_split_ands;go_simp<;>with_reducible rfl) Cj ?_
   try simp only [aZ]
   refine aY (i:=23) (by kernel_rfl) rfl fun K hK=>?_
   go_simp
   refine hK.out _ _ (Vs.o q w1 w2 _ gu.o bO.o) (fun S8=>?_)
   try simp only [aZ]
   refine wpAnyH_done (by kernel_rfl) ?_ _
   go_wp2
   go_end0
   have RN:=HX.pushc (jG.o q w1 gu.o) QO.o (Vr.o.kept (df (gu.o.alloc _) none) (fun b e=>by cases e)) bO.o kH.o (hat.o.elim (fun e=>Or.inl e.symm) (fun e=>Or.inr fun b hb=>Nat.le_of_eq (e.symm.trans (by simpa [Value.ownBlock] using hb))))
   have qy:=jG.o q w1 gu.o
   have hB:=S6.o
   have mH:(w1.alloc (.cells (eN q).toArray 85)).heap[q.q]?=some (.cells (newRow g m P C J p c k lb N) 143 (0,0)):=ax ((Bl.refl w1).alloc _) hB.blk
   have mP:(w1.alloc (.cells (eN q).toArray 85)).heap[q.bx]?=some (.cells #[π q.q 0] 139 (0,0)):=ax ((Bl.refl w1).alloc _) hB.box
   have sM:(w1.alloc (.cells (eN q).toArray 85)).heap[lb]?=some (.cells (bh (ft (List.replicate N aE) 0 us)).toArray 100 (0,0)):=ax ((Bl.refl w1).alloc _) hB.loc.blk
   have BJ:=aV bO.o mH (bg qy.calls mH (by decide))
   have pT:=aV bO.o mP (bg qy.calls mP (by decide))
   have EX:=aV bO.o sM (bg qy.calls sM (by decide))
   have o1:w.heap.size<=q.q:=hB.own
   have o2:w.heap.size<=lb:=hB.ownl
   have o3:w.heap.size<=q.bx:=hB.ownb
   refine ⟨rfl,q,lb,P,C,J,p,c,k,RN,o1,o2,o3,sZ.o,?_,?_,⟨?_⟩⟩
   ·rw [ak (cC mP qy.run (by decide))];exact pT
   ·rw [ak (cC mH qy.run (by decide))];exact BJ
   ·rw [ak (cC sM qy.run (by decide))];exact EX
theorem Au (L:List Kl):(kM L).length=L.length:=by simp [kM]
theorem RR.push (H:RR s Z wx w0 g w h L) {m:Me} {N:Nat} {vs:List Va} {q:Qb} {lb:Nat} {P C J:Option Addr} {p c k:Nat} (D:Laid s (mw L Z) w w0 g h (kM L) m N (vs.map im) w q lb P C J p c k w') (hN:m.regs=(N:Int)) (S9:N<=1000) (nh:bN vs<=N) (hk:∀v∈vs,1<=v.kind/\v.kind<=3) :
  RR s Z wx w0 g w' h (⟨⟨q.q,lb,N,P,p,C,c,J,k,q.bx⟩,cv m vs,.slice none 0 0,ft (List.replicate N aE) 0 (vs.map im)⟩::L):=by
 obtain ⟨vc,vo,vx,R,hl,z1,z2,K⟩:=H
 obtain ⟨sS,wW,wX,R',f,K'⟩:=D.hx
 have gH:=R.bl.size
 have e0:m.regs.toNat=N:=by omega
 have hlen:(dT (List.replicate m.regs.toNat aE) 0 vs).length=N:=by rw [pN,e0];simp
 have XS:∀b,b<w.heap.size->mq ⟨q.q,lb,N,P,p,C,c,J,k,q.bx⟩ (.slice none 0 0) b:=fun b hb=>by
  have:=D.ownq;have:=D.ownl;have:=D.ownb
  exact ⟨by show b≠q.q;omega,by show b≠lb;omega,fun e=>by simp [Value.ownBlock] at e,by show b≠q.bx;omega⟩
 have BJ:kM (⟨⟨q.q,lb,N,P,p,C,c,J,k,q.bx⟩,cv m vs,.slice none 0 0,ft (List.replicate N aE) 0 (vs.map im)⟩::L)=kM L++[q]:=by simp [kM,Mc.qb]
 refine ⟨sS,wW,wX,by rw [BJ];exact R',⟨⟨?_,?_,?_,?_,D.box,D.loc.blk,?_,?_,fun e=>by simp [Value.ownBlock] at e,D.me,?_,⟨⟨by show (0:Int)<=0;decide,by show (0:Int)<=3;decide⟩,⟨by show (0:Int)<=0;decide,by show (0:Int)<=3;decide⟩⟩⟩,fun b hb=>XS b (hl.lt hb),hl.same (fun b hb=>(K'.blk b (Or.inl hb)).2)⟩,fun b hb=>f b (Or.inr hb),fun b hb y hy=>?_,K.then K' (fun b hb=>Or.inr hb)⟩
 ·have:=D.ownq;show w0.heap.size<=q.q;omega
 ·have:=D.ownl;show w0.heap.size<=lb;omega
 ·have:=D.ownb;show w0.heap.size<=q.bx;omega
 ·have:=D.blk
  unfold newRow at this
  unfold qg
  show w'.heap[q.q]?=some (.cells #[π g.hb 0,π g.r 0,.slice P m.params.length p,ι m.ret.kind,ι m.ret.cls,ι m.stack,ι m.locs,ι m.regs,.slice C m.code.length c,.slice J m.hands.length k,.slice (some ⟨lb,0,none⟩) (dT (List.replicate m.regs.toNat aE) 0 vs).length N,ι 0,ι 0,ι 0,ι 0,ι 0] 143 (0,0))
  rw [hlen]
  exact this
 ·show mM (dT (List.replicate m.regs.toNat aE) 0 vs) _
  rw [e0]
  exact yq vs _ _ 0 (mM.new N) hk (by simp;exact nh)
 ·exact ⟨rfl,Or.inl ⟨rfl,rfl⟩⟩
 ·show (dT (List.replicate m.regs.toNat aE) 0 vs).length<=1000
  rw [hlen];exact S9
 ·rcases List.mem_cons.1 hy with rfl|hy
  ·exact XS b (Nat.lt_of_lt_of_le (K.blk b hb).1 K.size)
  ·exact z2 b hb y hy
theorem lQ.mem:∀{L:List Kl},lQ w0 g w L->∀{y:Kl},y∈L->CA w0 g w y.a y.c y.l y.vs
 | [],_,_,hy=>by cases hy
 | k::L,H,y,hy=>by
  rcases List.mem_cons.1 hy with rfl|hy
  ·exact H.1
  ·exact lQ.mem H.2.2 hy
theorem RR.wide (H:RR s Z wx w0 g w h L) (hb:Bl w w'):RR s (Xp Z w.heap.size w'.heap.size) w' w0 g w' h L:=by
 obtain ⟨vc,vo,vx,R,hl,z1,z2,K⟩:=H
 have hsz:=hb.size
 refine ⟨vc,vo,vx,R.kept (df hb none) (fun b e=>by cases e),hl.same (fun b ho=>hb.block b (hl.lt ho)),fun b hx=>?_,fun b hx y hy=>?_,Nat.le_refl _,fun b hx=>⟨?_,rfl⟩⟩
 ·rcases hx with hx|hx
  ·exact z1 b hx
  ·exact R.farNew hx.1
 ·rcases hx with hx|hx
  ·exact z2 b hx y hy
  ·exact (hl.mem hy).farNew hx.1
 ·rcases hx with hx|hx
  ·have:=(K.blk b hx).1;have:=K.size;omega
  ·exact hx.2
theorem RR.back {s':Nat} {h':Hp} {L':List Kl} (H:RR s Z wx w0 g w h L) (hb:Bl w w') (H2:RR s' (Xp Z w.heap.size w'.heap.size) w' w0 g w2 h' L'):RR s' Z wx w0 g w2 h' L':=by
 obtain ⟨vc,vo,vx,R,hl,z1,z2,K⟩:=H
 obtain ⟨sS,wW,wX,R',E0,Ta,Tb,K'⟩:=H2
 refine ⟨sS,wW,wX,R',E0,fun b hx=>Ta b (Or.inl hx),fun b hx=>Tb b (Or.inl hx),Nat.le_trans K.size (Nat.le_trans hb.size K'.size),fun b hx=>⟨(K.blk b hx).1,?_⟩⟩
 have h1:=(K.blk b hx).1
 have h2:=K.size
 rw [(K'.blk b (Or.inl hx)).2,hb.block b (by omega)]
 exact (K.blk b hx).2
theorem RR.own {w':World} {n:Nat} (H:RR s (Xp Z n wx.heap.size) wx w0 g w h L) (hb:n<=b) {o:Obj} (ho:wx.heap[b]?=some o):w.heap[b]?=some o:=by
 obtain ⟨vc,vo,vx,R,hl,z1,z2,K⟩:=H
 rw [(K.blk b (Or.inr ⟨hb,af ho⟩)).2];exact ho
section
variable (s:Nat) (Z:Nat->Prop) (wx w0:World) (g:Mg) (h:Hp)
theorem Ck (L:List Kl) (w:World) (H:RR s Z wx w0 g w h L) (i:Nat) (m:Me) (N b cap:Nat) (vs:List Va) (hq:L.length<20) (hi:i<h.file.methods.length) (hm:nth bT h.file.methods i=m) (hM:cz w0 g.M h.file.methods) (hN:m.regs=(N:Int)) (S9:N<=1000) (B:cu w b (vs.map im)) (nh:bN vs<=N) (hk:∀v∈vs,1<=v.kind/\v.kind<=3) :
  χ 45 #[π g.r 0,ι (i:Int),.slice (some ⟨b,0,none⟩) vs.length cap] w fun e w'=>e=.returned (.tuple #[])/\∃k2:Kl,k2.c=cv m vs/\RR s Z wx w0 g w' h (k2::L):=by
 have hc:=yy s (mw L Z) w w0 g h (kM L) i m N b cap (vs.map im) w H.hx (by rw [Au];exact hq) hi hm hM hN B S9 (by rw [Jl];exact nh) (fun v hv=>by
  obtain ⟨u,hu,rfl⟩:=List.mem_map.1 hv
  exact hk u hu)
 rw [List.length_map] at hc
 refine hc.mono ?_
 rintro e w' ⟨rfl,q,lb,P,C,J,p,c,k,D⟩
 exact ⟨rfl,_,rfl,H.push D hN S9 nh hk⟩
theorem EO (k:Kl) (L:List Kl) (w:World) (H:RR s Z wx w0 g w h (k::L)) (i:Int) (v:Value) (hq:20<=(k::L).length) (BJ:(k::L).length<=1000) :
  χ 45 #[π g.r 0,ι i,v] w fun e w'=>e=bF 5 0 0/\RR s Z wx w0 g w' h (k::L):=by
 have HH:=ae H
 obtain ⟨gb,cap,c3⟩:=H.c3
 simp only [List.length_cons] at hq BJ
 obtain ⟨n,hn⟩:∃n,L.length+1=n:=⟨_,rfl⟩
 have c3':w.cell? ⟨g.r,3,none⟩=some (.slice (some ⟨gb,0,none⟩) n cap):=by rw [<-hn];exact c3
 have n0:(20:Int)<=(n:Int):=by omega
 have n1:(n:Int)<=1000:=by omega
 clear H c3 hn hq BJ
 go_enter func45,ntmps45
 go_wp2_with (go_at_call 99;refine (ly 5 _).mono ?_;rintro e w1 ⟨rfl,hw⟩;rw [hw];clear hw w1)
 exact ⟨rfl,rfl,HH.o⟩
end
section
variable {s:Nat} {Z:Nat->Prop} {wx w0 w:World} {g:Mg} {h:Hp} {L:List Kl}
theorem RR.heap (H:RR s Z wx w0 g w h L) (c t:Int):RR s Z wx w0 g w { h with calls:=c,thrown:=t } L:=by
 obtain ⟨vc,vo,vx,R,hl,z1,z2,K⟩:=H
 obtain ⟨n,D,F⟩:=R.fld
 exact ⟨vc,vo,vx,⟨R.ownr,R.ownh,R.ownm,R.bl,R.run,R.hp,R.o,R.obs,R.calls,n,D,F.own,F.few,F.hit,F.miss,F.new,F.ks,F.kd⟩,hl,z1,z2,K⟩
theorem RR.leave (H:RR s Z wx w0 g w h L):RR s Z wx w0 g w h.leave L:=H.heap (h.calls-1) h.thrown
theorem RR.caught (H:RR s Z wx w0 g w h L):RR s Z wx w0 g w { h with thrown:=-1 } L:=H.heap h.calls (-1)
end
theorem Fix.leave (F:Fix w0 g h):Fix w0 g h.leave:=⟨F.cls,F.mes,F.inp,F.may⟩
def Pq (r:Nat) (w:World):Nat:=match w.cell? ⟨r,3,none⟩ with
 | some (.slice _ n _)=>n
 | _=>0
theorem Cm (H:RR s Z wx w0 g w h L):Pq g.r w=L.length:=by
 unfold Pq
 cases L with
 | nil=>obtain ⟨A,cap,e⟩:=H.c3n;rw [e];rfl
 | cons k L=>obtain ⟨gb,cap,e⟩:=H.c3;rw [e];rfl
theorem yz (a b c:Value) (w:World):(Instr.field 85 (.agg #[a,b,c]) 2).run Tryz.prog w=.ok c w:=by
 simp [Instr.field,go_sem,underlying85,run_underlying underlying85,asAgg]
def hJ (c:aL):Prop:=(∀q,q<c.m.hands.length->0<=(nth eK c.m.hands q).fr/\(nth eK c.m.hands q).til<=3000/\0<=(nth eK c.m.hands q).til/\0<=(nth eK c.m.hands q).pc)/\0<=c.pc/\c.pc<=3000
section
variable {s:Nat} {Z:Nat->Prop} {W w0 w':World} {g:Mg} {h:Hp} {L:List Kl} {n:Nat} {k m:Int}
theorem A6 (H:RR s (Xp Z n W.heap.size) W w0 g w' h L) (hb:W.heap[n]?=some (.cells #[ι k,ι m] 100 (0,0))) :
  w'.cell? ⟨n,0,none⟩=some (ι k)/\w'.cell? ⟨n,1,none⟩=some (ι m):=by
 have:=H.own (w':=W) (Nat.le_refl _) hb
 exact ⟨aO this,aJ this⟩
theorem s4 (H:RR s (Xp Z n W.heap.size) W w0 g w' h L) (hb:W.heap[n]?=some (.cells #[ι k,ι m] 100 (0,0))) :
  w'.cell? ⟨g.r,0,none⟩=some (π g.hb 0)/\w'.cell? ⟨n,0,none⟩=some (ι k)/\w'.cell? ⟨n,1,none⟩=some (ι m):=by
 have:=A6 H hb
 obtain ⟨vc,vo,vx,R,-,-,-,-⟩:=H
 exact ⟨by rw [ab R.run];rfl,this.1,this.2⟩
end
def Vt (s:Nat) (Z:Nat->Prop) (wx w0:World) (g:Mg) (o:Mo) (e:Ending) (w':World):Prop :=
 (o.fin=false->e=.returned (.tuple #[])/\∃L':List Kl,L'.map (·.c)=o.cs/\RR s Z wx w0 g w' o.h L')/\(o.fin=true->e=bF o.how (im o.v).kind (im o.v).n/\∃L':List Kl,RR s Z wx w0 g w' o.h L')
def XT (s:Nat) (Z:Nat->Prop) (W w0:World) (g:Mg) (h:Hp) (L:List Kl) (wr:World):Prop :=
 ∃(L':List Kl) (h':Hp),unwM h (L.map (·.c))=unwM h' (L'.map (·.c))/\RR s Z W w0 g wr h' L'/\Fix w0 g h'/\h'.objs=h.objs/\h'.thrown=h.thrown/\(∀k∈L',hJ k.c)/\L'.length<=1000
theorem unwind_any (s:Nat) (Z:Nat->Prop) (wx w0:World) (g:Mg) (h:Hp) (L:List Kl) (v:Va) (w:World) (H:RR s Z wx w0 g w h L) (F:Fix w0 g h) (hf:h.objs.length<=100) (hv:v.kind=3) (h0:0<=v.n) (hn:v.n<h.objs.length) (ht:h.thrown=v.n) (hok:∀k∈L,hJ k.c) (hlen:L.length<=1000) :
  χ 107 #[π g.r 0,cm (im v)] w fun e w'=>Vt s Z wx w0 g (unwM h (L.map (·.c))) e w':=by
 have HV:Θ (v.kind=3/\0<=v.n/\v.n<h.objs.length/\h.thrown=v.n):=⟨hv,h0,hn,ht⟩
 have HF0:=ae hf
 have MQ:Θ (Bl w (w.alloc (eS (im v)))):=(Bl.refl w).alloc _
 have oB:Θ ((w.alloc (eS (im v))).heap[w.heap.size]?=some (.cells #[ι (im v).kind,ι (im v).n] 100 (0,0))):=aB _ _ _
 have Tc:=ae H
 have HS:Θ (XT s (Xp Z w.heap.size (w.alloc (eS (im v))).heap.size) (w.alloc (eS (im v))) w0 g h L (w.alloc (eS (im v)))):=⟨L,h,rfl,H.wide MQ.o,F,rfl,rfl,hok,hlen⟩
 have Qu:=yz
 clear H F hf hv h0 hn ht hok hlen
 go_enter func107,ntmps107
 go_wp2
 go_loopw [] (fun wr=>Θ (XT s (Xp Z w.heap.size (w.alloc (eS (im v))).heap.size) (w.alloc (eS (im v))) w0 g h L wr)) (fun wr=>Pq g.r wr)
 case atStart=>exact HS.o
 case round =>
  clear HS
  obtain ⟨L',h',um,hr,Si,eT,iG,hok,hlen⟩:=hrel.o
  clear hrel
  have Vv:=ae um
  have HR:=ae hr
  have HF:Θ (Fix w0 g h'/\h'.objs.length<=100):=⟨Si,by rw [eT];exact HF0.o⟩
  have Vw:Θ (h'.objs=h.objs):=eT
  have Ng:=ae iG
  have Bb:=ae hok
  have ll:=ae hlen
  clear um hr Si eT iG hok
  cases L' with
  | nil =>
   obtain ⟨A,cap,c3⟩:=HR.o.c3n
   clear hlen
   go_wp2
   refine wp_region_held_drew (S:=fun w'=>κ w' g.r 0 (π g.hb 0)/\κ w' w.heap.size 0 (ι (im v).kind)/\κ w' w.heap.size 1 (ι (im v).n)) (by kernel_rfl) ?_ (fun aa=>?_)
   ·exact s4 (HR.o.bl (Bl.refl wr).drew) oB.o
   iterate 5 (refine tn rfl (by kernel_rfl) (fun _ _ _ h=>h) (by intro _ h;go_split_ands;go_simp<;>with_reducible rfl) aa ?_;try simp only [aZ])
   refine aY (i:=5) (by kernel_rfl) rfl fun K hK=>?_
   go_simp
   go_at_call 156
   refine (mQ g.hb v HV.o.1 HV.o.2.1 _).mono ?_
   rintro e w2 ⟨rfl,b2⟩
   have pU:=(HR.o.bl (Bl.refl wr).drew).bl b2
   have ho:unwM h (L.map (·.c))=kK 2 ⟨3,h'.thrown⟩ h':=Vv.o
   have iG:h'.thrown=v.n:=Ng.o.trans HV.o.2.2.2
   refine ⟨rfl,?_⟩
   rw [ho]
   refine ⟨(fun z=>by cases z),fun _=>⟨?_,[],Tc.o.back MQ.o pU⟩⟩
   show vp v.n=bF 2 3 (if (3:Int)=3 then h'.thrown+1 else h'.thrown)
   rw [if_pos rfl,iG]
  | cons k L2 =>
   obtain ⟨gb,cap,c3⟩:=HR.o.c3
   have Mq:=ae (Bb.o k List.mem_cons_self)
   have fT:(0:Int)<((L2.length+1:Nat):Int):=by omega
   have lv:((L2.length+1:Nat):Int)<=1000:=by simp at hlen;omega
   clear hlen
   by_cases hcl:h'.caughtL k.c.pc k.c.m.hands<0
   ·have rp:=ae hcl
    clear hcl
    go_wp2
    refine wp_region_held_drew (S:=fun w'=>κ w' w.heap.size 0 (ι (im v).kind)/\κ w' w.heap.size 1 (ι (im v).n)) (by kernel_rfl) ?_ (fun aa=>?_)
    ·exact A6 (HR.o.bl (Bl.refl wr).drew) oB.o
    iterate 2 (refine tn rfl (by kernel_rfl) (fun _ _ _ h=>h) (by intro _ h;go_split_ands;go_simp<;>with_reducible rfl) aa ?_;try simp only [aZ])
    refine aY (i:=1) (by kernel_rfl) rfl fun K hK=>?_
    go_simp
    go_at_call 148
    refine (mj s _ _ w0 g h' (kM L2) k.a.qb _ (by rw [<-iz];exact (HR.o.bl (Bl.refl wr).drew).hx)).mono ?_
    rintro e w1 ⟨rfl,b1⟩
    have jG:=ae ((HR.o.bl (Bl.refl wr).drew).bl b1)
    have s1:=ae (A6 jG.o oB.o)
    clear b1
    simp only [eN,Mc.qb]
    go_wp2_with fail
    refine hK.out _ _ (s1.o) (fun ah=>?_)
    try simp only [aZ]
    refine tn rfl (by kernel_rfl) (fun _ _ _ h=>h) (by intro _ h;go_split_ands;go_simp<;>with_reducible rfl) ah ?_
    try simp only [aZ]
    refine aY (i:=4) (by kernel_rfl) rfl fun K hK=>?_
    go_simp
    go_at_call 71
    refine (Hz s _ _ w0 g h' _ k.a k.c v _ jG.o.top HF.o.1 HF.o.2 HV.o.1 HV.o.2.1 (by rw [Vw.o];exact HV.o.2.2.1) (Ng.o.trans HV.o.2.2.2) Mq.o.1 Mq.o.2 rp.o).mono ?_
    rintro e w2 ⟨rfl,H2⟩
    obtain ⟨SF,l2,pU⟩:=jG.o.of H2
    have s2:=ae (A6 pU oB.o)
    replace pU:=ae pU
    clear H2
    go_wp2_with fail
    refine hK.out _ _ (s2.o) (fun aH=>?_)
    try simp only [aZ]
    refine wpAnyH_done (by kernel_rfl) ?_ _
    go_wp2_with (first
     | (go_at_call 147;refine (nY s _ _ w0 g h' (kM L2) k.a.qb _ (by have:=(pU.o.hxB (Bl.refl _));exact this)).mono ?_;rintro e w3 ⟨rfl,H3⟩;have yE:=ae (pU.o.drops (Bl.refl _) H3).1;clear H3))
    go_roundw
    case rel =>
     refine ⟨L2,h'.leave,?_,RR.leave yE.o,HF.o.1.leave,Vw.o,Ng.o,fun k2 nI=>Bb.o k2 (List.mem_cons_of_mem _ nI),by have:=ll.o;simp at this;omega⟩
     rw [Vv.o]
     exact if_pos rp.o
    case measure =>
     have e1:=Cm HR.o
     have e2:=Cm yE.o
     simp only [List.length_cons] at e1
     omega
   ·have Pr:0<=h'.caughtL k.c.pc k.c.m.hands:=by omega
    have rp:=ae Pr
    clear hcl Pr
    by_cases Ia:True
    ·have HRM:=ae Ia
     clear Ia
     go_wp2
     refine wp_region_held_drew (S:=fun w'=>κ w' w.heap.size 0 (ι (im v).kind)/\κ w' w.heap.size 1 (ι (im v).n)) (by kernel_rfl) ?_ (fun aa=>?_)
     ·exact A6 (HR.o.bl (Bl.refl wr).drew) oB.o
     iterate 2 (refine tn rfl (by kernel_rfl) (fun _ _ _ h=>h) (by intro _ h;go_split_ands;go_simp<;>with_reducible rfl) aa ?_;try simp only [aZ])
     refine aY (i:=1) (by kernel_rfl) rfl fun K hK=>?_
     go_simp
     go_at_call 148
     refine (mj s _ _ w0 g h' (kM L2) k.a.qb _ (by rw [<-iz];exact (HR.o.bl (Bl.refl wr).drew).hx)).mono ?_
     rintro e w1 ⟨rfl,b1⟩
     have jG:=ae ((HR.o.bl (Bl.refl wr).drew).bl b1)
     have s1:=ae (A6 jG.o oB.o)
     clear b1
     simp only [eN,Mc.qb]
     go_wp2_with fail
     refine hK.out _ _ (s1.o) (fun ah=>?_)
     try simp only [aZ]
     refine tn rfl (by kernel_rfl) (fun _ _ _ h=>h) (by intro _ h;go_split_ands;go_simp<;>with_reducible rfl) ah ?_
     try simp only [aZ]
     refine aY (i:=4) (by kernel_rfl) rfl fun K hK=>?_
     go_simp
     go_at_call 71
     refine (Du s _ _ w0 g h' _ k.a k.c v _ jG.o.top HF.o.1 HF.o.2 HV.o.1 HV.o.2.1 (by rw [Vw.o];exact HV.o.2.2.1) (Ng.o.trans HV.o.2.2.2) Mq.o.1 Mq.o.2 rp.o).mono ?_
     rintro e w2 ⟨rfl,H2⟩
     obtain ⟨SF,l2,pU⟩:=jG.o.of H2
     have s2:=ae (A6 pU oB.o)
     replace pU:=ae pU
     clear H2
     go_wp2_with fail
     refine hK.out _ _ (s2.o) (fun aH=>?_)
     try simp only [aZ]
     refine wpAnyH_done (by kernel_rfl) ?_ _
     go_wp2
     go_end0
     have FK:v=⟨3,h'.thrown⟩:=by rw [Ng.o,HV.o.2.2.2];obtain ⟨vk,vn⟩:=v;simp at *;exact HV.o.1
     have ho:unwM h (L.map (·.c))=zq { h' with thrown:=-1 } ({ k.c with giv:=aE,cau:=v,pc:=h'.caughtL k.c.pc k.c.m.hands }::L2.map (·.c)):=by
      rw [Vv.o]
      show unwM h' (k.c::L2.map (·.c))=_
      unfold unwM
      rw [if_neg (by have:=rp.o;omega),<-FK]
     rw [ho]
     exact ⟨fun _=>⟨rfl,_::L2,rfl,RR.caught (Tc.o.back MQ.o pU.o)⟩,fun z=>by cases z⟩
    ·exact absurd trivial Ia
def nA (s:Nat) (Z Y:Nat->Prop) (wx w0:World) (g:Mg) (w:World) (h:Hp) (L:List Kl):Prop :=
 ∃vc vo vx,RH s w0 g w h (kM L) vc vo vx/\lQ w0 g w L/\(∀b,Z b->lj g vc vo vx b)/\(∀b,Z b->∀k∈L,mq k.a k.vs b)/\je Z wx w
  /\ ∀b,Y b->b<w.heap.size/\w0.heap.size<=b/\¬Z b/\lj g vc vo vx b/\∀k∈L,mq k.a k.vs b
section
variable {s:Nat} {Z:Nat->Prop}
theorem RR.y (H:RR s Z wx w0 g w h L):nA s Z Ko wx w0 g w h L:=by
 obtain ⟨vc,vo,vx,R,hl,z1,z2,K⟩:=H
 exact ⟨vc,vo,vx,R,hl,z1,z2,K,fun b hb=>absurd hb (fun x=>x)⟩
theorem nA.x (H:nA s Z Y wx w0 g w h L):RR s Z wx w0 g w h L:=by
 obtain ⟨vc,vo,vx,R,hl,z1,z2,K,-⟩:=H
 exact ⟨vc,vo,vx,R,hl,z1,z2,K⟩
theorem nA.less {Y':Nat->Prop} (H:nA s Z Y wx w0 g w h L) (hy:∀b,Y' b->Y b):nA s Z Y' wx w0 g w h L:=by
 obtain ⟨vc,vo,vx,R,hl,z1,z2,K,F⟩:=H
 exact ⟨vc,vo,vx,R,hl,z1,z2,K,fun b hb=>F b (hy b hb)⟩
theorem nA.bl (H:nA s Z Y wx w0 g w h L) (hb:Bl w w'):nA s Z (Xp Y w.heap.size w'.heap.size) wx w0 g w' h L:=by
 obtain ⟨vc,vo,vx,R,hl,z1,z2,K,F⟩:=H
 have hsz:=hb.size
 have h0:=R.bl.size
 refine ⟨vc,vo,vx,R.kept (df hb none) (fun b e=>by cases e),hl.same (fun b ho=>hb.block b (hl.lt ho)),z1,z2,K.kept (df hb none) (fun b e=>by cases e),fun b hy=>?_⟩
 rcases hy with hy|hy
 ·obtain ⟨h1,h2,h3,h4,h5⟩:=F b hy
  exact ⟨by omega,h2,h3,h4,h5⟩
 ·refine ⟨hy.2,by omega,fun hz=>?_,R.farNew hy.1,fun k hk=>(hl.mem hk).farNew hy.1⟩
  have:=(K.blk b hz).1;have:=K.size;omega
theorem nA.set (H:nA s Z Y wx w0 g w h L) (hb:Y b) (i:Nat) (v:Value):nA s Z Y wx w0 g (w.setCell ⟨b,i,none⟩ v) h L:=by
 obtain ⟨vc,vo,vx,R,hl,z1,z2,K,F⟩:=H
 obtain ⟨h1,h2,h3,h4,h5⟩:=F b hb
 have hg:=cD (w:=w) b i v
 refine ⟨vc,vo,vx,R.kept hg (fun x e=>?_),hl.same (fun x ho=>?_),z1,z2,K.kept hg (fun x e hx=>?_),fun x hx=>?_⟩
 ·cases e;exact ⟨h2,h4⟩
 ·obtain ⟨k,hk,hko⟩:=ho
  refine ak ?_ _
  rintro rfl
  have f:=h5 k hk
  rcases hko with e|e|e|e
  ·exact f.q e
  ·exact f.l e
  ·exact f.s e
  ·exact f.x e
 ·cases e;exact h3 hx
 ·obtain ⟨y1,y2⟩:=F x hx
  exact ⟨by simpa [World.setCell] using y1,y2⟩
theorem nA.wide (H:nA s Z Y wx w0 g w h L) (hb:Bl w w'):RR s (fun b=>Z b∨Xp Y w.heap.size w'.heap.size b) w' w0 g w' h L:=by
 obtain ⟨vc,vo,vx,R,hl,z1,z2,K,F⟩:=H.bl hb
 refine ⟨vc,vo,vx,R,hl,?_,?_,Nat.le_refl _,fun b hx=>⟨?_,rfl⟩⟩
 ·rintro b (hx|hx)
  ·exact z1 b hx
  ·exact (F b hx).2.2.2.1
 ·rintro b (hx|hx)
  ·exact z2 b hx
  ·exact (F b hx).2.2.2.2
 ·rcases hx with hx|hx
  ·have:=(K.blk b hx).1;have:=K.size;omega
  ·exact (F b hx).1
end
theorem nA.back {s':Nat} {h':Hp} {L':List Kl} (H:nA s Z Y wx w0 g w h L) (hb:Bl w w') (H2:RR s' (fun b=>Z b∨Xp Y w.heap.size w'.heap.size b) w' w0 g w2 h' L') :
  nA s' Z (Xp Y w.heap.size w'.heap.size) wx w0 g w2 h' L'/\sL (Xp Y w.heap.size w'.heap.size) w' w2:=by
 obtain ⟨vc,vo,vx,R,hl,z1,z2,K,F⟩:=H.bl hb
 obtain ⟨sS,wW,wX,R',E0,Ta,Tb,K'⟩:=H2
 refine ⟨⟨sS,wW,wX,R',E0,fun b hx=>Ta b (Or.inl hx),fun b hx=>Tb b (Or.inl hx),⟨Nat.le_trans K.size K'.size,fun b hx=>⟨(K.blk b hx).1,?_⟩⟩,fun b hy=>?_⟩,K'.size,fun b hy=>(K'.blk b (Or.inr hy)).2⟩
 ·rw [(K'.blk b (Or.inl hx)).2];exact (K.blk b hx).2
 ·obtain ⟨h1,h2,h3,h4,h5⟩:=F b hy
  exact ⟨Nat.lt_of_lt_of_le h1 K'.size,h2,h3,Ta b (Or.inr hy),Tb b (Or.inr hy)⟩
section
variable (s s':Nat) (Z Y:Nat->Prop) (wx w0:World) (g:Mg) (h h':Hp) (L:List Kl) (PL:List Kl->Prop)
theorem sE (how k n:Int) (w:World) (H:nA s Z Y wx w0 g w h L) (hs:∀Z wx w,RR s Z wx w0 g w h L->χ 105 #[π g.r 0] w fun e w'=>e=bF how k n/\∃L',PL L'/\RR s' Z wx w0 g w' h' L') :
  χ 104 #[.func (.func 105) #[π g.r 0] #[]] w fun e w'=>e=.returned (.tuple #[.agg #[ι how,ι k,ι n],.bool true])/\(∃L',PL L'/\nA s' Z Y wx w0 g w' h' L')/\sL Y w w':=by
 have hb:Bl w ((w.alloc dA).alloc dm):=((Bl.refl w).alloc _).alloc _
 have hsz:((w.alloc dA).alloc dm).heap.size=w.heap.size+1+1:=by simp
 obtain ⟨n0,n1⟩:=bc w #[ι 0,ι 0,ι 0] #[.bool false] 102 4
 have y0:Xp Y w.heap.size ((w.alloc dA).alloc dm).heap.size w.heap.size:=Or.inr ⟨Nat.le_refl _,by omega⟩
 have y1:Xp Y w.heap.size ((w.alloc dA).alloc dm).heap.size (w.heap.size+1):=Or.inr ⟨by omega,by omega⟩
 have hY:∀b,Y b->b<w.heap.size:=fun b hy=>by obtain ⟨vc,vo,vx,-,-,-,-,-,F⟩:=H;exact (F b hy).1
 refine (vt (π g.r 0) how k n (fun w1=>(∃L',PL L'/\nA s' Z (Xp Y w.heap.size ((w.alloc dA).alloc dm).heap.size) wx w0 g w1 h' L')/\sL Y w w1) w ?_).mono ?_
 ·refine (hs _ _ _ (H.wide hb)).mono ?_
  rintro e w1 ⟨rfl,L',hp,H1⟩
  obtain ⟨H2,K2⟩:=H.back hb H1
  refine ⟨rfl,K2.at y0 n0,K2.at y1 n1,⟨L',hp,H2⟩,Nat.le_trans hb.size K2.size,fun b hy=>?_⟩
  rw [K2.blk b (Or.inl hy),hb.block b (hY b hy)]
 ·rintro e w' ⟨rfl,w1,⟨⟨L',hp,H1⟩,K1⟩,rfl⟩
  have H2:=(((H1.set y0 0 (ι how)).set y0 1 (ι k)).set y0 2 (ι n)).set y1 0 (.bool true)
  have hbl:=(Bl.refl ((((w1.setCell ⟨w.heap.size,0,none⟩ (ι how)).setCell ⟨w.heap.size,1,none⟩ (ι k)).setCell ⟨w.heap.size,2,none⟩ (ι n)).setCell ⟨w.heap.size+1,0,none⟩ (.bool true))).alloc (.cells #[ι how,ι k,ι n] 102)
  have H3:=H2.bl hbl
  have C9:=K1.size
  refine ⟨rfl,⟨L',hp,H3.less (fun b hy=>Or.inl (Or.inl hy))⟩,by simp [World.setCell];omega,fun b hy=>?_⟩
  have hlt:=hY b hy
  rw [hbl.block b (by simp [World.setCell];omega),ak (by omega),ak (by omega),ak (by omega),ak (by omega)]
  exact K1.blk b hy
theorem Jo (w:World) (H:nA s Z Y wx w0 g w h L) (hs:∀Z wx w,RR s Z wx w0 g w h L->χ 105 #[π g.r 0] w fun e w'=>e=.returned (.tuple #[])/\∃L',PL L'/\RR s' Z wx w0 g w' h' L') :
  χ 104 #[.func (.func 105) #[π g.r 0] #[]] w fun e w'=>e=.returned (.tuple #[.agg #[ι 0,ι 0,ι 0],.bool false])/\(∃L',PL L'/\nA s' Z Y wx w0 g w' h' L')/\sL Y w w':=by
 have hb:Bl w ((w.alloc dA).alloc dm):=((Bl.refl w).alloc _).alloc _
 have hsz:((w.alloc dA).alloc dm).heap.size=w.heap.size+1+1:=by simp
 obtain ⟨n0,n1⟩:=bc w #[ι 0,ι 0,ι 0] #[.bool false] 102 4
 have y0:Xp Y w.heap.size ((w.alloc dA).alloc dm).heap.size w.heap.size:=Or.inr ⟨Nat.le_refl _,by omega⟩
 have y1:Xp Y w.heap.size ((w.alloc dA).alloc dm).heap.size (w.heap.size+1):=Or.inr ⟨by omega,by omega⟩
 have hY:∀b,Y b->b<w.heap.size:=fun b hy=>by obtain ⟨vc,vo,vx,-,-,-,-,-,F⟩:=H;exact (F b hy).1
 refine (vz (π g.r 0) (fun w1=>(∃L',PL L'/\nA s' Z (Xp Y w.heap.size ((w.alloc dA).alloc dm).heap.size) wx w0 g w1 h' L')/\sL Y w w1) w ?_).mono ?_
 ·refine (hs _ _ _ (H.wide hb)).mono ?_
  rintro e w1 ⟨rfl,L',hp,H1⟩
  obtain ⟨H2,K2⟩:=H.back hb H1
  refine ⟨rfl,K2.at y0 n0,K2.at y1 n1,⟨L',hp,H2⟩,Nat.le_trans hb.size K2.size,fun b hy=>?_⟩
  rw [K2.blk b (Or.inl hy),hb.block b (hY b hy)]
 ·rintro e w' ⟨rfl,w1,⟨⟨L',hp,H1⟩,K1⟩,rfl⟩
  have H2:=(((H1.set y0 0 (ι 0)).set y0 1 (ι 0)).set y0 2 (ι 0)).set y1 0 (.bool false)
  have C9:=K1.size
  refine ⟨rfl,⟨L',hp,H2.less (fun b hy=>Or.inl hy)⟩,by simp [World.setCell];omega,fun b hy=>?_⟩
  have hlt:=hY b hy
  rw [ak (by omega),ak (by omega),ak (by omega),ak (by omega)]
  exact K1.blk b hy
theorem EP (x y:Value) (how k n:Int) (w:World) (H:nA s Z Y wx w0 g w h L) (hs:∀Z' Cn w',(∀b,Y b->w'.heap[b]?=w.heap[b]?)->RR s Z' Cn w0 g w' h L->χ 106 #[x,y] w' fun e w2=>e=bF how k n/\∃L',PL L'/\RR s' Z' Cn w0 g w2 h' L') :
  χ 104 #[.func (.func 106) #[] #[x,y]] w fun e w'=>e=.returned (.tuple #[.agg #[ι how,ι k,ι n],.bool true])/\(∃L',PL L'/\nA s' Z Y wx w0 g w' h' L')/\sL Y w w':=by
 have hb:Bl w ((w.alloc dA).alloc dm):=((Bl.refl w).alloc _).alloc _
 have hsz:((w.alloc dA).alloc dm).heap.size=w.heap.size+1+1:=by simp
 obtain ⟨n0,n1⟩:=bc w #[ι 0,ι 0,ι 0] #[.bool false] 102 4
 have y0:Xp Y w.heap.size ((w.alloc dA).alloc dm).heap.size w.heap.size:=Or.inr ⟨Nat.le_refl _,by omega⟩
 have y1:Xp Y w.heap.size ((w.alloc dA).alloc dm).heap.size (w.heap.size+1):=Or.inr ⟨by omega,by omega⟩
 have hY:∀b,Y b->b<w.heap.size:=fun b hy=>by obtain ⟨vc,vo,vx,-,-,-,-,-,F⟩:=H;exact (F b hy).1
 refine (sT x y how k n (fun w1=>(∃L',PL L'/\nA s' Z (Xp Y w.heap.size ((w.alloc dA).alloc dm).heap.size) wx w0 g w1 h' L')/\sL Y w w1) w ?_).mono ?_
 ·refine (hs _ _ _ (fun b hy=>hb.block b (hY b hy)) (H.wide hb)).mono ?_
  rintro e w1 ⟨rfl,L',hp,H1⟩
  obtain ⟨H2,K2⟩:=H.back hb H1
  refine ⟨rfl,K2.at y0 n0,K2.at y1 n1,⟨L',hp,H2⟩,Nat.le_trans hb.size K2.size,fun b hy=>?_⟩
  rw [K2.blk b (Or.inl hy),hb.block b (hY b hy)]
 ·rintro e w' ⟨rfl,w1,⟨⟨L',hp,H1⟩,K1⟩,rfl⟩
  have H2:=(((H1.set y0 0 (ι how)).set y0 1 (ι k)).set y0 2 (ι n)).set y1 0 (.bool true)
  have hbl:=(Bl.refl ((((w1.setCell ⟨w.heap.size,0,none⟩ (ι how)).setCell ⟨w.heap.size,1,none⟩ (ι k)).setCell ⟨w.heap.size,2,none⟩ (ι n)).setCell ⟨w.heap.size+1,0,none⟩ (.bool true))).alloc (.cells #[ι how,ι k,ι n] 102)
  have H3:=H2.bl hbl
  have C9:=K1.size
  refine ⟨rfl,⟨L',hp,H3.less (fun b hy=>Or.inl (Or.inl hy))⟩,by simp [World.setCell];omega,fun b hy=>?_⟩
  have hlt:=hY b hy
  rw [hbl.block b (by simp [World.setCell];omega),ak (by omega),ak (by omega),ak (by omega),ak (by omega)]
  exact K1.blk b hy
theorem ER (x y:Value) (w:World) (H:nA s Z Y wx w0 g w h L) (hs:∀Z' Cn w',(∀b,Y b->w'.heap[b]?=w.heap[b]?)->RR s Z' Cn w0 g w' h L->χ 106 #[x,y] w' fun e w2=>e=.returned (.tuple #[])/\∃L',PL L'/\RR s' Z' Cn w0 g w2 h' L') :
  χ 104 #[.func (.func 106) #[] #[x,y]] w fun e w'=>e=.returned (.tuple #[.agg #[ι 0,ι 0,ι 0],.bool false])/\(∃L',PL L'/\nA s' Z Y wx w0 g w' h' L')/\sL Y w w':=by
 have hb:Bl w ((w.alloc dA).alloc dm):=((Bl.refl w).alloc _).alloc _
 have hsz:((w.alloc dA).alloc dm).heap.size=w.heap.size+1+1:=by simp
 obtain ⟨n0,n1⟩:=bc w #[ι 0,ι 0,ι 0] #[.bool false] 102 4
 have y0:Xp Y w.heap.size ((w.alloc dA).alloc dm).heap.size w.heap.size:=Or.inr ⟨Nat.le_refl _,by omega⟩
 have y1:Xp Y w.heap.size ((w.alloc dA).alloc dm).heap.size (w.heap.size+1):=Or.inr ⟨by omega,by omega⟩
 have hY:∀b,Y b->b<w.heap.size:=fun b hy=>by obtain ⟨vc,vo,vx,-,-,-,-,-,F⟩:=H;exact (F b hy).1
 refine (sU x y (fun w1=>(∃L',PL L'/\nA s' Z (Xp Y w.heap.size ((w.alloc dA).alloc dm).heap.size) wx w0 g w1 h' L')/\sL Y w w1) w ?_).mono ?_
 ·refine (hs _ _ _ (fun b hy=>hb.block b (hY b hy)) (H.wide hb)).mono ?_
  rintro e w1 ⟨rfl,L',hp,H1⟩
  obtain ⟨H2,K2⟩:=H.back hb H1
  refine ⟨rfl,K2.at y0 n0,K2.at y1 n1,⟨L',hp,H2⟩,Nat.le_trans hb.size K2.size,fun b hy=>?_⟩
  rw [K2.blk b (Or.inl hy),hb.block b (hY b hy)]
 ·rintro e w' ⟨rfl,w1,⟨⟨L',hp,H1⟩,K1⟩,rfl⟩
  have H2:=(((H1.set y0 0 (ι 0)).set y0 1 (ι 0)).set y0 2 (ι 0)).set y1 0 (.bool false)
  have C9:=K1.size
  refine ⟨rfl,⟨L',hp,H2.less (fun b hy=>Or.inl hy)⟩,by simp [World.setCell];omega,fun b hy=>?_⟩
  have hlt:=hY b hy
  rw [ak (by omega),ak (by omega),ak (by omega),ak (by omega)]
  exact K1.blk b hy
end
theorem Jp (s:Nat) (Z:Nat->Prop) (wx w0:World) (g:Mg) (h:Hp) (L:List Kl) (v:Va) (rb tb:Nat) (w:World) (H:RR s Z wx w0 g w h L) (F:Fix w0 g h) (hf:h.objs.length<=100) (hv:v.kind=3) (h0:0<=v.n) (hn:v.n<h.objs.length) (ht:h.thrown=v.n) (hok:∀k∈L,hJ k.c) (hlen:L.length<=1000) (c0:κ w rb 0 (π g.r 0)) (c1:κ w tb 0 (ι (im v).kind)) (c2:κ w tb 1 (ι (im v).n)) :
  χ 106 #[π rb 0,π tb 0] w fun e w'=>Vt s Z wx w0 g (unwM h (L.map (·.c))) e w':=by
 have HU:=ae (unwind_any s Z wx w0 g h L v w H F hf hv h0 hn ht hok hlen)
 obtain ⟨o,ho⟩:∃o,unwM h (L.map (·.c))=o:=⟨_,rfl⟩
 rw [ho] at HU ⊢
 clear H F hf hv h0 hn ht hok hlen ho
 cases hfin:o.fin with
 | false =>
  have Co:=ae hfin
  clear hfin
  go_enter func106,ntmps106
  go_wp2_with (go_at_call 107;refine Calls.mono HU.o ?_;rintro e w1 hq;obtain ⟨rfl,hr⟩:=hq.1 Co.o;replace hr:=ae hr;clear hq)
  go_end0
  exact ⟨fun _=>⟨rfl,hr.o⟩,fun z=>by rw [Co.o] at z;cases z⟩
 | true =>
  have Co:=ae hfin
  clear hfin
  go_enter func106,ntmps106
  go_wp2_with (go_at_call 107;refine Calls.mono HU.o ?_;rintro e w1 hq;obtain ⟨rfl,hr⟩:=hq.2 Co.o;replace hr:=ae hr;clear hq)
  exact ⟨rfl,⟨(fun z=>by rw [Co.o] at z;cases z),fun _=>⟨rfl,hr.o⟩⟩⟩
def Jq (r:Nat) (w:World):Nat:=match w.cell? ⟨r,5,none⟩,w.cell? ⟨r,6,none⟩ with
 | some (.int _ a),some (.int _ b)=>(a-b).toNat
 | _,_=>0
theorem ov (H:RR s Z wx w0 g w h L):Jq g.r w=(h.fuel-h.sh.steps).toNat:=by
 unfold Jq
 rw [H.hx.c56.1,H.hx.c56.2.1]
abbrev Jr (w:World) (g:Mg) (Q:Ending->World->Prop):Prop:=χ 105 #[π g.r 0] w Q
def StA (I:Nat->Hp->List aL->Prop) (w0:World) (g:Mg) (n:Nat) (h:Hp) (L:List Kl):Prop :=
 ∃n' h' cs',runM n h (L.map (·.c))=runM n' h' cs'/\I n' h' cs'/\(h'.fuel-h'.sh.steps).toNat<(h.fuel-h.sh.steps).toNat
  /\ ∀Z wx w,RR 0 Z wx w0 g w h L->Jr w g fun e w'=>e=.returned (.tuple #[])/\∃L':List Kl,L'.map (·.c)=cs'/\RR 0 Z wx w0 g w' h' L'
def StB (w0:World) (g:Mg) (n:Nat) (h:Hp) (L:List Kl):Prop :=
 ∃how v h',runM n h (L.map (·.c))=kK how v h'/\how≠2
  /\ ∀Z wx w,RR 0 Z wx w0 g w h L->Jr w g fun e w'=>e=bF how (im v).kind (im v).n/\∃L':List Kl,True/\RR 0 Z wx w0 g w' h' L'
def StC (I:Nat->Hp->List aL->Prop) (w0:World) (g:Mg) (n:Nat) (h:Hp) (L:List Kl):Prop :=
 ∃n' h1 o1,∃v:Va,runM n h (L.map (·.c))=(if o1.fin=true then o1 else runM n' o1.h o1.cs)/\(o1.fin=false->I n' o1.h o1.cs/\(o1.h.fuel-o1.h.sh.steps).toNat<(h.fuel-h.sh.steps).toNat)
  /\ (v.kind=3/\0<=v.n/\v.n<h1.objs.length/\h1.thrown=v.n)/\Fix w0 g h1/\h1.objs.length<=100
  /\ ∀Z wx w,RR 0 Z wx w0 g w h L->Jr w g fun e w'=>e=bF 2 3 (v.n+1)/\∃L1:List Kl,(unwM h1 (L1.map (·.c))=o1/\(∀k∈L1,hJ k.c)/\L1.length<=1000)/\RR 0 Z wx w0 g w' h1 L1
def Js (I:Nat->Hp->List aL->Prop) (w0:World) (g:Mg):Prop:=∀n h L,I n h (L.map (·.c))->StA I w0 g n h L∨StB w0 g n h L∨StC I w0 g n h L
abbrev XU (g:Mg):Obj:=.cells #[π g.r 0] 80
def sF (n:Nat):Nat->Prop:=fun b=>b=n∨b=n+1
def RO (I:Nat->Hp->List aL->Prop) (Z:Nat->Prop) (wx w0:World) (g:Mg) (o:Mo) (n0:Nat) (wr:World):Prop :=
 ∃n h,∃L:List Kl,o=runM n h (L.map (·.c))/\I n h (L.map (·.c))/\nA 0 Z (sF n0) wx w0 g wr h L/\wr.heap[n0]?=some (XU g)/\wr.heap[n0+1]?=some dA
def RP (Z:Nat->Prop) (wx w0:World) (g:Mg) (o:Mo) (e:Ending) (w':World):Prop :=
 e=.returned (.agg #[ι o.how,ι (im o.v).kind,ι (im o.v).n])/\∃L':List Kl,RR 0 Z wx w0 g w' o.h L'
theorem tX:(Tryz.prog.info? 102).map (·.size)=some 3:=by kernel_rfl
theorem Jt {u0 u1 u2:Value} {t:TypeId} (h:w.heap[b]?=some (.cells #[u0,u1,u2] t (0,0))) (v0 v1 v2:Value):(((w.setCell ⟨b,0,none⟩ v0).setCell ⟨b,1,none⟩ v1).setCell ⟨b,2,none⟩ v2).heap[b]?=some (.cells #[v0,v1,v2] t (0,0)):=by
 rw [ay (ay (ay h _) _)];rfl
theorem until_any (I:Nat->Hp->List aL->Prop) (Z:Nat->Prop) (wx w0:World) (g:Mg) (n:Nat) (h:Hp) (L:List Kl) (w:World) (H:RR 0 Z wx w0 g w h L) (hI:I n h (L.map (·.c))) (hS:Js I w0 g) :
  χ 48 #[π g.r 0] w fun e w'=>RP Z wx w0 g (runM n h (L.map (·.c))) e w':=by
 have HS:=ae hS
 have JI:∀(fn:Fn) (first cap:Array Value) (w:World),(Instr.makeFunc fn first cap).run Tryz.prog w=.ok (.func fn first cap) w:=fun _ _ _ _=>rfl
 obtain ⟨o,ho⟩:∃o,runM n h (L.map (·.c))=o:=⟨_,rfl⟩
 have Sw:Θ (RO I Z wx w0 g o w.heap.size ((w.alloc (XU g)).alloc dA)):=by
  obtain ⟨n0,n1⟩:=bc w #[π g.r 0] #[ι 0,ι 0,ι 0] 80 102
  refine ⟨n,h,L,ho.symm,hI,(H.y.bl (((Bl.refl w).alloc _).alloc _)).less (fun b hb=>Or.inr ?_),n0,n1⟩
  rcases hb with rfl|rfl
  ·exact ⟨Nat.le_refl _,by simp;omega⟩
  ·exact ⟨by omega,by simp⟩
 rw [ho]
 clear H hI hS ho
 go_enter func48,ntmps48
 go_wp2
 go_loopw [] (fun wr=>Θ (RO I Z wx w0 g o w.heap.size wr)) (fun wr=>Jq g.r wr)
 case atStart=>exact Sw.o
 case round =>
  clear Sw
  obtain ⟨n,h,L,ho,hI,hr,pS,hst⟩:=hrel.o
  clear hrel
  have c0:wr.cell? ⟨w.heap.size,0,none⟩=some (π g.r 0):=(ab pS).trans rfl
  have HO:=ae ho
  have HR:=ae hr
  have Vx:=ae pS
  have EY:=ae hst
  rcases HS.o n h L hI with hA|hB|hC
  ·obtain ⟨n',h',cs',e1,e2,e3,e4⟩:=hA
   have HA:=ae e4
   have HE:Θ (o=runM n' h' cs'/\I n' h' cs'/\(h'.fuel-h'.sh.steps).toNat<(h.fuel-h.sh.steps).toNat):=⟨ho.trans e1,e2,e3⟩
   clear e1 e2 e3 e4 ho hI hr pS hst
   go_wp2_with (go_at_call 104;refine (Jo 0 0 Z (sF w.heap.size) wx w0 g h h' L (fun L'=>L'.map (·.c)=cs') wr HR.o HA.o).mono ?_;rintro e w1 ⟨rfl,⟨L',hp,H1⟩,K1⟩;have b1:=K1.at (Or.inl rfl) Vx.o;have b2:=K1.at (Or.inr rfl) EY.o;replace H1:=ae H1;replace hp:=ae hp;replace b1:=ae b1;replace b2:=ae b2;clear K1)
   go_roundw
   case rel =>
    obtain ⟨q1,q2,q3⟩:=HE.o
    refine ⟨n',h',L',by rw [hp.o];exact q1,by rw [hp.o];exact q2,(H1.o.bl ((Bl.refl w1).alloc _)).less (fun b hb=>Or.inl hb),ax ((Bl.refl w1).alloc _) b1.o,ax ((Bl.refl w1).alloc _) b2.o⟩
   case measure =>
    have m1:=ov HR.o.x
    have m2:=ov (H1.o.x.bl ((Bl.refl w1).alloc (.cells #[.int .i64 0,.int .i64 0,.int .i64 0] 102)))
    have m3:=HE.o.2.2
    omega
  ·obtain ⟨how,v,h',e1,e2,e3⟩:=hB
   have HB:=ae e3
   have HE:Θ (o=kK how v h'):=ho.trans e1
   have bX:(how==2)=false:=by simpa using e2
   clear e1 e2 e3 ho hI hr pS hst
   go_wp2_with (go_at_call 104;refine (sE 0 0 Z (sF w.heap.size) wx w0 g h h' L (fun _=>True) how (im v).kind (im v).n wr HR.o HB.o).mono ?_;rintro e w1 ⟨rfl,⟨L',-,H1⟩,K1⟩;have b2:=K1.at (Or.inr rfl) EY.o;have hlt:=af b2;have fz:=aA b2;have y0:w1.cell? ⟨w.heap.size+1,0,none⟩=some (ι 0):=(ab b2).trans rfl;have y1:w1.cell? ⟨w.heap.size+1,1,none⟩=some (ι 0):=(ab b2).trans rfl;have y2:w1.cell? ⟨w.heap.size+1,2,none⟩=some (ι 0):=(ab b2).trans rfl;replace H1:=ae H1;replace b2:=ae b2;clear K1)
   refine bodyPost_ret (results_cell_row rfl _ _ (w.heap.size+1) _ _ _ _ rfl (ax ((Bl.refl _).alloc _) (Jt b2.o _ _ _)) underlying102 rfl tX) rfl ?_
   rw [HE.o]
   exact ⟨rfl,L',(((H1.o.set (Or.inr rfl) 0 _).set (Or.inr rfl) 1 _).set (Or.inr rfl) 2 _).x.bl ((Bl.refl _).alloc _)⟩
  ·obtain ⟨n',h1,o1,v,e1,e2,e3,e4,e5,e8⟩:=hC
   have HC:=ae e8
   have HE:Θ (o=(if o1.fin=true then o1 else runM n' o1.h o1.cs)/\(o1.fin=false->I n' o1.h o1.cs/\(o1.h.fuel-o1.h.sh.steps).toNat<(h.fuel-h.sh.steps).toNat)):=⟨ho.trans e1,e2⟩
   have HV:=ae e3
   have HF:Θ (Fix w0 g h1/\h1.objs.length<=100):=⟨e4,e5⟩
   clear e1 e2 e3 e4 e5 e8 ho hI hr pS hst
   have HK:Θ (∀(w1:World) (L1:List Kl),(unwM h1 (L1.map (·.c))=o1/\(∀k∈L1,hJ k.c)/\L1.length<=1000)->∀Z' Cn w',w'.cell? ⟨w.heap.size,0,none⟩=some (π g.r 0)->w'.cell? ⟨w1.heap.size+1,0,none⟩=some (ι 3)->w'.cell? ⟨w1.heap.size+1,1,none⟩=some (ι (v.n+1))->RR 0 Z' Cn w0 g w' h1 L1 ->
     χ 106 #[π w.heap.size 0,π (w1.heap.size+1) 0] w' fun e w2=>Vt 0 Z' Cn w0 g o1 e w2):=fun w1 L1 BK Z' Cn w' k0 k1 k2 hr=>by
    obtain ⟨v1,v2,v3,v4⟩:=HV.o
    have ei:im v=⟨3,v.n+1⟩:=gp v1
    have:=Jp 0 Z' Cn w0 g h1 L1 v w.heap.size (w1.heap.size+1) w' hr HF.o.1 HF.o.2 v1 v2 v3 v4 BK.2.1 BK.2.2 k0 (by rw [ei];exact k1) (by rw [ei];exact k2)
    rwa [BK.1] at this
   cases hfin:o1.fin with
   | false =>
    have Co:=ae hfin
    clear hfin
    go_wp2_with (first
     | (have:=H1;go_at_call 104;refine (ER 0 0 Z (Xp (sF w.heap.size) w1.heap.size ((w1.alloc (.cells #[ι 2,ι 3,ι (v.n+1)] 102)).alloc (.cells #[ι 3,ι (v.n+1)] 100)).heap.size) wx w0 g h1 o1.h L1 (fun L'=>L'.map (·.c)=o1.cs) _ _ _ (H1.o.bl (((Bl.refl w1).alloc _).alloc _)) (fun Z' Cn w' hkp hr=>(HK.o w1 L1 hp.o Z' Cn w' ((ab ((hkp _ (Xp.old (Or.inl rfl))).trans (ax (((Bl.refl w1).alloc _).alloc _) b1.o))).trans rfl) ((ab ((hkp _ (Xp.new (Nat.le_succ _) (dg w1 _ _))).trans HT.o.2)).trans rfl) ((ab ((hkp _ (Xp.new (Nat.le_succ _) (dg w1 _ _))).trans HT.o.2)).trans rfl) hr).mono (fun e w2 hq=>hq.1 Co.o))).mono ?_;rintro e w2 ⟨rfl,⟨L',qY,H2⟩,K2⟩;have s1:=K2.at (Xp.new (Nat.le_refl _) (oJ w1 _ _)) HT.o.1;have r1:=K2.at (Xp.old (Or.inl rfl)) (ax (((Bl.refl w1).alloc _).alloc _) b1.o);have r2:=K2.at (Xp.old (Or.inr rfl)) (ax (((Bl.refl w1).alloc _).alloc _) b2.o);have fz:=aA s1;have y0:w2.cell? ⟨w1.heap.size,0,none⟩=some (ι 2):=(ab s1).trans rfl;have y1:w2.cell? ⟨w1.heap.size,1,none⟩=some (ι 3):=(ab s1).trans rfl;have y2:w2.cell? ⟨w1.heap.size,2,none⟩=some (ι (v.n+1)):=(ab s1).trans rfl;replace H2:=ae H2;replace qY:=ae qY;replace s1:=ae s1;replace r1:=ae r1;replace r2:=ae r2;clear K2)
     | (go_at_call 104;refine (sE 0 0 Z (sF w.heap.size) wx w0 g h h1 L (fun L'=>unwM h1 (L'.map (·.c))=o1/\(∀k∈L',hJ k.c)/\L'.length<=1000) 2 3 (v.n+1) wr HR.o HC.o).mono ?_;rintro e w1 ⟨rfl,⟨L1,hp,H1⟩,K1⟩;have b1:=K1.at (Or.inl rfl) Vx.o;have b2:=K1.at (Or.inr rfl) EY.o;have sM:=af b1;have EX:=af b2;have HT:=ae (bc w1 #[ι 2,ι 3,ι (v.n+1)] #[ι 3,ι (v.n+1)] 102 100);replace H1:=ae H1;replace hp:=ae hp;replace b1:=ae b1;replace b2:=ae b2;clear K1))
    go_roundw
    case rel =>
     obtain ⟨q1,q2⟩:=HE.o
     rw [Co.o,if_neg (by decide)] at q1
     have hy:(Xp (sF w.heap.size) w1.heap.size ((w1.alloc (.cells #[ι 2,ι 3,ι (v.n+1)] 102)).alloc (.cells #[ι 3,ι (v.n+1)] 100)).heap.size) w1.heap.size:=Xp.new (Nat.le_refl _) (oJ w1 _ _)
     refine ⟨n',o1.h,L',by rw [qY.o];exact q1,by rw [qY.o];exact (q2 Co.o).1,(((H2.o.set hy 0 _).set hy 1 _).set hy 2 _).less (fun b hb=>Or.inl hb),?_,?_⟩
     ·rw [ak (by omega),ak (by omega),ak (by omega)];exact r1.o
     ·rw [ak (by omega),ak (by omega),ak (by omega)];exact r2.o
    case measure =>
     have hy:(Xp (sF w.heap.size) w1.heap.size ((w1.alloc (.cells #[ι 2,ι 3,ι (v.n+1)] 102)).alloc (.cells #[ι 3,ι (v.n+1)] 100)).heap.size) w1.heap.size:=Xp.new (Nat.le_refl _) (oJ w1 _ _)
     have m1:=ov HR.o.x
     have m2:=ov (((H2.o.set hy 0 (.int .i64 0)).set hy 1 (.int .i64 0)).set hy 2 (.int .i64 0)).x
     have m3:=(HE.o.2 Co.o).2
     omega
   | true =>
    have Co:=ae hfin
    clear hfin
    go_wp2_with (first
     | (have:=H1;go_at_call 104;refine (EP 0 0 Z (Xp (sF w.heap.size) w1.heap.size ((w1.alloc (.cells #[ι 2,ι 3,ι (v.n+1)] 102)).alloc (.cells #[ι 3,ι (v.n+1)] 100)).heap.size) wx w0 g h1 o1.h L1 (fun _=>True) _ _ o1.how (im o1.v).kind (im o1.v).n _ (H1.o.bl (((Bl.refl w1).alloc _).alloc _)) (fun Z' Cn w' hkp hr=>(HK.o w1 L1 hp.o Z' Cn w' ((ab ((hkp _ (Xp.old (Or.inl rfl))).trans (ax (((Bl.refl w1).alloc _).alloc _) b1.o))).trans rfl) ((ab ((hkp _ (Xp.new (Nat.le_succ _) (dg w1 _ _))).trans HT.o.2)).trans rfl) ((ab ((hkp _ (Xp.new (Nat.le_succ _) (dg w1 _ _))).trans HT.o.2)).trans rfl) hr).mono (fun e w2 hq=>⟨(hq.2 Co.o).1,by obtain ⟨L',hL'⟩:=(hq.2 Co.o).2;exact ⟨L',trivial,hL'⟩⟩))).mono ?_;rintro e w2 ⟨rfl,⟨L',-,H2⟩,K2⟩;have s1:=K2.at (Xp.new (Nat.le_refl _) (oJ w1 _ _)) HT.o.1;have r1:=K2.at (Xp.old (Or.inl rfl)) (ax (((Bl.refl w1).alloc _).alloc _) b1.o);have r2:=K2.at (Xp.old (Or.inr rfl)) (ax (((Bl.refl w1).alloc _).alloc _) b2.o);have fz:=aA s1;have y0:w2.cell? ⟨w1.heap.size,0,none⟩=some (ι 2):=(ab s1).trans rfl;have y1:w2.cell? ⟨w1.heap.size,1,none⟩=some (ι 3):=(ab s1).trans rfl;have y2:w2.cell? ⟨w1.heap.size,2,none⟩=some (ι (v.n+1)):=(ab s1).trans rfl;have fzr:=aA r2;have x0:w2.cell? ⟨w.heap.size+1,0,none⟩=some (ι 0):=(ab r2).trans rfl;have x1:w2.cell? ⟨w.heap.size+1,1,none⟩=some (ι 0):=(ab r2).trans rfl;have x2:w2.cell? ⟨w.heap.size+1,2,none⟩=some (ι 0):=(ab r2).trans rfl;have Qr:w.heap.size+1≠w1.heap.size:=(by omega);have NM:w1.heap.size≠w.heap.size+1:=(by omega);replace H2:=ae H2;replace s1:=ae s1;replace r1:=ae r1;replace r2:=ae r2;clear K2)
     | (go_at_call 104;refine (sE 0 0 Z (sF w.heap.size) wx w0 g h h1 L (fun L'=>unwM h1 (L'.map (·.c))=o1/\(∀k∈L',hJ k.c)/\L'.length<=1000) 2 3 (v.n+1) wr HR.o HC.o).mono ?_;rintro e w1 ⟨rfl,⟨L1,hp,H1⟩,K1⟩;have b1:=K1.at (Or.inl rfl) Vx.o;have b2:=K1.at (Or.inr rfl) EY.o;have sM:=af b1;have EX:=af b2;have HT:=ae (bc w1 #[ι 2,ι 3,ι (v.n+1)] #[ι 3,ι (v.n+1)] 102 100);replace H1:=ae H1;replace hp:=ae hp;replace b1:=ae b1;replace b2:=ae b2;clear K1))
    have hy:(Xp (sF w.heap.size) w1.heap.size ((w1.alloc (.cells #[ι 2,ι 3,ι (v.n+1)] 102)).alloc (.cells #[ι 3,ι (v.n+1)] 100)).heap.size) w1.heap.size:=Xp.new (Nat.le_refl _) (oJ w1 _ _)
    have hz:(Xp (sF w.heap.size) w1.heap.size ((w1.alloc (.cells #[ι 2,ι 3,ι (v.n+1)] 102)).alloc (.cells #[ι 3,ι (v.n+1)] 100)).heap.size) (w.heap.size+1):=Xp.old (Or.inr rfl)
    have r3:(((w2.setCell ⟨w1.heap.size,0,none⟩ (ι o1.how)).setCell ⟨w1.heap.size,1,none⟩ (ι (im o1.v).kind)).setCell ⟨w1.heap.size,2,none⟩ (ι (im o1.v).n)).heap[w.heap.size+1]?=some (.cells #[ι 0,ι 0,ι 0] 102 (0,0)):=by
     rw [ak (by omega),ak (by omega),ak (by omega)];exact r2.o
    refine bodyPost_ret (results_cell_row rfl _ _ (w.heap.size+1) _ _ _ _ rfl (Jt r3 _ _ _) underlying102 rfl tX) rfl ?_
    have q1:=HE.o.1
    rw [Co.o,if_pos rfl] at q1
    rw [q1]
    exact ⟨rfl,L',((((((H2.o.set hy 0 _).set hy 1 _).set hy 2 _).set hz 0 _).set hz 1 _).set hz 2 _).x⟩
abbrev Td (w:World) (q:Nat) (Q:Ending->World->Prop):Prop:=χ 70 #[π q 0] w Q
def Te (w0:World) (g:Mg) (h:Hp) (k:Kl) (L:List Kl) (o:Mo):Prop :=
 o.fin=false/\∀Z wx w,RR 1 Z wx w0 g w h (k::L)->Td w k.a.q fun e w'=>e=.returned (.tuple #[])/\∃L':List Kl,L'.map (·.c)=o.cs/\RR 0 Z wx w0 g w' o.h L'
def RQ (w0:World) (g:Mg) (h:Hp) (k:Kl) (L:List Kl) (o:Mo):Prop :=
 (o=kK o.how o.v o.h/\o.how≠2)/\∀Z wx w,RR 1 Z wx w0 g w h (k::L)->Td w k.a.q fun e w'=>e=bF o.how (im o.v).kind (im o.v).n/\∃L':List Kl,True/\RR 0 Z wx w0 g w' o.h L'
def XV (w0:World) (g:Mg) (h:Hp) (k:Kl) (L:List Kl) (o:Mo):Prop :=
 ∃h1 Tf,o=unwM h1 Tf/\0<=h1.thrown/\h1.over=false/\Gh 0 h1/\Kd h1/\Le h h1/\IC h1 Tf/\h1.calls=(Tf.length:Int)
  /\ ∀Z wx w,RR 1 Z wx w0 g w h (k::L)->Td w k.a.q fun e w'=>e=bF 2 3 (h1.thrown+1)/\∃L1:List Kl,(unwM h1 (L1.map (·.c))=o/\(∀y∈L1,hJ y.c)/\L1.length<=1000)/\RR 0 Z wx w0 g w' h1 L1
theorem Gc.hands (g:Gc h c) (hp:0<=c.pc/\c.pc<=c.m.code.length):hJ c:=by
 obtain ⟨p1,p2,p3,p5,p6,p7,p8,p9,N0,PN⟩:=j6 g.me
 refine ⟨fun q hq=>?_,hp.1,by omega⟩
 have:=of_decide_eq_true (N0 _ (bE (d:=eK) hq))
 omega
theorem hJ.same {c':aL} (H:hJ c) (e1:c'.m=c.m) (e2:c'.pc=c.pc):hJ c':=by
 unfold hJ at H ⊢;rw [e1,e2];exact H
theorem Ps (w0:World) (g:Mg) (h:Hp) (k:Kl) (L:List Kl) (i:In) (ho:h.over=false) (ht:h.thrown=-1) (hI:IC h (L.map (·.c))) (hcl:h.calls=((k::L).length:Int)) (hp:0<=k.c.pc/\k.c.pc<k.c.m.code.length) (K:Kept h k.c (bV h k.c i)) (hd:∀X wx w,RX 1 X wx w0 g w h (kM (k::L)) k.a k.c->Td w k.a.q fun e w'=>SG X wx w0 g (kM (k::L)) k.a k.c (bV h k.c i) e w') :
  Te w0 g h k L (rB (bV h k.c i) (L.map (·.c)))∨RQ w0 g h k L (rB (bV h k.c i) (L.map (·.c)))∨XV w0 g h k L (rB (bV h k.c i) (L.map (·.c))):=by
 have hnt:BC (bV h k.c i).h:=rH (fun o=>by rw [ho] at o;cases o) k.c i
 have hlo:=Di ht k.c i
 generalize bV h k.c i=d at *
 unfold rB
 by_cases cY:d.h.over=true
 ·rw [if_pos cY]
  refine Or.inr (Or.inl ⟨⟨rfl,hnt cY⟩,fun Z wx w H=>(hd _ _ _ H.top).mono ?_⟩)
  intro e w' q
  have hs:d.h.stops=true:=by unfold Hp.stops;rw [cY];rfl
  obtain ⟨c',d1,d2,H'⟩:=q.stop hs
  obtain ⟨JF,l',H2⟩:=H.of H'
  refine ⟨?_,_,trivial,H2⟩
  rw [q.how];unfold mV;rw [if_pos cY];rfl
 ·rw [if_neg cY]
  have sY:d.h.over=false:=by simpa using cY
  by_cases iG:0<=d.h.thrown
  ·rw [if_pos iG]
   refine Or.inr (Or.inr ⟨d.h,d.c::L.map (·.c),rfl,iG,sY,K.gh,K.kd,K.le,?_,?_,?_⟩)
   ·intro x hx
    rcases List.mem_cons.1 hx with rfl|hx
    ·exact ⟨K.gc sY,by rw [K.pc];exact hp.1,by rw [K.pc,K.m];exact hp.2⟩
    ·exact hI.le K.le x hx
   ·rw [K.le.calls,hcl];simp
   ·intro Z wx w H
    refine (hd _ _ _ H.top).mono ?_
    intro e w' q
    have hs:d.h.stops=true:=by unfold Hp.stops;rw [decide_eq_true iG];simp
    obtain ⟨c',d1,d2,H'⟩:=q.stop hs
    obtain ⟨JF,l',H2⟩:=H.of H'
    refine ⟨?_,_,⟨?_,?_,?_⟩,H2⟩
    ·rw [q.how];unfold mV;rw [if_neg cY,if_pos iG]
    ·exact unw_same (d1.trans K.m.symm) (d2.1.trans K.pc.symm) (d2.2.trans (hlo iG).symm)
    ·intro y hy
     rcases List.mem_cons.1 hy with rfl|hy
     ·exact ((K.gc sY).hands (by rw [K.pc,K.m];omega)).same (d1.trans K.m.symm) (d2.1.trans K.pc.symm)
     ·have:=hI y.c (List.mem_map_of_mem hy)
      exact this.1.hands ⟨this.2.1,by omega⟩
    ·have:=K.gh.calls
     rw [K.le.calls,hcl] at this
     simp at this ⊢
     omega
  ·rw [if_neg iG]
   refine Or.inl ⟨rfl,fun Z wx w H=>(hd _ _ _ H.top).mono ?_⟩
   intro e w' q
   have hs:d.h.stops=false:=by unfold Hp.stops;rw [sY,decide_eq_false iG];rfl
   obtain ⟨JF,l',H2⟩:=H.of (q.go hs)
   refine ⟨?_,_,?_,H2⟩
   ·rw [q.how];unfold mV;rw [if_neg cY,if_neg iG]
   ·rfl
theorem RR.less (H:RR 1 Z wx w0 g w h L):RR 0 Z wx w0 g w h L:=by
 obtain ⟨vc,vo,vx,R,hl,z1,z2,K⟩:=H
 exact ⟨vc,vo,vx,R.less,hl,z1,z2,K⟩
theorem RR.kp {n:Nat} (H:RR s (Xp Z n wx.heap.size) wx w0 g w h L):sL (Xp Ko n wx.heap.size) wx w:=by
 obtain ⟨vc,vo,vx,R,hl,z1,z2,K⟩:=H
 exact ⟨K.size,fun b hb=>(K.blk b (Or.inr (hb.resolve_left (fun x=>x)))).2⟩
section
variable (w0:World) (g:Mg) (h:Hp) (k:Kl) (L:List Kl)
theorem Pt (ho:h.over=false) (ht:h.thrown=-1) (gc:Gc h k.c) (hp:¬k.c.pc<k.c.m.code.length):RQ w0 g h k L (kK 6 aE h):=by
 refine ⟨⟨rfl,(by show (6:Int)≠2;decide)⟩,fun Z wx w H=>?_⟩
 have h7:=(j6 gc.me).2.2.2.2.2.1
 refine (OG _ _ w0 g h _ k.a k.c w H.top (by unfold Hp.stops;rw [ho,ht];rfl) (by omega) (by unfold maxLen;omega)).mono ?_
 rintro e w' ⟨rfl,H'⟩
 obtain ⟨JF,l',H2⟩:=H.of H'
 exact ⟨rfl,_,trivial,H2.less⟩
theorem Cp (v:Va) (hop:(nth eR k.c.m.code k.c.pc.toNat).op=20) (hp:0<=k.c.pc/\k.c.pc<k.c.m.code.length) (hI:IC h (L.map (·.c))) (hlen:L.length<=100) (hv:0<=v.kind/\v.kind<=3) (hres:∀X wx w,RX 1 X wx w0 g w h (kM (k::L)) k.a k.c->χ 133 #[π k.a.q 0,ι (nth eR k.c.m.code k.c.pc.toNat).a] w fun e w'=>e=.returned (cm (im v))/\Bl w w') :
  Te w0 g h k L (kU h.leave v (L.map (·.c)))∨RQ w0 g h k L (kU h.leave v (L.map (·.c))):=by
 cases L with
 | nil =>
  refine Or.inr ⟨⟨rfl,(by show (1:Int)≠2;decide)⟩,fun Z wx w H=>?_⟩
  obtain ⟨cb,co,Q,q,A⟩:=H.top.ati hp
  have hd:=ya (fun e w'=>e=bF 1 (im v).kind (im v).n/\RR 1 Z wx w0 g w' h []) _ _ w0 g h _ k.a k.c w H.top _ _ _ _ _ _ cb co Q q _ A hop (im v) _ (fun w' hb=>hres _ _ w' (H.top.bl hb)) (fun w1 hb=>(yf 1 Z wx w0 g h k v w1 (H.bl hb)).mono fun e w2 z=>⟨z.1,z⟩)
  refine hd.mono ?_
  rintro e w' ⟨rfl,H'⟩
  exact ⟨rfl,[],trivial,H'.less.leave⟩
 | cons k2 L2 =>
  have h2:=hI k2.c (by simp)
  have EX:L2.length<=100:=by simp at hlen;omega
  have h7:=(j6 h2.1.me).2.2.2.2.2.1
  have Bn:0<=k2.c.pc/\k2.c.pc<9223372036854775807:=⟨h2.2.1,by have:=h2.2.2;omega⟩
  refine Or.inl ⟨rfl,fun Z wx w H=>?_⟩
  obtain ⟨cb,co,Q,q,A⟩:=H.top.ati hp
  have hd:=DU (fun e w'=>e=.returned (.tuple #[])/\∃vs l,RR 1 Z wx w0 g w' h (⟨k2.a,{ k2.c with giv:=v,cau:=aE,pc:=k2.c.pc+1 },vs,l⟩::L2)) _ _ w0 g h _ k.a k.c w H.top _ _ _ _ _ _ cb co Q q _ A hop (im v) (fun w' hb=>hres _ _ w' (H.top.bl hb)) (fun w1 hb=>?_)
  ·refine hd.mono ?_
   rintro e w' ⟨rfl,JF,l',H'⟩
   exact ⟨rfl,_,rfl,H'.less.leave⟩
  ·refine (ye 1 _ w1 w0 g h k k2 L2 v w1 (H.wide hb) EX _ _ (Or.inl rfl) (fun X wx w H=>Ib 1 X wx w0 g h _ k2.a k2.c v w H Bn hv)).mono ?_
   rintro e w2 ⟨rfl,⟨JF,l',H2⟩,hk⟩
   exact ⟨rfl,⟨rfl,JF,l',H.back hb H2⟩,H2.kp,hk _ (Or.inl rfl)⟩
end
theorem RX.ati2 {X:Nat->Prop} {qs:List Qb} {a:Mc} (H:RX s X wx w0 g w h qs a c) (hp:0<=c.pc/\c.pc<c.m.code.length):∃cb co Q q,vY w a c (nth eR c.m.code c.pc.toNat) cb co Q q c.pc.toNat/\aU w0 Q (nth eR c.m.code c.pc.toNat).args:=by
 obtain ⟨vc,vo,vx,vs,l,H⟩:=H
 have hm:=H.ca.me.2.1
 have b:=H.rh.bl
 rcases hm.2 with h0|⟨cb,co,hC,hi⟩
 ·omega
 obtain ⟨k0,k1,k2,k3,k4,-,Q,q,k5,hI⟩:=hi c.pc.toNat (by omega)
 exact ⟨cb,co,Q,q,⟨hC,by omega,by omega,hm.1,b.cell k0,b.cell k1,b.cell k2,b.cell k3,b.cell k4,b.cell k5⟩,hI⟩
theorem RR.three (H:RR s Z wx w0 g w h L) {k:Kl} (hk:k∈L) {mb mo:Nat} (hM:g.M=some ⟨mb,mo,none⟩) {o:Nat} {v:Value} (hc:κ w0 b o v) :
  w.cell? ⟨k.a.q,1,none⟩=some (π g.r 0)/\w.cell? ⟨g.r,1,none⟩=some (.slice (some ⟨mb,mo,none⟩) h.file.methods.length g.m)/\w.cell? ⟨b,o,none⟩=some v:=by
 obtain ⟨vc,vo,vx,R,hl,z1,z2,K⟩:=H
 exact ⟨(hl.mem hk).cells.c1,by rw [ab R.run,<-hM];rfl,R.bl.cell hc⟩
theorem ES (w0:World) (g:Mg) (h:Hp) (k:Kl) (L:List Kl) (i:In) (sJ:nth eR k.c.m.code k.c.pc.toNat=i) (hop:i.op=18) (ok:pR h.file.classes h.file.methods k.c.m.code.length k.c.m.regs k.c.m.ret.kind i) (tw:BO h.file.classes h.file.methods k.c.m.regs k.c.m.ret.kind i) (dL:nR h.file) (iL:h.file.methods.length<=8) (gh:Gh 1 h) (gc:Gc h k.c) (hp:0<=k.c.pc/\k.c.pc<k.c.m.code.length) (hI:IC h (L.map (·.c))) (hcl:h.calls=((k::L).length:Int)) (F:Fix w0 g h) :
  Te w0 g h k L (vJ h k.c (L.map (·.c)) i)∨RQ w0 g h k L (vJ h k.c (L.map (·.c)) i):=by
 have yG:=gh.calls
 obtain ⟨Vy,Vz,hargs⟩:=ok.call hop
 have hreg:=ok.args hop
 have Pv:=tw.g2 hop
 obtain ⟨op,XW,ib,ic,ii,args⟩:=i
 dsimp only at hop Vy Vz hargs hreg Pv
 obtain ⟨ia,rfl⟩:∃ia:Nat,XW=ia:=⟨XW.toNat,by omega⟩
 have ET:ia<h.file.methods.length:=by omega
 have K9:=dL.2 _ (bE (d:=bT) ET)
 rcases F.mes.2 with z0|⟨mb,mo,hM,hcell⟩
 ·omega
 obtain ⟨P,C,J,p,c,kk,m0,-,-,-,-,-,-,-,hme⟩:=hcell ia ET
 unfold vJ
 dsimp only
 rw [Int.toNat_natCast] at hargs Pv ⊢
 generalize hmE:nth bT h.file.methods ia=m at *
 obtain ⟨p1,p2,p3,p5,p6,p7,p8,p9,N0,PN⟩:=j6 K9.1
 have hlen:=gc.len
 have O:Q3 h k.c args m.params:=⟨hargs,p5,fun j hj=>by have:=hreg j (by omega);omega,fun j hj=>by
   have:=p9 _ (bE (d:=bS) hj)
   unfold fP at this
   rw [decide_eq_true_eq] at this
   omega,fun j hj e=>by have:=Pv j (by omega) e;omega,fun j hj=>(gc.rd (hreg j (by omega))).ref⟩
 have el:=dG k.c args m.params hargs
 have hT:∀{Z wx w},RR 1 Z wx w0 g w h (k::L)->∀{Q q},aU w0 Q args->∀w',Bl w w'->χ 132 #[π k.a.q 0,.slice Q args.length q,.slice P m.params.length p] w' fun e w2=>WW h k.c args m.params w' e w2:=fun {Z wx w} H {Q q} hQ w' hb=>s8 1 _ _ w0 g h _ k.a k.c P Q p q m.params args w' (H.top.bl hb) F gh.len hme.1 hQ O
 have hcs:∀{Z wx w},RR 1 Z wx w0 g w h (k::L)->∀w',Bl w w'->w'.cell? ⟨k.a.q,1,none⟩=some (π g.r 0)/\w'.cell? ⟨g.r,1,none⟩=some (.slice (some ⟨mb,mo,none⟩) h.file.methods.length g.m)/\w'.cell? ⟨mb,mo+ia*8,none⟩=some (.slice P m.params.length p):=fun {Z wx w} H w' hb=>(H.bl hb).three List.mem_cons_self hM m0
 cases he:h.enterL (k.c.rds args m.params) m.params with
 | false =>
  rw [if_pos rfl]
  refine Or.inr ⟨⟨rfl,(by show (6:Int)≠2;decide)⟩,fun Z wx w H=>?_⟩
  obtain ⟨cb,co,Q,q,A,hQ⟩:=H.top.ati2 hp
  rw [sJ] at A hQ
  refine (Av (fun e w'=>e=bF 6 0 0/\Bl w w') _ _ w0 g h _ k.a k.c w H.top op ib ic ii ia args cb co Q q _ A hop mb mo h.file.methods.length m.params.length p P iL ET (hcs H) (fun w' hb=>(hT H hQ w' hb).mono ?_) (fun w2 hb=>⟨rfl,hb⟩)).mono ?_
  ·rintro e w2 (⟨z,-⟩|⟨-,z⟩)
   ·rw [he] at z;cases z
   ·exact z
  ·rintro e w' ⟨rfl,hb⟩
   exact ⟨rfl,_,trivial,(H.bl hb).less⟩
 | true =>
  rw [if_neg (by decide)]
  obtain ⟨s1,s2⟩:=ix h h.file.classes.length _ m.params el he p9
  have XX:∀{Z wx w},RR 1 Z wx w0 g w h (k::L)->∀{Q q},aU w0 Q args->∀w',Bl w w'->χ 132 #[π k.a.q 0,.slice Q args.length q,.slice P m.params.length p] w' fun e w2=>e=.returned (.slice (some ⟨w'.heap.size,0,none⟩) m.params.length m.params.length)/\cu w2 w'.heap.size ((k.c.rds args m.params).map im)/\Bl w' w2:=fun {Z wx w} H {Q q} hQ w' hb=>(hT H hQ w' hb).mono (by
   rintro e w2 (⟨-,z⟩|⟨z,-⟩)
   ·exact z
   ·rw [he] at z;cases z)
  by_cases hd:h.deep=true
  ·rw [if_pos hd]
   refine Or.inr ⟨⟨rfl,(by show (5:Int)≠2;decide)⟩,fun Z wx w H=>?_⟩
   obtain ⟨cb,co,Q,q,A,hQ⟩:=H.top.ati2 hp
   rw [sJ] at A hQ
   have PO:20<=h.calls:=by unfold Hp.deep at hd;simpa using hd
   refine (v8 (fun e w'=>e=bF 5 0 0/\RR 1 Z wx w0 g w' h (k::L)) _ _ w0 g h _ k.a k.c w H.top op ib ic ii ia args cb co Q q _ A hop mb mo h.file.methods.length m.params.length p P iL ET (hcs H) _ _ (XX H hQ) (fun w1 b hb _=>(EO 1 Z wx w0 g h k L w1 (H.bl hb) (ia:Int) _ (by rw [hcl] at PO;omega) (by rw [hcl] at yG;omega)).mono fun e w2 z=>⟨z.1,z⟩)).mono ?_
   rintro e w' ⟨rfl,H'⟩
   exact ⟨rfl,_,trivial,H'.less⟩
  ·rw [if_neg hd]
   have PO:h.calls<20:=by unfold Hp.deep at hd;simp at hd;exact hd
   refine Or.inl ⟨rfl,fun Z wx w H=>?_⟩
   obtain ⟨cb,co,Q,q,A,hQ⟩:=H.top.ati2 hp
   rw [sJ] at A hQ
   refine (Aw (fun e w'=>e=.returned (.tuple #[])/\∃k2:Kl,k2.c=cv m (k.c.rds args m.params)/\RR 1 Z wx w0 g w' h (k2::k::L)) _ _ w0 g h _ k.a k.c w H.top op ib ic ii ia args cb co Q q _ A hop mb mo h.file.methods.length m.params.length p P iL ET (hcs H) _ (XX H hQ) (fun w1 b hb B=>?_)).mono ?_
   ·have:=Ck 1 _ w1 w0 g h (k::L) w1 (H.wide hb) ia m m.regs.toNat b m.params.length (k.c.rds args m.params) (by rw [hcl] at PO;omega) ET hmE F.mes (by omega) (by omega) B (by omega) s2
    rw [el] at this
    refine this.mono ?_
    rintro e w2 ⟨rfl,k2,nI,H2⟩
    exact ⟨rfl,⟨rfl,k2,nI,H.back hb H2⟩,H2.kp,H2.three (List.mem_cons_of_mem _ List.mem_cons_self) hM m0⟩
   ·rintro e w' ⟨rfl,k2,nI,H'⟩
    refine ⟨rfl,k2::k::L,?_,(H'.less).heap (h.calls+1) h.thrown⟩
    show k2.c::k.c::L.map (·.c)=cv m (k.c.rds args m.params)::k.c::L.map (·.c)
    rw [nI]
end Go.Proofs.YtgiiapenmjollaaGreat
