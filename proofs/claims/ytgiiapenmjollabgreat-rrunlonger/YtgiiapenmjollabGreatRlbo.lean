import Derived.Test.YtgiiapenmjollabGreatRlbc
import Derived.Test.YtgiiapenmjollabGreatRlbg
namespace Go.Proofs.YtgiiapenmjollabGreat
set_option linter.all false
set_option maxHeartbeats 40000000
set_option maxRecDepth 100000
open Go.RowKit
def argsN (l:List Va) (at':Nat):List Va→List Va
 | []=>l
 | v::k=>argsN (stoM l at' v) (at'+sizP [v]) k
theorem argsN_snoc:∀(l:List Va) (l0:List Va) (at':Nat) (v:Va),argsN l0 at' (l++[v])=stoM (argsN l0 at' l) (at'+sizP l) v
 | [],l0,at',v=>by simp [argsN,sizP]
 | x::l,l0,at',v=>by
  show argsN (stoM l0 at' x) (at'+sizP [x]) (l++[v])=stoM (argsN (stoM l0 at' x) (at'+sizP [x]) l) (at'+sizP (x::l)) v
  rw [argsN_snoc l,siz_one,Nat.add_assoc]
  rfl
theorem argsN_length:∀(l:List Va) (l0:List Va) (at':Nat),(argsN l0 at' l).length=l0.length
 | [],l0,at'=>rfl
 | x::l,l0,at'=>by
  show (argsN (stoM l0 at' x) (at'+sizP [x]) l).length=_
  rw [argsN_length l,stoM_length]
theorem take_snoc {l:List Va} {k:Nat} (h:k<l.length):l.take (k+1)=l.take k++[nth va0 l k]:=by
 rw [List.take_add_one,nth_get h];simp [List.getElem?_eq_getElem h]
theorem siz_im:∀(l:List Va),sizP (l.map im)=sizP l
 | []=>rfl
 | x::l=>by show (if (im x).kind=2 then 2 else 1)+sizP (l.map im)=_;rw [siz_im l,im_kind];rfl
theorem args_rel:∀(vs:List Va) (l k:List Va) (at':Nat),LRel l k→(∀v∈vs,1≤v.kind∧v.kind≤3)→at'+sizP vs≤l.length→LRel (argsP l at' vs) (argsN k at' (vs.map im))
 | [],l,k,at',h,_,_=>h
 | v::vs,l,k,at',h,hk,hs=>by
  have es:sizP (v::vs)=(if v.kind=2 then 2 else 1)+sizP vs:=rfl
  have hv:=hk v (List.mem_cons_self ..)
  show LRel (argsP (stoP l at' v) (at'+sizP [v]) vs) (argsN (stoM k at' (im v)) (at'+sizP [im v]) (vs.map im))
  have e1:sizP [im v]=sizP [v]:=by rw [siz_one,siz_one,im_kind]
  rw [e1]
  refine args_rel vs _ _ _ (h.sto (by rw [es] at hs;split at hs<;>omega) v hv (fun e=>by rw [es,if_pos e] at hs;omega)) (fun x hx=>hk x (List.mem_cons_of_mem _ hx)) ?_
  rw [sto_length,siz_one]
  rw [es] at hs
  omega
theorem writeM (lb lc n N:Nat) (l:List Va) (v:Va) (w:World) (B:LBox w lb l) (hN:l.length=N) (hn:n<N) (hl:N≤1000) (h2:v.kind=2→n+1<N) :
  Calls Tryz.prog 132 #[.slice (some ⟨lb,0,none⟩) N lc,.int .i64 (n:Int),mvV v] w fun e w'=>e=.returned (.tuple #[])∧LBox w' lb (stoM l n v)∧w.grownBy w' (some lb):=by
 subst hN
 by_cases hk:v.kind=2
 ·unfold stoM;rw [if_pos hk];exact write_long lb lc n l v w B (h2 hk) hl hk
 ·unfold stoM;rw [if_neg hk];exact write_num lb lc n l v w B hn hl hk
theorem newSlots_any (N:Nat) (us:List Va) (b cap:Nat) (w:World) (B:LBox w b us) (hN:N≤1000) (hfit:sizP us≤N) (hk:∀v∈us,1≤v.kind∧v.kind≤3) :
  Calls Tryz.prog 65 #[.int .i64 (N:Int),.slice (some ⟨b,0,none⟩) us.length cap] w fun e w'=>e=.returned (.slice (some ⟨w.heap.size,0,none⟩) N N)∧LBox w' w.heap.size (argsN (List.replicate N va0) 0 us)∧Bl w w':=by
 have hlen:us.length≤N:=by have:=sizP_ge us;omega
 have hmk:=make_sl N (by omega)
 have HB:=hid B
 have HK:=hid hk
 have HFIT:=hid hfit
 have HS:Hid (Bl w (w.alloc (.cells (vaCells (List.replicate N va0)).toArray 115))∧LBox (w.alloc (.cells (vaCells (List.replicate N va0)).toArray 115)) w.heap.size (argsN (List.replicate N va0) 0 (us.take 0))) :=
  ⟨(Bl.refl w).alloc _,LBox.new w _⟩
 clear B hk hfit
 go_enter Tryz.func65,Tryz.ntmps65
 go_wp2
 go_loopw [6,13] (fun at' i wr=>∃j:Nat,j≤us.length∧i=.int .i64 j∧at'=.int .i64 ((sizP (us.take j):Nat):Int)∧Hid (Bl w wr∧LBox wr w.heap.size (argsN (List.replicate N va0) 0 (us.take j)))) (fun _ i _=>us.length-(intOf i).toNat)
 case atStart=>exact ⟨0,Nat.zero_le _,rfl,by simp [sizP],HS.out⟩
 case round =>
  clear HS hmk
  obtain ⟨j,hj,rfl,rfl,HR⟩:=hrel
  by_cases hjl:j<us.length
  ·have hB:=HB.out.bl HR.out.1
   have x0:=hB.c0 hjl
   have x1:=hB.c1 hjl
   have ets:=take_snoc hjl
   have hv:=HK.out _ (nth_mem (d:=va0) hjl)
   generalize hV:nth va0 us j=v at *
   have hsz:sizP (us.take (j+1))=sizP (us.take j)+(if v.kind=2 then 2 else 1):=by rw [ets,sizP_append,siz_one]
   have hle:sizP (us.take (j+1))≤N:=Nat.le_trans (sizP_takeLe us _) HFIT.out
   have hwd:widI v.kind=(if v.kind=2 then 2 else 1:Nat):=by unfold widI;rw [if_neg (by omega)];split<;>rfl
   have HSZ:=hid hsz
   have hlt:sizP (us.take j)<N:=by split at hsz<;>omega
   have h2:v.kind=2→sizP (us.take j)+1<N:=fun e=>by rw [if_pos e] at hsz;omega
   have HETS:=hid ets
   have HV:=hid hv
   have H2:=hid h2
   obtain ⟨S,hS⟩:∃S,sizP (us.take j)=S:=⟨_,rfl⟩
   have HSE:=hid hS
   obtain ⟨W,hW⟩:∃W,widI v.kind=W:=⟨_,rfl⟩
   have HW:=hid (hW.symm.trans hwd)
   have hWb:0≤W∧W≤2:=by rw [←hW];exact widI_bounds _
   rw [hS]
   rw [hS] at hlt
   clear hB hsz hle hwd h2 ets hv hV
   have bn:=blk_new wr #[.int .i64 v.kind,.int .i64 v.n] 115
   have HBN:=hid bn
   have HNE:Hid (w.heap.size<wr.heap.size):=lt_some HR.out.2.blk
   clear bn hS
   go_wp2_with (first
    | (go_at_call 132;refine (writeM w.heap.size N S N (argsN (List.replicate N va0) 0 (us.take j)) v _ (HR.out.2.bl ((Bl.refl wr).alloc _)) (by rw [argsN_length];simp) hlt hN (by rw [←HSE.out];exact H2.out)).mono ?_;rintro e w1 ⟨rfl,L1,G1⟩;have y0:=c0_of (grown_blk G1 HBN.out (fun e=>by have:=HNE.out;have:=Option.some.inj e;omega));have L1:=hid L1;have G1:=hid G1)
    | (go_at_call 133;refine (width_any _ _).mono ?_;rintro e w2 ⟨he,hw2⟩;rw [hW] at he;subst he;rw [hw2];clear hw2 w2))
   go_roundw
   case rel =>
    have hS:=HSE.out
    have hsz:=HSZ.out
    have hWW:=HW.out
    refine ⟨j+1,by omega,by go_num,?_,?_,?_⟩
    ·rw [hsz,hS,hWW];simp
    ·refine Below.grown (HR.out.1.trans ((Bl.refl wr).alloc _)) G1.out ?_ (fun k hk=>?_)
     ·exact (HR.out.1.trans ((Bl.refl wr).alloc _)).size
     ·cases hk;exact Nat.le_refl _
    ·rw [HETS.out,argsN_snoc,Nat.zero_add,hS];exact L1.out
   case measure=>simp [intOf];omega
  ·obtain rfl:j=us.length:=by omega
   go_wp2
   go_ret
   have:=HR.out.2
   rw [List.take_length] at this
   exact ⟨rfl,this,HR.out.1⟩
theorem newSlots_int (k:Int) (N:Nat) (hkN:k=(N:Int)) (us:List Va) (b cap:Nat) (w:World) (B:LBox w b us) (hN:N≤1000) (hfit:sizP us≤N) (hk:∀v∈us,1≤v.kind∧v.kind≤3) :
  Calls Tryz.prog 65 #[.int .i64 k,.slice (some ⟨b,0,none⟩) us.length cap] w fun e w'=>e=.returned (.slice (some ⟨w.heap.size,0,none⟩) N N)∧LBox w' w.heap.size (argsN (List.replicate N va0) 0 us)∧Bl w w':=by
 subst hkN;exact newSlots_any N us b cap w B hN hfit hk
theorem args_length:∀(l:List Va) (l0:List Va) (at':Nat),(argsP l0 at' l).length=l0.length
 | [],l0,at'=>rfl
 | x::l,l0,at'=>by
  show (argsP (stoP l0 at' x) (at'+sizP [x]) l).length=_
  rw [args_length l,sto_length]
theorem nameW {K:Act→World→Prop} {a:Act} {w:World} (P:World→Prop) (hp:P w) (h:∀V,P V→K a V):K a w:=h w hp
def newRow (g:Mg) (m:Me) (P C J:Option Addr) (p c k lb N:Nat):Array Value :=
 #[.pointer (some ⟨g.hb,0,none⟩),.pointer (some ⟨g.r,0,none⟩),.slice P m.params.length p,.int .i64 m.ret.kind,.int .i64 m.ret.cls,.int .i64 m.stack,.int .i64 m.locs,.int .i64 m.regs,.slice C m.code.length c,.slice J m.hands.length k,.slice (some ⟨lb,0,none⟩) N N,.int .i64 0,.int .i64 0,.int .i64 0,.int .i64 0,.int .i64 0]
structure Begun (g:Mg) (m:Me) (P C J:Option Addr) (p c k N:Nat) (us:List Va) (w:World) (q:Qb) (lb:Nat) (w':World):Prop where
 bl:Bl w w'
 own:w.heap.size≤q.q
 ownl:w.heap.size≤lb
 ownb:w.heap.size≤q.bx
 blk:w'.heap[q.q]?=some (.cells (newRow g m P C J p c k lb N) 119 (0,0))
 box:w'.heap[q.bx]?=some (.cells #[.pointer (some ⟨q.q,0,none⟩)] 108 (0,0))
 loc:LBox w' lb (argsN (List.replicate N va0) 0 us)
def BeginQ (g:Mg) (m:Me) (P C J:Option Addr) (p c k N:Nat) (us:List Va) (w:World) (e:Ending) (w':World):Prop:=∃q lb,e=.returned (.agg (funs q).toArray)∧Begun g m P C J p c k N us w q lb w'
theorem begin_any (g:Mg) (m:Me) (P C J:Option Addr) (p c k N b cap:Nat) (us:List Va) (w:World) (h0:w.cell? ⟨g.r,0,none⟩=some (.pointer (some ⟨g.hb,0,none⟩))) (hkN:m.regs=(N:Int)) (B:LBox w b us) (hN:N≤1000) (hfit:sizP us≤N) (hk:∀v∈us,1≤v.kind∧v.kind≤3) :
  Calls Tryz.prog 31 #[.pointer (some ⟨g.r,0,none⟩),meV m P C J p c k,.slice (some ⟨b,0,none⟩) us.length cap] w fun e w'=>BeginQ g m P C J p c k N us w e w':=by
 have HNS:Hid (∀w',Bl w w'→Calls Tryz.prog 65 #[.int .i64 m.regs,.slice (some ⟨b,0,none⟩) us.length cap] w' fun e w2=>e=.returned (.slice (some ⟨w'.heap.size,0,none⟩) N N)∧LBox w2 w'.heap.size (argsN (List.replicate N va0) 0 us)∧Bl w' w2) :=
  fun w' hb=>newSlots_int m.regs N hkN us b cap w' (B.bl hb) hN hfit hk
 have hmf:∀(fn:Fn) (first cap:Array Value) (w:World),(Instr.makeFunc fn first cap).run Tryz.prog w=.ok (.func fn first cap) w:=fun _ _ _ _=>rfl
 have hlr:=cell_lt h0
 have HAL:Hid (Bl w ((w.alloc (meO m P C J p c k)).alloc (.cells #[.nilFunc,.nilFunc,.nilFunc] 107))):=((Bl.refl w).alloc _).alloc _
 have q0:((w.alloc (meO m P C J p c k)).alloc (.cells #[.nilFunc,.nilFunc,.nilFunc] 107)).heap[w.heap.size+1]?=some (.cells #[.nilFunc,.nilFunc,.nilFunc] 107 (0,0)):=by
  have:=blk_new (w.alloc (meO m P C J p c k)) #[.nilFunc,.nilFunc,.nilFunc] 107
  rwa [World.size_alloc] at this
 have Q0:=hid q0
 have HT:Hid (∀w',Bl ((w.alloc (meO m P C J p c k)).alloc (.cells #[.nilFunc,.nilFunc,.nilFunc] 107)) w'→(fun w'=>Hid (Bl ((w.alloc (meO m P C J p c k)).alloc (.cells #[.nilFunc,.nilFunc,.nilFunc] 107)) w')∧w'.cell? ⟨g.r,0,none⟩=some (.pointer (some ⟨g.hb,0,none⟩))∧w'.cell? ⟨w.heap.size,0,none⟩=some (.slice P m.params.length p)∧w'.cell? ⟨w.heap.size,1,none⟩=some (.int .i64 m.ret.kind)∧w'.cell? ⟨w.heap.size,2,none⟩=some (.int .i64 m.ret.cls)∧w'.cell? ⟨w.heap.size,3,none⟩=some (.int .i64 m.stack)∧w'.cell? ⟨w.heap.size,4,none⟩=some (.int .i64 m.locs)∧w'.cell? ⟨w.heap.size,5,none⟩=some (.int .i64 m.regs)∧w'.cell? ⟨w.heap.size,6,none⟩=some (.slice C m.code.length c)∧w'.cell? ⟨w.heap.size,7,none⟩=some (.slice J m.hands.length k)) w'):=fun w' hb=>by
  have hb2:Bl (w.alloc (meO m P C J p c k)) w':=((Bl.refl _).alloc _).trans hb
  exact ⟨hb,hb.cell (HAL.out.cell h0),hb2.cell (cell_of_new rfl),hb2.cell (cell_of_new rfl),hb2.cell (cell_of_new rfl),hb2.cell (cell_of_new rfl),hb2.cell (cell_of_new rfl),hb2.cell (cell_of_new rfl),hb2.cell (cell_of_new rfl),hb2.cell (cell_of_new rfl)⟩
 clear B hk hfit h0 hkN q0
 go_enter Tryz.func31,Tryz.ntmps31
 go_wp2
 refine wp_region_held_drew (S:=fun w'=>Hid (Bl ((w.alloc (meO m P C J p c k)).alloc (.cells #[.nilFunc,.nilFunc,.nilFunc] 107)) w')∧w'.cell? ⟨g.r,0,none⟩=some (.pointer (some ⟨g.hb,0,none⟩))∧w'.cell? ⟨w.heap.size,0,none⟩=some (.slice P m.params.length p)∧w'.cell? ⟨w.heap.size,1,none⟩=some (.int .i64 m.ret.kind)∧w'.cell? ⟨w.heap.size,2,none⟩=some (.int .i64 m.ret.cls)∧w'.cell? ⟨w.heap.size,3,none⟩=some (.int .i64 m.stack)∧w'.cell? ⟨w.heap.size,4,none⟩=some (.int .i64 m.locs)∧w'.cell? ⟨w.heap.size,5,none⟩=some (.int .i64 m.regs)∧w'.cell? ⟨w.heap.size,6,none⟩=some (.slice C m.code.length c)∧w'.cell? ⟨w.heap.size,7,none⟩=some (.slice J m.hands.length k)) (by kernel_rfl) ?_ (fun hHeld0=>?_)
 ·exact HT.out _ (Bl.refl _).drew
 refine tk (i:=0) (d:=some 9) rfl rfl (by kernel_rfl) (fun _ _ _ h=>h) (by rfl) (by intro _ h;(try dsimp only at h);go_split_ands;go_simp<;>with_reducible rfl) hHeld0 ?_
 try simp only [aS,aN,aT,a0,a1]
 refine tk (i:=1) (d:=some 10) rfl rfl (by kernel_rfl) (fun _ _ _ h=>h) (by rfl) (by intro _ h;(try dsimp only at h);go_split_ands;go_simp<;>with_reducible rfl) hHeld0 ?_
 try simp only [aS,aN,aT,a0,a1]
 refine tk (i:=2) (d:=some 11) rfl rfl (by kernel_rfl) (fun _ _ _ h=>h) (by rfl) (by intro _ h;(try dsimp only at h);go_split_ands;go_simp<;>with_reducible rfl) hHeld0 ?_
 try simp only [aS,aN,aT,a0,a1]
 refine tk (i:=3) (d:=some 12) rfl rfl (by kernel_rfl) (fun _ _ _ h=>h) (by rfl) (by intro _ h;(try dsimp only at h);go_split_ands;go_simp<;>with_reducible rfl) hHeld0 ?_
 try simp only [aS,aN,aT,a0,a1]
 refine tk (i:=4) (d:=some 13) rfl rfl (by kernel_rfl) (fun _ _ _ h=>h) (by rfl) (by intro _ h;(try dsimp only at h);go_split_ands;go_simp<;>with_reducible rfl) hHeld0 ?_
 try simp only [aS,aN,aT,a0,a1]
 refine tk (i:=5) (d:=some 14) rfl rfl (by kernel_rfl) (fun _ _ _ h=>h) (by rfl) (by intro _ h;(try dsimp only at h);go_split_ands;go_simp<;>with_reducible rfl) hHeld0 ?_
 try simp only [aS,aN,aT,a0,a1]
 refine tk (i:=6) (d:=some 15) rfl rfl (by kernel_rfl) (fun _ _ _ h=>h) (by rfl) (by intro _ h;(try dsimp only at h);go_split_ands;go_simp<;>with_reducible rfl) hHeld0 ?_
 try simp only [aS,aN,aT,a0,a1]
 refine tk (i:=7) (d:=some 16) rfl rfl (by kernel_rfl) (fun _ _ _ h=>h) (by rfl) (by intro _ h;(try dsimp only at h);go_split_ands;go_simp<;>with_reducible rfl) hHeld0 ?_
 try simp only [aS,aN,aT,a0,a1]
 refine tk (i:=8) (d:=some 17) rfl rfl (by kernel_rfl) (fun _ _ _ h=>h) (by rfl) (by intro _ h;(try dsimp only at h);go_split_ands;go_simp<;>with_reducible rfl) hHeld0 ?_
 try simp only [aS,aN,aT,a0,a1]
 refine wpAnyH_ready (rs:=[9,12]) (by kernel_rfl) (by simp) ?_
 refine AllReadyH.cons rfl (fun K hK=>?_) (AllReadyH.cons rfl (fun K hK=>?_) (AllReadyH.nil))
 ·go_simp
  go_at_call 65
  refine (HNS.out _ (HAL.out.trans hHeld0.1.out)).mono ?_
  rintro e w1 ⟨rfl,L1,b1⟩
  have hsz0:((w.alloc (meO m P C J p c k)).alloc (.cells #[.nilFunc,.nilFunc,.nilFunc] 107)).drew.heap.size=w.heap.size+1+1:=by simp
  rw [hsz0] at L1
  have hb1:=hid (hHeld0.1.out.trans b1)
  have hL1:=hid L1
  clear L1
  go_wp2_with fail
  refine hK.out _ _ (HT.out _ hb1.out) (fun hHeld1=>?_)
  try simp only [aS,aN,aT,a0,a1]
  refine tk (i:=10) (d:=some 19) rfl rfl (by kernel_rfl) (fun _ _ _ h=>h) (by rfl) (by intro _ h;(try dsimp only at h);go_split_ands;go_simp<;>with_reducible rfl) hHeld1 ?_
  try simp only [aS,aN,aT,a0,a1]
  refine wpAnyH_ready (rs:=[11,12]) (by kernel_rfl) (by simp) ?_
  refine AllReadyH.cons rfl (fun K hK=>?_) (AllReadyH.cons rfl (fun K hK=>?_) (AllReadyH.nil))
  ·go_wp2_with fail
   refine nameW (fun V=>Bl w1 V∧V.heap[w1.heap.size]?=some (.cells (newRow g m P C J p c k (w.heap.size+1+1) N) 119 (0,0))) ⟨(Bl.refl _).alloc _,blk_new _ _ _⟩ (fun V11 h11=>?_)
   have Y11:=hid h11.2
   have b11:=hid h11.1
   have hbY:=hid (hHeld1.1.out.trans h11.1)
   clear h11
   refine hK.out _ _ (HT.out _ hbY.out) (fun hHeld2=>?_)
   try simp only [aS,aN,aT,a0,a1]
   refine rd1 (i:=12) (by kernel_rfl) rfl fun K hK=>?_
   go_simp
   refine nameW (fun V=>Bl (V11) V∧V.heap[V11.heap.size]?=some (.cells #[.pointer none] 108 (0,0))) ?_ (fun V12 h12=>?_)
   ·refine ⟨?_,?_⟩
    ·first|exact (Bl.refl _).alloc _|exact (Bl.refl _).drew.alloc _
    ·first|exact blk_new _ _ _|exact mblk (by simp)
   have X0:=hid h12.2
   have b12:=hid h12.1
   have hbX:=hid (hHeld2.1.out.trans h12.1)
   clear h12
   refine hK.out _ _ (HT.out _ hbX.out) (fun hHeld3=>?_)
   try simp only [aS,aN,aT,a0,a1]
   refine rd1 (i:=13) (by kernel_rfl) rfl fun K hK=>?_
   have x1:=bl_blk (Bl.refl _) X0.out
   have y1:=bl_blk ((Bl.refl _).trans b12.out) Y11.out
   have l1:=hL1.out.bl (((Bl.refl _).trans b11.out).trans b12.out)
   have bW:=hHeld3.1.out
   have r1:=bl_blk bW Q0.out
   have hx0:V12.cell? ⟨V11.heap.size,0,none⟩=some (.pointer none):=by rw [cell_blk x1];rfl
   have fzx:=free_blk x1
   have hqx:=blk_ne x1 y1 (by decide)
   have hlx:=blk_ne x1 l1.blk (by decide)
   have hrx:=blk_ne x1 r1 (by decide)
   have hbs:w.heap.size+1+1≤V11.heap.size:=by have:=hbY.out.size;simp at this;omega
   have hqs:w.heap.size+1+1≤w1.heap.size:=by have:=hb1.out.size;simp at this;omega
   have hls:w.heap.size+1+1≤w.heap.size+1+1:=by exact Nat.le_refl _
   replace x1:=hid x1
   replace y1:=hid y1
   replace l1:=hid l1
   replace r1:=hid r1
   replace hbs:=hid hbs
   replace hqs:=hid hqs
   replace hls:=hid hls
   go_simp
   refine nameW (fun V=>Bl ((w.alloc (meO m P C J p c k)).alloc (.cells #[.nilFunc,.nilFunc,.nilFunc] 107)) V∧Begun g m P C J p c k N us w ⟨w1.heap.size,V11.heap.size⟩ (w.heap.size+1+1) V∧V.heap[w.heap.size+1]?=some (.cells #[.nilFunc,.nilFunc,.nilFunc] 107 (0,0))) ?_ (fun V13 h13=>?_)
   ·have hbb:Bl ((w.alloc (meO m P C J p c k)).alloc (.cells #[.nilFunc,.nilFunc,.nilFunc] 107)) (V12.setCell ⟨V11.heap.size,0,none⟩ (.pointer (some ⟨w1.heap.size,0,none⟩))):=bW.setCell (p:=⟨V11.heap.size,0,none⟩) (by have:=hbs.out;first|(simp;done)|(simp;omega)) _
    refine ⟨hbb,⟨HAL.out.trans hbb,?_,?_,?_,?_,?_,⟨?_⟩⟩,?_⟩
    ·have:=hqs.out;show w.heap.size≤_;dsimp only;omega
    ·have:=hls.out;omega
    ·have:=hbs.out;show w.heap.size≤_;dsimp only;omega
    ·rw [block_far (Ne.symm hqx)];exact y1.out
    ·rw [block_set x1.out];rfl
    ·rw [block_far (Ne.symm hlx)];exact l1.out.blk
    ·rw [block_far (Ne.symm hrx)];exact r1.out
   have B13:=hid h13.2.1
   have bW3:=hid h13.1
   have q1:=h13.2.2
   have w0c:V13.cell? ⟨V11.heap.size,0,none⟩=some (.pointer (some ⟨w1.heap.size,0,none⟩)):=by rw [cell_blk h13.2.1.box];rfl
   clear h13 bW hx0 fzx hqx hlx hrx
   refine hK.out _ _ (HT.out _ bW3.out) (fun hHeld4=>?_)
   try simp only [aS,aN,aT,a0,a1]
   refine wpAnyH_done (by kernel_rfl) ?_ _
   have v0:V13.cell? ⟨w.heap.size+1,0,none⟩=some .nilFunc:=by rw [cell_blk q1];rfl
   have v1:V13.cell? ⟨w.heap.size+1,1,none⟩=some .nilFunc:=by rw [cell_blk q1];rfl
   have v2:V13.cell? ⟨w.heap.size+1,2,none⟩=some .nilFunc:=by rw [cell_blk q1];rfl
   have fz:=free_blk q1
   replace q1:=hid q1
   go_wp2
   have q3:(((V13.setCell ⟨w.heap.size+1,0,none⟩ (.func (.func 67) #[.pointer (some ⟨w1.heap.size,0,none⟩)] #[])).setCell ⟨w.heap.size+1,1,none⟩ (.func (.func 66) #[] #[.pointer (some ⟨V11.heap.size,0,none⟩)])).setCell ⟨w.heap.size+1,2,none⟩ (.func (.func 68) #[.pointer (some ⟨w1.heap.size,0,none⟩)] #[])).heap[w.heap.size+1]?=some (.cells (funs ⟨w1.heap.size,V11.heap.size⟩).toArray 107 (0,0)):=by rw [block_set (block_set (block_set q1.out _) _)];rfl
   refine bodyPost_ret (results_cell_row rfl _ _ (w.heap.size+1) _ _ _ _ rfl q3 Tryz.underlying107 rfl info_call) rfl ?_
   have hB:=B13.out
   have hbs:=hbs.out
   have hqs:=hqs.out
   have hls:=hls.out
   refine ⟨⟨w1.heap.size,V11.heap.size⟩,_,rfl,((hB.bl.setCell (p:=⟨w.heap.size+1,0,none⟩) (Nat.le_succ _) _).setCell (p:=⟨w.heap.size+1,1,none⟩) (Nat.le_succ _) _).setCell (p:=⟨w.heap.size+1,2,none⟩) (Nat.le_succ _) _,hB.own,hB.ownl,hB.ownb,?_,?_,⟨?_⟩⟩
   ·rw [block_far (by dsimp only;omega),block_far (by dsimp only;omega),block_far (by dsimp only;omega)];exact hB.blk
   ·rw [block_far (by dsimp only;omega),block_far (by dsimp only;omega),block_far (by dsimp only;omega)];exact hB.box
   ·rw [block_far (by omega),block_far (by omega),block_far (by omega)];exact hB.loc.blk
  ·go_simp
   refine nameW (fun V=>Bl (w1) V∧V.heap[w1.heap.size]?=some (.cells #[.pointer none] 108 (0,0))) ?_ (fun V12 h12=>?_)
   ·refine ⟨?_,?_⟩
    ·first|exact (Bl.refl _).alloc _|exact (Bl.refl _).drew.alloc _
    ·first|exact blk_new _ _ _|exact mblk (by simp)
   have X0:=hid h12.2
   have b12:=hid h12.1
   have hbX:=hid (hHeld1.1.out.trans h12.1)
   clear h12
   refine hK.out _ _ (HT.out _ hbX.out) (fun hHeld5=>?_)
   try simp only [aS,aN,aT,a0,a1]
   refine rd1 (i:=11) (by kernel_rfl) rfl fun K hK=>?_
   go_wp2_with fail
   refine nameW (fun V=>Bl V12 V∧V.heap[V12.heap.size]?=some (.cells (newRow g m P C J p c k (w.heap.size+1+1) N) 119 (0,0))) ⟨(Bl.refl _).alloc _,blk_new _ _ _⟩ (fun V11 h11=>?_)
   have Y11:=hid h11.2
   have b11:=hid h11.1
   have hbY:=hid (hHeld5.1.out.trans h11.1)
   clear h11
   refine hK.out _ _ (HT.out _ hbY.out) (fun hHeld6=>?_)
   try simp only [aS,aN,aT,a0,a1]
   refine rd1 (i:=13) (by kernel_rfl) rfl fun K hK=>?_
   have x1:=bl_blk ((Bl.refl _).trans b11.out) X0.out
   have y1:=bl_blk (Bl.refl _) Y11.out
   have l1:=hL1.out.bl (((Bl.refl _).trans b12.out).trans b11.out)
   have bW:=hHeld6.1.out
   have r1:=bl_blk bW Q0.out
   have hx0:V11.cell? ⟨w1.heap.size,0,none⟩=some (.pointer none):=by rw [cell_blk x1];rfl
   have fzx:=free_blk x1
   have hqx:=blk_ne x1 y1 (by decide)
   have hlx:=blk_ne x1 l1.blk (by decide)
   have hrx:=blk_ne x1 r1 (by decide)
   have hbs:w.heap.size+1+1≤w1.heap.size:=by have:=hb1.out.size;simp at this;omega
   have hqs:w.heap.size+1+1≤V12.heap.size:=by have:=hbX.out.size;simp at this;omega
   have hls:w.heap.size+1+1≤w.heap.size+1+1:=by exact Nat.le_refl _
   replace x1:=hid x1
   replace y1:=hid y1
   replace l1:=hid l1
   replace r1:=hid r1
   replace hbs:=hid hbs
   replace hqs:=hid hqs
   replace hls:=hid hls
   go_simp
   refine nameW (fun V=>Bl ((w.alloc (meO m P C J p c k)).alloc (.cells #[.nilFunc,.nilFunc,.nilFunc] 107)) V∧Begun g m P C J p c k N us w ⟨V12.heap.size,w1.heap.size⟩ (w.heap.size+1+1) V∧V.heap[w.heap.size+1]?=some (.cells #[.nilFunc,.nilFunc,.nilFunc] 107 (0,0))) ?_ (fun V13 h13=>?_)
   ·have hbb:Bl ((w.alloc (meO m P C J p c k)).alloc (.cells #[.nilFunc,.nilFunc,.nilFunc] 107)) (V11.setCell ⟨w1.heap.size,0,none⟩ (.pointer (some ⟨V12.heap.size,0,none⟩))):=bW.setCell (p:=⟨w1.heap.size,0,none⟩) (by have:=hbs.out;first|(simp;done)|(simp;omega)) _
    refine ⟨hbb,⟨HAL.out.trans hbb,?_,?_,?_,?_,?_,⟨?_⟩⟩,?_⟩
    ·have:=hqs.out;show w.heap.size≤_;dsimp only;omega
    ·have:=hls.out;omega
    ·have:=hbs.out;show w.heap.size≤_;dsimp only;omega
    ·rw [block_far (Ne.symm hqx)];exact y1.out
    ·rw [block_set x1.out];rfl
    ·rw [block_far (Ne.symm hlx)];exact l1.out.blk
    ·rw [block_far (Ne.symm hrx)];exact r1.out
   have B13:=hid h13.2.1
   have bW3:=hid h13.1
   have q1:=h13.2.2
   have w0c:V13.cell? ⟨w1.heap.size,0,none⟩=some (.pointer (some ⟨V12.heap.size,0,none⟩)):=by rw [cell_blk h13.2.1.box];rfl
   clear h13 bW hx0 fzx hqx hlx hrx
   refine hK.out _ _ (HT.out _ bW3.out) (fun hHeld7=>?_)
   try simp only [aS,aN,aT,a0,a1]
   refine wpAnyH_done (by kernel_rfl) ?_ _
   have v0:V13.cell? ⟨w.heap.size+1,0,none⟩=some .nilFunc:=by rw [cell_blk q1];rfl
   have v1:V13.cell? ⟨w.heap.size+1,1,none⟩=some .nilFunc:=by rw [cell_blk q1];rfl
   have v2:V13.cell? ⟨w.heap.size+1,2,none⟩=some .nilFunc:=by rw [cell_blk q1];rfl
   have fz:=free_blk q1
   replace q1:=hid q1
   go_wp2
   have q3:(((V13.setCell ⟨w.heap.size+1,0,none⟩ (.func (.func 67) #[.pointer (some ⟨V12.heap.size,0,none⟩)] #[])).setCell ⟨w.heap.size+1,1,none⟩ (.func (.func 66) #[] #[.pointer (some ⟨w1.heap.size,0,none⟩)])).setCell ⟨w.heap.size+1,2,none⟩ (.func (.func 68) #[.pointer (some ⟨V12.heap.size,0,none⟩)] #[])).heap[w.heap.size+1]?=some (.cells (funs ⟨V12.heap.size,w1.heap.size⟩).toArray 107 (0,0)):=by rw [block_set (block_set (block_set q1.out _) _)];rfl
   refine bodyPost_ret (results_cell_row rfl _ _ (w.heap.size+1) _ _ _ _ rfl q3 Tryz.underlying107 rfl info_call) rfl ?_
   have hB:=B13.out
   have hbs:=hbs.out
   have hqs:=hqs.out
   have hls:=hls.out
   refine ⟨⟨V12.heap.size,w1.heap.size⟩,_,rfl,((hB.bl.setCell (p:=⟨w.heap.size+1,0,none⟩) (Nat.le_succ _) _).setCell (p:=⟨w.heap.size+1,1,none⟩) (Nat.le_succ _) _).setCell (p:=⟨w.heap.size+1,2,none⟩) (Nat.le_succ _) _,hB.own,hB.ownl,hB.ownb,?_,?_,⟨?_⟩⟩
   ·rw [block_far (by dsimp only;omega),block_far (by dsimp only;omega),block_far (by dsimp only;omega)];exact hB.blk
   ·rw [block_far (by dsimp only;omega),block_far (by dsimp only;omega),block_far (by dsimp only;omega)];exact hB.box
   ·rw [block_far (by omega),block_far (by omega),block_far (by omega)];exact hB.loc.blk
 ·go_simp
  refine nameW (fun V=>Bl (((w.alloc (meO m P C J p c k)).alloc (.cells #[.nilFunc,.nilFunc,.nilFunc] 107)).drew) V∧V.heap[w.heap.size+1+1]?=some (.cells #[.pointer none] 108 (0,0))) ?_ (fun V12 h12=>?_)
  ·refine ⟨?_,?_⟩
   ·first|exact (Bl.refl _).alloc _|exact (Bl.refl _).drew.alloc _
   ·first|exact blk_new _ _ _|exact mblk (by simp)
  have X0:=hid h12.2
  have b12:=hid h12.1
  have hbX:=hid (hHeld0.1.out.trans h12.1)
  clear h12
  refine hK.out _ _ (HT.out _ hbX.out) (fun hHeld8=>?_)
  try simp only [aS,aN,aT,a0,a1]
  refine rd1 (i:=9) (by kernel_rfl) rfl fun K hK=>?_
  go_simp
  go_at_call 65
  refine (HNS.out _ (HAL.out.trans hHeld8.1.out)).mono ?_
  rintro e w1 ⟨rfl,L1,b1⟩
  have X1:=hid (bl_blk b1 X0.out)
  have hb1:=hid (hHeld8.1.out.trans b1)
  have hL1:=hid L1
  clear L1
  go_wp2_with fail
  refine hK.out _ _ (HT.out _ hb1.out) (fun hHeld9=>?_)
  try simp only [aS,aN,aT,a0,a1]
  refine tk (i:=10) (d:=some 19) rfl rfl (by kernel_rfl) (fun _ _ _ h=>h) (by rfl) (by intro _ h;(try dsimp only at h);go_split_ands;go_simp<;>with_reducible rfl) hHeld9 ?_
  try simp only [aS,aN,aT,a0,a1]
  refine rd1 (i:=11) (by kernel_rfl) rfl fun K hK=>?_
  go_wp2_with fail
  refine nameW (fun V=>Bl w1 V∧V.heap[w1.heap.size]?=some (.cells (newRow g m P C J p c k (V12.heap.size) N) 119 (0,0))) ⟨(Bl.refl _).alloc _,blk_new _ _ _⟩ (fun V11 h11=>?_)
  have Y11:=hid h11.2
  have b11:=hid h11.1
  have hbY:=hid (hHeld9.1.out.trans h11.1)
  clear h11
  refine hK.out _ _ (HT.out _ hbY.out) (fun hHeld10=>?_)
  try simp only [aS,aN,aT,a0,a1]
  refine rd1 (i:=13) (by kernel_rfl) rfl fun K hK=>?_
  have x1:=bl_blk (((Bl.refl _).trans b1).trans b11.out) X0.out
  have y1:=bl_blk (Bl.refl _) Y11.out
  have l1:=hL1.out.bl ((Bl.refl _).trans b11.out)
  have bW:=hHeld10.1.out
  have r1:=bl_blk bW Q0.out
  have hx0:V11.cell? ⟨w.heap.size+1+1,0,none⟩=some (.pointer none):=by rw [cell_blk x1];rfl
  have fzx:=free_blk x1
  have hqx:=blk_ne x1 y1 (by decide)
  have hlx:=blk_ne x1 l1.blk (by decide)
  have hrx:=blk_ne x1 r1 (by decide)
  have hbs:w.heap.size+1+1≤w.heap.size+1+1:=by exact Nat.le_refl _
  have hqs:w.heap.size+1+1≤w1.heap.size:=by have:=hb1.out.size;simp at this;omega
  have hls:w.heap.size+1+1≤V12.heap.size:=by have:=hbX.out.size;simp at this;omega
  replace x1:=hid x1
  replace y1:=hid y1
  replace l1:=hid l1
  replace r1:=hid r1
  replace hbs:=hid hbs
  replace hqs:=hid hqs
  replace hls:=hid hls
  go_simp
  refine nameW (fun V=>Bl ((w.alloc (meO m P C J p c k)).alloc (.cells #[.nilFunc,.nilFunc,.nilFunc] 107)) V∧Begun g m P C J p c k N us w ⟨w1.heap.size,w.heap.size+1+1⟩ (V12.heap.size) V∧V.heap[w.heap.size+1]?=some (.cells #[.nilFunc,.nilFunc,.nilFunc] 107 (0,0))) ?_ (fun V13 h13=>?_)
  ·have hbb:Bl ((w.alloc (meO m P C J p c k)).alloc (.cells #[.nilFunc,.nilFunc,.nilFunc] 107)) (V11.setCell ⟨w.heap.size+1+1,0,none⟩ (.pointer (some ⟨w1.heap.size,0,none⟩))):=bW.setCell (p:=⟨w.heap.size+1+1,0,none⟩) (by have:=hbs.out;first|(simp;done)|(simp;omega)) _
   refine ⟨hbb,⟨HAL.out.trans hbb,?_,?_,?_,?_,?_,⟨?_⟩⟩,?_⟩
   ·have:=hqs.out;show w.heap.size≤_;dsimp only;omega
   ·have:=hls.out;omega
   ·have:=hbs.out;show w.heap.size≤_;dsimp only;omega
   ·rw [block_far (Ne.symm hqx)];exact y1.out
   ·rw [block_set x1.out];rfl
   ·rw [block_far (Ne.symm hlx)];exact l1.out.blk
   ·rw [block_far (Ne.symm hrx)];exact r1.out
  have B13:=hid h13.2.1
  have bW3:=hid h13.1
  have q1:=h13.2.2
  have w0c:V13.cell? ⟨w.heap.size+1+1,0,none⟩=some (.pointer (some ⟨w1.heap.size,0,none⟩)):=by rw [cell_blk h13.2.1.box];rfl
  clear h13 bW hx0 fzx hqx hlx hrx
  refine hK.out _ _ (HT.out _ bW3.out) (fun hHeld11=>?_)
  try simp only [aS,aN,aT,a0,a1]
  refine wpAnyH_done (by kernel_rfl) ?_ _
  have v0:V13.cell? ⟨w.heap.size+1,0,none⟩=some .nilFunc:=by rw [cell_blk q1];rfl
  have v1:V13.cell? ⟨w.heap.size+1,1,none⟩=some .nilFunc:=by rw [cell_blk q1];rfl
  have v2:V13.cell? ⟨w.heap.size+1,2,none⟩=some .nilFunc:=by rw [cell_blk q1];rfl
  have fz:=free_blk q1
  replace q1:=hid q1
  go_wp2
  have q3:(((V13.setCell ⟨w.heap.size+1,0,none⟩ (.func (.func 67) #[.pointer (some ⟨w1.heap.size,0,none⟩)] #[])).setCell ⟨w.heap.size+1,1,none⟩ (.func (.func 66) #[] #[.pointer (some ⟨w.heap.size+1+1,0,none⟩)])).setCell ⟨w.heap.size+1,2,none⟩ (.func (.func 68) #[.pointer (some ⟨w1.heap.size,0,none⟩)] #[])).heap[w.heap.size+1]?=some (.cells (funs ⟨w1.heap.size,w.heap.size+1+1⟩).toArray 107 (0,0)):=by rw [block_set (block_set (block_set q1.out _) _)];rfl
  refine bodyPost_ret (results_cell_row rfl _ _ (w.heap.size+1) _ _ _ _ rfl q3 Tryz.underlying107 rfl info_call) rfl ?_
  have hB:=B13.out
  have hbs:=hbs.out
  have hqs:=hqs.out
  have hls:=hls.out
  refine ⟨⟨w1.heap.size,w.heap.size+1+1⟩,_,rfl,((hB.bl.setCell (p:=⟨w.heap.size+1,0,none⟩) (Nat.le_succ _) _).setCell (p:=⟨w.heap.size+1,1,none⟩) (Nat.le_succ _) _).setCell (p:=⟨w.heap.size+1,2,none⟩) (Nat.le_succ _) _,hB.own,hB.ownl,hB.ownb,?_,?_,⟨?_⟩⟩
  ·rw [block_far (by dsimp only;omega),block_far (by dsimp only;omega),block_far (by dsimp only;omega)];exact hB.blk
  ·rw [block_far (by dsimp only;omega),block_far (by dsimp only;omega),block_far (by dsimp only;omega)];exact hB.box
  ·rw [block_far (by omega),block_far (by omega),block_far (by omega)];exact hB.loc.blk
end Go.Proofs.YtgiiapenmjollabGreat
