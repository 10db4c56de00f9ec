import Derived.Test.YtgiiapenmjollaaGreatRrah
namespace Go.Proofs.YtgiiapenmjollaaGreat
set_option linter.all false
set_option maxHeartbeats 40000000
set_option maxRecDepth 100000
open Go.RowKit
open Tryz
theorem Om (w0:World) (g:Ad) (p:Nat) (h:Hp) (m:Me) (P CC KA:Option Addr) (pp cc kk:Nat) (A:Option Addr) (ac lb:Nat) (l:List Va) (w:World) (hH:Hs w0 g w p h) (E:Env w0 g h) (ho:h.over=false) (gh:Gh 0 h) (hme:ku w0 m P CC KA) (hl:l.length=m.params.length) (hg:∀v∈l,jw h v) (hA:ej lb w A l) (hb:h.enterB m l=false) :
  χ 33 #[π p 0,sK m P CC KA pp cc kk,.slice A l.length ac] w fun e w'=>e=.returned (jh aE)/\Hs w0 g w' p (h.enterH m l)/\Fr w0.heap.size g.T w w':=by
 have dX:=hH.base
 obtain ⟨WI,Dn⟩:∃WI,WI=(((w.alloc (.cells #[.slice P m.params.length pp,ι m.ret.kind,ι m.ret.cls,ι m.stack,ι m.locs,ι m.regs,.slice CC m.code.length cc,.slice KA m.hands.length kk] 49)).alloc (.cells #[ι 0,ι 0] 62)).alloc (.cells #[ι 0,ι 0] 62)):=⟨_,rfl⟩
 have hbl:Bl w WI:=by rw [Dn];exact (((Bl.refl w).alloc _).alloc _).alloc _
 have HF:Θ (Fr w0.heap.size g.T w WI):=Fr.old dX hbl
 have HH:Θ (Hs w0 g WI p h):=hH.old hbl
 have HM:Θ (fI WI w.heap.size m P CC KA pp cc kk):=⟨by rw [Dn];exact fH (by simp;omega) (fH (by simp) (cK rfl))⟩
 have HR:Θ (aC WI (w.heap.size+1) aE):=⟨by rw [Dn];exact fH (by simp) (cK (by simp))⟩
 have HN:Θ (aC WI (w.heap.size+1+1) aE):=⟨by rw [Dn];exact cK (by simp)⟩
 have HA:Θ (ej lb WI A l):=hA.keep fun b cs f e _=>(hbl.block _ (af e)).trans e
 have HC:=ae E.cq
 have HP:Θ (cX w0 P m.params):=hme.1
 have HL:Θ (l.length=m.params.length):=hl
 have HG:Θ (∀v∈l,v.kind=3->v.n<h.objs.length):=fun v hv e=>((hg v hv).ref e).2
 have hcl:=gh.calls
 have iH:w0.heap.size<=w.heap.size+1:=by omega
 have lN:w.heap.size<=w.heap.size+1:=by omega
 have tL:Θ (∀w',fI w' w.heap.size m P CC KA pp cc kk->(fun w'=>w'.cell? ⟨w.heap.size,0,none⟩=some (.slice P m.params.length pp)/\w'.cell? ⟨w.heap.size,1,none⟩=some (ι m.ret.kind)/\w'.cell? ⟨w.heap.size,2,none⟩=some (ι m.ret.cls)/\w'.cell? ⟨w.heap.size,3,none⟩=some (ι m.stack)/\w'.cell? ⟨w.heap.size,4,none⟩=some (ι m.locs)/\w'.cell? ⟨w.heap.size,5,none⟩=some (ι m.regs)/\w'.cell? ⟨w.heap.size,6,none⟩=some (.slice CC m.code.length cc)/\w'.cell? ⟨w.heap.size,7,none⟩=some (.slice KA m.hands.length kk)) w'):=fun w' X=>⟨X.cells.c0,X.cells.c1,X.cells.c2,X.cells.c3,X.cells.c4,X.cells.c5,X.cells.c6,X.cells.c7⟩
 have z2:=ae (tL.o _ HM.o)
 have HB:Θ (h.enterB m l=false):=hb
 clear hH E hme hl hg hA hb hbl gh
 go_enter func33,ntmps33
 go_wp2
 rw [<-Dn]
 clear Dn
 refine wp_region_held_drew (S:=fun w'=>κ w' w.heap.size 0 (.slice P m.params.length pp)/\κ w' w.heap.size 1 (ι m.ret.kind)/\κ w' w.heap.size 2 (ι m.ret.cls)/\κ w' w.heap.size 3 (ι m.stack)/\κ w' w.heap.size 4 (ι m.locs)/\κ w' w.heap.size 5 (ι m.regs)/\κ w' w.heap.size 6 (.slice CC m.code.length cc)/\κ w' w.heap.size 7 (.slice KA m.hands.length kk)) (by kernel_rfl) ?_ (fun aa=>?_)
 ·exact z2.o
 iterate 5 (refine tn rfl (by kernel_rfl) (fun _ _ _ h=>h) (by intro _ h;go_split_ands;go_simp<;>with_reducible rfl) aa ?_;try simp only [aZ])
 refine aY (i:=5) (by kernel_rfl) rfl fun K hK=>?_
 go_simp
 go_at_call 51
 refine (tK w0 g p h m P CC KA pp cc kk A ac lb l _ (HH.o.drewN 1) HC.o.cw ho HP.o HL.o (by exact HA.o) HG.o hcl).mono ?_
 rintro e w1 ⟨he,h1,f1⟩
 rw [HB.o] at he
 subst he
 have F1:=ae (((Fr.refl w0.heap.size g.T WI).drewN 1).trans f1)
 have Oo:=ae (HM.o.fr HC.o.k F1.o)
 have kA:=ae (HR.o.keep HC.o.k F1.o)
 have PV:=ae (HN.o.keep HC.o.k F1.o)
 have d1:=ae (tL.o _ Oo.o)
 have H1:=ae h1
 clear h1 f1
 go_wp2_with fail
 refine hK.out _ _ (d1.o) (fun ah=>?_)
 try simp only [aZ]
 refine tn rfl (by kernel_rfl) (fun _ _ _ h=>h) (by intro _ h;go_split_ands;go_simp<;>with_reducible rfl) ah ?_
 try simp only [aZ]
 refine wpAnyH_done (by kernel_rfl) ?_ _
 have r0:=kA.o.c0
 have r1:=kA.o.c1
 have rf:=kA.o.fr
 have n0:=PV.o.c0
 have n1:=PV.o.c1
 go_wp2
 (try simp only [Exit.inBlock,Exit.then])
 refine bodyPost_ret (results_cell_row rfl _ _ (w.heap.size+1) _ _ _ _ rfl (kA.o.set aE).blk underlying62 rfl bC) rfl ?_
 exact ⟨rfl,H1.o.cf (kA.o.cf HC.o.k iH _ _),((HF.o.trans F1.o).new lN iH _).new lN iH _⟩
def s6 (t:Ty) (a:Int):Va:=⟨t.kind,if t.kind=1 then wrap32 a else a⟩
def dv:List Ty->List Int->List Va
 | t::l,a::k=>s6 t a::dv l k
 | _,_=>[]
theorem iR:∀(l:List Ty) (k:List Int),l.length=k.length->(dv l k).length=l.length
 | [],[],_=>rfl
 | [],_::_,h=>by simp at h
 | _::_,[],h=>by simp at h
 | t::l,a::k,h=>by simp [dv,iR l k (by simpa using h)]
theorem tM:∀(l:List Ty) (k:List Int) (i:Nat),i<l.length->l.length=k.length->nth aE (dv l k) i=s6 (nth bS l i) (nth (0:Int) k i)
 | [],_,i,h,_=>by simp at h
 | _::_,[],_,_,h=>by simp at h
 | t::l,a::k,0,_,_=>rfl
 | t::l,a::k,i+1,h,hl=>by
  show nth aE (dv l k) i=_
  rw [tM l k i (by simpa using h) (by simpa using hl)]
  rfl
def gT (l:List Ty):Bool:=l.any fun t=>decide (t.kind=3)
def gU (f:Fi) (entry:Int) (args input:List Int) (fuel:Int):Int :=
 if ¬(0<=entry/\entry<=(f.methods.length:Int)-1)∨¬(0<=fuel/\fuel<=60000) then 4
 else if 1000<input.length then 1
 else if args.length≠(nth bT f.methods entry.toNat).params.length then 3
 else if gT (nth bT f.methods entry.toNat).params=true then 3 else 0
abbrev qt (f:Fi) (A B:Option Addr) (a b:Nat):Obj:=.cells #[.slice A f.classes.length a,.slice B f.methods.length b] 25
section
variable (f:Fi) (A B I R:Option Addr) (a b i r:Nat) (entry fuel:Int) (args input:List Int) (w:World)
theorem xW (hm:f.methods.length<=maxLen) (he:¬(0<=entry/\entry<=(f.methods.length:Int)-1)∨¬(0<=fuel/\fuel<=60000)) :
  χ 25 #[lr f.classes.length f.methods.length A B a b,ι entry,.slice R args.length r,.slice I input.length i,ι fuel] w fun e w'=>e=.returned (.tuple #[.pointer none,.slice none 0 0,ι 4])/\Bl w w':=by
 unfold maxLen at hm
 by_cases h1:0<=entry/\entry<=(f.methods.length:Int)-1
 ·have d1:decide (0<=entry/\entry<=(f.methods.length:Int)-1)=true:=decide_eq_true h1
  have d2:decide (0<=fuel/\fuel<=60000)=false:=decide_eq_false (by omega)
  have H1:Θ (decide (0<=entry/\entry<=(f.methods.length:Int)-1)=true):=d1
  have H2:Θ (decide (0<=fuel/\fuel<=60000)=false):=d2
  clear d1 d2 h1 he
  go_enter func25,ntmps25
  go_wp2_with (first
   | (go_at_call_of 20 (Value.int IntKind.i64 60000);refine (aI _ _ _ _).mono ?_;rintro e w1 ⟨he,hw1⟩;rw [H2.o] at he;subst he;rw [hw1];clear hw1 w1)
   | (go_at_call 20;refine (aI _ _ _ _).mono ?_;rintro e w1 ⟨he,hw1⟩;rw [H1.o] at he;subst he;rw [hw1];clear hw1 w1))
  exact bodyPost_ret (v:=.tuple #[.pointer none,.slice none 0 0,ι 4]) (by simp [results,Tryz.results25,go_sem]) rfl ⟨rfl,(Bl.refl w).alloc _⟩
 ·have H1:Θ (decide (0<=entry/\entry<=(f.methods.length:Int)-1)=false):=decide_eq_false h1
  clear h1 he
  go_enter func25,ntmps25
  go_wp2_with (go_at_call 20;refine (aI _ _ _ _).mono ?_;rintro e w1 ⟨he,hw1⟩;rw [H1.o] at he;subst he;rw [hw1];clear hw1 w1)
  exact bodyPost_ret (v:=.tuple #[.pointer none,.slice none 0 0,ι 4]) (by simp [results,Tryz.results25,go_sem]) rfl ⟨rfl,(Bl.refl w).alloc _⟩
theorem zR (hm:f.methods.length<=maxLen) (hi:input.length<=maxLen) (h1:0<=entry/\entry<=(f.methods.length:Int)-1) (h2:0<=fuel/\fuel<=60000) (h3:1000<input.length) :
  χ 25 #[lr f.classes.length f.methods.length A B a b,ι entry,.slice R args.length r,.slice I input.length i,ι fuel] w fun e w'=>e=.returned (.tuple #[.pointer none,.slice none 0 0,ι 1])/\Bl w w':=by
 unfold maxLen at hm hi
 have H1:Θ (decide (0<=entry/\entry<=(f.methods.length:Int)-1)=true):=decide_eq_true h1
 have H2:Θ (decide (0<=fuel/\fuel<=60000)=true):=decide_eq_true h2
 have d3:decide (1000<input.length)=true:=decide_eq_true h3
 clear h1 h2 
 go_enter func25,ntmps25
 go_wp2_with (first
  | (go_at_call_of 20 (Value.int IntKind.i64 60000);refine (aI _ _ _ _).mono ?_;rintro e w1 ⟨he,hw1⟩;rw [H2.o] at he;subst he;rw [hw1];clear hw1 w1)
  | (go_at_call 20;refine (aI _ _ _ _).mono ?_;rintro e w1 ⟨he,hw1⟩;rw [H1.o] at he;subst he;rw [hw1];clear hw1 w1))
 exact bodyPost_ret (v:=.tuple #[.pointer none,.slice none 0 0,ι 1]) (by simp [results,Tryz.results25,go_sem]) rfl ⟨rfl,(Bl.refl w).alloc _⟩
theorem Dp (hM:cz w B f.methods) (hi:input.length<=maxLen) (hr:args.length<=maxLen) (h1:0<=entry/\entry<=(f.methods.length:Int)-1) (h2:0<=fuel/\fuel<=60000) (h3:¬1000<input.length) (h4:args.length≠(nth bT f.methods entry.toNat).params.length) :
  χ 25 #[lr f.classes.length f.methods.length A B a b,ι entry,.slice R args.length r,.slice I input.length i,ι fuel] w fun e w'=>e=.returned (.tuple #[.pointer none,.slice none 0 0,ι 3])/\Bl w w':=by
 unfold maxLen at hi
 obtain ⟨n,rfl⟩:∃n:Nat,entry=n:=⟨entry.toNat,by omega⟩
 have pE:n<f.methods.length:=by omega
 have iL:=hM.1
 unfold maxLen at iL
 rw [Int.toNat_natCast] at *
 obtain ⟨mb,mo,P,CC,K,pp,cc,kk,hB,⟨z0,z1,z2,z3,z4,z5,z6,z7⟩,hme⟩:=mf hM pE
 subst hB
 have MR:mb<w.heap.size:=br z0
 have bl0:Bl w (w.alloc (qt f A (some ⟨mb,mo,none⟩) a b)):=(Bl.refl w).alloc _
 have y0:=bl0.cell z0
 have y1:=bl0.cell z1
 have y2:=bl0.cell z2
 have y3:=bl0.cell z3
 have y4:=bl0.cell z4
 have y5:=bl0.cell z5
 have y6:=bl0.cell z6
 have y7:=bl0.cell z7
 clear z0 z1 z2 z3 z4 z5 z6 z7 bl0
 have Ud:mb<w.heap.size+1:=by omega
 have H1:Θ (decide (0<=(n:Int)/\(n:Int)<=(f.methods.length:Int)-1)=true):=decide_eq_true h1
 have H2:Θ (decide (0<=fuel/\fuel<=60000)=true):=decide_eq_true h2
 have d3:decide ((1000:Int)<(input.length:Int))=false:=decide_eq_false (by omega)
 have iw:(0:Int)<=(n:Int):=by omega
 have fT:(n:Int)<(f.methods.length:Int):=by omega
 have CP:=hme.1.1
 unfold maxLen at CP
 unfold maxLen at hr
 generalize nth bT f.methods n=M at *
 have d4:((args.length:Int) !=(M.params.length:Int))=true:=by simp;omega
 clear h1 h2 h3 h4 hme hM
 go_enter func25,ntmps25
 go_wp2_with (first
  | (go_at_call_of 20 (Value.int IntKind.i64 60000);refine (aI _ _ _ _).mono ?_;rintro e w1 ⟨he,hw1⟩;rw [H2.o] at he;subst he;rw [hw1];clear hw1 w1)
  | (go_at_call 20;refine (aI _ _ _ _).mono ?_;rintro e w1 ⟨he,hw1⟩;rw [H1.o] at he;subst he;rw [hw1];clear hw1 w1))
 exact bodyPost_ret (v:=.tuple #[.pointer none,.slice none 0 0,ι 3]) (by simp [results,Tryz.results25,go_sem]) rfl ⟨rfl,((Bl.refl w).alloc _).alloc _⟩
end
section
variable (l:List Ty) (k:List Int) (q:Nat)
theorem Dq (hq:q<l.length) (hl:l.length=k.length):dv (l.take (q+1)) (k.take (q+1))=dv (l.take q) (k.take q)++[s6 (nth bS l q) (nth (0:Int) k q)]:=by
 induction l generalizing k q with
 | nil=>simp at hq
 | cons t l ih =>
  cases k with
  | nil=>simp at hl
  | cons a k =>
   cases q with
   | zero=>simp [dv,nth]
   | succ q =>
    have:=ih k q (by simpa using hq) (by simpa using hl)
    have e1:nth bS (t::l) (q+1)=nth bS l q:=by simp [nth]
    have e2:nth (0:Int) (a::k) (q+1)=nth (0:Int) k q:=by simp [nth]
    rw [e1,e2]
    simp only [List.take_succ_cons,dv,this,List.cons_append]
theorem vO (hq:q<=l.length) (hl:l.length=k.length):(dv (l.take q) (k.take q)).length=q:=by
 rw [iR _ _ (by simp;omega)];simp;omega
end
def eP (f:Fi) (input:List Int) (fuel:Int):Hp:=⟨f,[],input,0,fuel,⟨0,0,0,[],0,0⟩,false,-1⟩
def rK (W0:World) (f:Fi) (A B I:Option Addr) (a b i:Nat) (fuel:Int) (input:List Int) (l:List Va) (w:World) (e:Ending) (w':World):Prop :=
 ∃p L lc,e=.returned (.tuple #[π p 0,.slice L l.length lc,ι 0])/\cO W0 ⟨A,a,B,b,I,i,74⟩ w' p (eP f input fuel) (.slice none 0 0) (.slice none 0 0) []/\ej w.heap.size w' L l/\l.length<=lc/\Bl w w'
def km (W0:World) (f:Fi) (A B I:Option Addr) (a b i:Nat) (fuel:Int) (input:List Int) (ps:List Ty) (args:List Int) (w:World) (e:Ending) (w':World):Prop :=
 if gT ps=true then e=.returned (.tuple #[.pointer none,.slice none 0 0,ι 3])/\Bl w w' else rK W0 f A B I a b i fuel input (dv ps args) w e w'
theorem xX (W0:World) (f:Fi) (A B I R:Option Addr) (a b i r:Nat) (entry fuel:Int) (args input:List Int) (w:World) (hW:Bl W0 w) (hM:cz w B f.methods) (hi:input.length<=maxLen) (hR:aU w R args) (h1:0<=entry/\entry<=(f.methods.length:Int)-1) (h2:0<=fuel/\fuel<=60000) (h3:¬1000<input.length) (h4:args.length=(nth bT f.methods entry.toNat).params.length) (h5:(nth bT f.methods entry.toNat).params.length<=4) :
  χ 25 #[lr f.classes.length f.methods.length A B a b,ι entry,.slice R args.length r,.slice I input.length i,ι fuel] w fun e w' =>
   km W0 f A B I a b i fuel input (nth bT f.methods entry.toNat).params args w e w':=by
 unfold maxLen at hi
 obtain ⟨n,rfl⟩:∃n:Nat,entry=n:=⟨entry.toNat,by omega⟩
 have pE:n<f.methods.length:=by omega
 have iL:=hM.1
 unfold maxLen at iL
 rw [Int.toNat_natCast] at *
 obtain ⟨mb,mo,P,CC,K,pp,cc,kk,hB,⟨z0,z1,z2,z3,z4,z5,z6,z7⟩,hme⟩:=mf hM pE
 subst hB
 have MR:mb<w.heap.size:=br z0
 have bl0:Bl w (w.alloc (qt f A (some ⟨mb,mo,none⟩) a b)):=(Bl.refl w).alloc _
 have y0:=bl0.cell z0
 have y1:=bl0.cell z1
 have y2:=bl0.cell z2
 have y3:=bl0.cell z3
 have y4:=bl0.cell z4
 have y5:=bl0.cell z5
 have y6:=bl0.cell z6
 have y7:=bl0.cell z7
 clear z0 z1 z2 z3 z4 z5 z6 z7 bl0
 have Ud:mb<w.heap.size+1:=by omega
 have H1:Θ (decide (0<=(n:Int)/\(n:Int)<=(f.methods.length:Int)-1)=true):=decide_eq_true h1
 have H2:Θ (decide (0<=fuel/\fuel<=60000)=true):=decide_eq_true h2
 have d3:decide ((1000:Int)<(input.length:Int))=false:=decide_eq_false (by omega)
 have iw:(0:Int)<=(n:Int):=by omega
 have fT:(n:Int)<(f.methods.length:Int):=by omega
 have CP:=hme.1.1
 unfold maxLen at CP
 obtain ⟨i0,wC,vl,wD,wE⟩:=info_parts rJ
 generalize nth bT f.methods n=M at *
 have d4:((args.length:Int) !=(M.params.length:Int))=false:=by simp;omega
 have Ua:Θ (∀wr,Bl w wr->cX wr P M.params):=fun wr hb=>hme.1.bl hb
 have YY:Θ (∀wr,Bl w wr->aU wr R args):=fun wr hb=>hR.bl hb
 have H4:Θ (args.length=M.params.length):=h4
 clear h1 h2 h3 hme hM hR h4
 have C0:Θ (((w.alloc (qt f A (some ⟨mb,mo,none⟩) a b)).alloc (mS M P CC K pp cc kk)).cell? ⟨w.heap.size+1,0,none⟩=some (.slice P M.params.length pp)):=ab (cK (by simp))
 have C1:Θ (((w.alloc (qt f A (some ⟨mb,mo,none⟩) a b)).alloc (mS M P CC K pp cc kk)).cell? ⟨w.heap.size,0,none⟩=some (.slice A f.classes.length a)):=(ab (fH (by simp) (cK rfl))).trans rfl
 have C2:Θ (((w.alloc (qt f A (some ⟨mb,mo,none⟩) a b)).alloc (mS M P CC K pp cc kk)).cell? ⟨w.heap.size,1,none⟩=some (.slice (some ⟨mb,mo,none⟩) f.methods.length b)):=(ab (fH (by simp) (cK rfl))).trans rfl
 go_enter func25,ntmps25
 go_wp2_with (first
  | (go_at_call_of 20 (Value.int IntKind.i64 60000);refine (aI _ _ _ _).mono ?_;rintro e w1 ⟨he,hw1⟩;rw [H2.o] at he;subst he;rw [hw1];clear hw1 w1)
  | (go_at_call 20;refine (aI _ _ _ _).mono ?_;rintro e w1 ⟨he,hw1⟩;rw [H1.o] at he;subst he;rw [hw1];clear hw1 w1))
 go_loopw [14,15] (fun u i wr=>∃q:Nat,q<=M.params.length/\i=ι q/\Θ (Bl ((w.alloc (qt f A (some ⟨mb,mo,none⟩) a b)).alloc (mS M P CC K pp cc kk)) wr)/\wr.cell? ⟨w.heap.size+1,0,none⟩=some (.slice P M.params.length pp)/\wr.cell? ⟨w.heap.size,0,none⟩=some (.slice A f.classes.length a)/\wr.cell? ⟨w.heap.size,1,none⟩=some (.slice (some ⟨mb,mo,none⟩) f.methods.length b)/\w.heap.size+1<wr.heap.size/\Θ (wr.ownsRow (w.heap.size+2) 62 2 u q (bh (dv (M.params.take q) (args.take q))))/\Θ (∀j,j<q->(nth bS M.params j).kind≠3)) (fun _ i _=>args.length-(intOf i).toNat)
 case atStart=>exact ⟨0,Nat.zero_le _,rfl,Bl.refl _,ab (cK (by simp)),(ab (fH (by simp) (cK rfl))).trans rfl,(ab (fH (by simp) (cK rfl))).trans rfl,by simp,⟨rfl,Or.inl ⟨rfl,rfl⟩⟩,fun j hj=>absurd hj (by omega)⟩
 case round =>
  obtain ⟨q,hq,rfl,hgx,c0,g0,g1,hsz,hO,hk⟩:=hrel
  have hg:Θ (Bl w wr):=Bl.trans (((Bl.refl w).alloc _).alloc _) hgx.o
  by_cases dI:q<M.params.length
  ·have vN:q<args.length:=by rw [H4.o];exact dI
   rcases (Ua.o wr hg.o).2 with h0|⟨xb,xo,BI,hcell⟩
   ·omega
   obtain ⟨t0,-⟩:=hcell q dI
   rcases (YY.o wr hg.o).2 with h0|⟨rb,ro,PS,hrc⟩
   ·omega
   have r0:=(hrc q vN).1
   rw [BI] at c0
   have WC:Θ (P=some ⟨xb,xo,none⟩):=BI
   subst PS
   have WD:=Dq M.params args q dI H4.o.symm
   have QQ:Θ (dv (M.params.take (q+1)) (args.take (q+1))=dv (M.params.take q) (args.take q)++[s6 (nth bS M.params q) (nth (0:Int) args q)]):=WD
   have KX:Θ ((nth bS M.params q).kind≠3->∀j,j<q+1->(nth bS M.params j).kind≠3):=fun h3 j hj=>by
    by_cases e:j=q
    ·rw [e];exact h3
    ·exact hk.o j (by omega)
   have Ue:Θ ((nth bS M.params q).kind=3->gT M.params=true):=fun h3=>by
    show gT M.params=true
    unfold gT
    rw [List.any_eq_true]
    exact ⟨_,bE dI,decide_eq_true h3⟩
   have YZ:=br t0
   have hrl:=br r0
   have ham:args.length<=2 ^ 63-1:=by have:=H4.o;omega
   have iY:(0:Int)<=(q:Int):=by omega
   have mH:(q:Int)<(M.params.length:Int):=by omega
   have BJ:(q:Int)<(args.length:Int):=by omega
   clear hcell hrc BI WD hk
   generalize nth bS M.params q=t at *
   generalize nth (0:Int) args q=av at *
   by_cases h3:t.kind=3
   ·have hz:(t.kind==3)=true:=by simpa using h3
    have Yu:Θ (gT M.params=true):=Ue.o h3
    clear h3
    go_wp2
    refine bodyPost_ret (v:=.tuple #[.pointer none,.slice none 0 0,ι 3]) (by simp [results,Tryz.results25,go_sem]) rfl ?_
    unfold km
    rw [if_pos Yu.o]
    exact ⟨rfl,hg.o⟩
   ·have hz:(t.kind==3)=false:=by simpa using h3
    have Bt:Θ (∀j,j<q+1->(nth bS M.params j).kind≠3):=KX.o h3
    clear h3
    by_cases Oq:t.kind=1
    ·have Uf:Θ (s6 t av=⟨1,wrap32 av⟩):=by show s6 t av=_;unfold s6;rw [if_pos Oq,Oq]
     rw [Oq] at t0 hz
     clear Oq
     go_wp2
     go_region_held3 (fun w'=>w'.cell? ⟨w.heap.size+1,0,none⟩=some (.slice (some ⟨xb,xo,none⟩) M.params.length pp)/\w'.cell? ⟨xb,xo+q*2,none⟩=some (ι 1)/\w'.cell? ⟨rb,ro+q,none⟩=some (ι av))
      (go_keep)
      (fail)
     go_wp2_with (first
      | (go_at_call 50;refine (lE _ _).mono ?_;rintro e w3 ⟨rfl,sO⟩;rw [sO];clear sO w3)
      | (at_builtin;refine wpList_append_lies _ rfl (.tmp 76) (.tmp 78) 58 rfl (w.heap.size+2) 62 i0 _ 2 16 underlying58 wC vl wD wE rfl (by omega) u14 q (bh (dv (M.params.take q) (args.take q))) (by rfl) (by exact ((hO.o.alloc _).alloc _).drew) ⟨wr.heap.size+1,0,none⟩ 1 1 [ι 1,ι (wrap32 av)] (by rfl) (by rfl) (World.news_of_block (cs:=#[ι 1,ι (wrap32 av)]) (t:=62) (fr:=(0,0)) (cK (w:=wr.alloc (.cells #[ι 1,ι (wrap32 av)] 62)) (by simp))) (by simp [Value.oneCell']) (by omega) (by unfold maxLen;omega) (by omega) (by simp;omega) (wr.heap.size+1+1) (by simp) ?_;intro gg cap w7 jk bO hat hlt;have BN:Bl ((w.alloc (qt f A (some ⟨mb,mo,none⟩) a b)).alloc (mS M P CC K pp cc kk)) w7:=xS (((hgx.o.alloc _).alloc _).drew) bO (fun k' ME=>by have:=GI hO.o ME;simp;omega);have B7:Θ (Bl ((w.alloc (qt f A (some ⟨mb,mo,none⟩) a b)).alloc (mS M P CC K pp cc kk)) w7):=BN;have e0:=BN.cell C0.o;have e1:=BN.cell C1.o;have e2:=BN.cell C2.o;have e3:w.heap.size+2<=w7.heap.size:=(by have:=BN.size;simp at this;omega)))
     go_roundw
     case rel=>exact ⟨q+1,by omega,by go_num,B7,e0,e1,e2,by omega,by
      show World.ownsRow _ _ _ _ _ _ _
      rw [QQ.o,Uf.o,gj]
      exact jk,Bt⟩
     case measure=>simp [intOf];omega
    ·have Y0:(t.kind==1)=false:=by simpa using Oq
     have Uf:Θ (s6 t av=⟨t.kind,av⟩):=by show s6 t av=_;unfold s6;rw [if_neg Oq]
     clear Oq
     go_wp2
     go_region_held3 (fun w'=>w'.cell? ⟨w.heap.size+1,0,none⟩=some (.slice (some ⟨xb,xo,none⟩) M.params.length pp)/\w'.cell? ⟨xb,xo+q*2,none⟩=some (ι t.kind)/\w'.cell? ⟨rb,ro+q,none⟩=some (ι av))
      (go_keep)
      (fail)
     go_wp2_with (first
      | (at_builtin;refine wpList_append_lies _ rfl (.tmp 76) (.tmp 78) 58 rfl (w.heap.size+2) 62 i0 _ 2 16 underlying58 wC vl wD wE rfl (by omega) u14 q (bh (dv (M.params.take q) (args.take q))) (by rfl) (by exact ((hO.o.alloc _).alloc _).drew) ⟨wr.heap.size+1,0,none⟩ 1 1 [ι t.kind,ι av] (by rfl) (by rfl) (World.news_of_block (cs:=#[ι t.kind,ι av]) (t:=62) (fr:=(0,0)) (cK (w:=wr.alloc (.cells #[ι t.kind,ι av] 62)) (by simp))) (by simp [Value.oneCell']) (by omega) (by unfold maxLen;omega) (by omega) (by simp;omega) (wr.heap.size+1+1) (by simp) ?_;intro gg cap w7 jk bO hat hlt;have BN:Bl ((w.alloc (qt f A (some ⟨mb,mo,none⟩) a b)).alloc (mS M P CC K pp cc kk)) w7:=xS (((hgx.o.alloc _).alloc _).drew) bO (fun k' ME=>by have:=GI hO.o ME;simp;omega);have B7:Θ (Bl ((w.alloc (qt f A (some ⟨mb,mo,none⟩) a b)).alloc (mS M P CC K pp cc kk)) w7):=BN;have e0:=BN.cell C0.o;have e1:=BN.cell C1.o;have e2:=BN.cell C2.o;have e3:w.heap.size+2<=w7.heap.size:=(by have:=BN.size;simp at this;omega)))
     go_roundw
     case rel=>exact ⟨q+1,by omega,by go_num,B7,e0,e1,e2,by omega,by
      show World.ownsRow _ _ _ _ _ _ _
      rw [QQ.o,Uf.o,gj]
      exact jk,Bt⟩
     case measure=>simp [intOf];omega
  ·obtain rfl:q=M.params.length:=by omega
   have JP:Θ (gT M.params=false):=by
    show gT M.params=false
    unfold gT
    rw [List.any_eq_false]
    intro x hx
    obtain ⟨j,hj,rfl⟩:=List.getElem_of_mem hx
    have:=hk.o j hj
    rw [cg hj] at this
    simpa using this
   have hlen:=vO M.params args M.params.length (Nat.le_refl _) H4.o.symm
   rw [List.take_length,<-H4.o,List.take_length,H4.o] at hlen
   have Sz:=hO.o
   rw [List.take_length,<-H4.o,List.take_length,H4.o] at Sz
   obtain ⟨L,lc,rfl,BK,lx⟩:∃L lc,u14=.slice L M.params.length lc/\(∀wz,Bl wr wz->ej w.heap.size wz L (dv M.params args))/\M.params.length<=lc:=by
    rcases Sz.2 with ⟨e1,e2⟩|⟨gb,cp,cur,e1,e2,e3,e4,-⟩
    ·exact ⟨none,0,by rw [e1,e2],fun wz hb=>Or.inl (by omega),by omega⟩
    ·subst e1
     exact ⟨_,cp,rfl,fun wz hb=>((BH Sz (lb:=w.heap.size) (by omega) hlen.symm).1).keep fun b cs f e _=>(hb.block _ (af e)).trans e,e4⟩
   have ey:Θ (∀wz,Bl wr wz->ej w.heap.size wz L (dv M.params args)):=BK
   have ll:Θ ((dv M.params args).length=M.params.length):=hlen
   have wZ:Θ (M.params.length<=lc):=lx
   have Y1:args.length<=M.params.length:=by have:=H4.o;omega
   clear Sz hlen BK lx hk
   go_wp2
   refine bodyPost_ret (v:=.tuple #[π wr.heap.size 0,.slice L M.params.length lc,ι 0]) (by simp [results,Tryz.results25,go_sem]) rfl ?_
   unfold km
   rw [if_neg (by rw [JP.o];decide)]
   have WE:Bl W0 wr:=hW.trans hg.o
   refine ⟨wr.heap.size,L,lc,by rw [ll.o],⟨WE.size,cK rfl,WE.alloc _,⟨rfl,Or.inl ⟨rfl,rfl⟩⟩,⟨rfl,⟨rfl,Or.inl ⟨rfl,rfl⟩⟩,fun i hi=>absurd hi (by simp [eP]),fun i j hi=>absurd hi (by simp [eP])⟩⟩,ey.o _ ((Bl.refl _).alloc _),by rw [ll.o];exact wZ.o,hg.o.alloc _⟩
def Hp.doneH (h:Hp) (v:Va):Hp :=
 if h.over=true then h
 else if 0<=h.thrown then { h with sh:={ h.sh with fin:=2,cls:=(h.obj h.thrown).cls } }
 else if v.kind=1∨v.kind=2 then { h with sh:={ h.sh with fin:=1,value:=v.n } } else { h with sh:={ h.sh with fin:=1 } }
abbrev SB (s:Sh) (vx:Value):Value:=.agg #[ι s.fin,ι s.value,ι s.cls,vx,ι s.used,ι s.steps]
abbrev xY:Obj:=.cells #[ι 0,ι 0,ι 0,.slice none 0 0,ι 0,ι 0] 28
theorem kL:(Tryz.prog.info? 28).map (·.size)=some 6:=by kernel_rfl
structure mJ (w:World) (b:Nat) (cs:Array Value):Prop where
 blk:w.heap[b]?=some (.cells cs 28 (0,0))
theorem mJ.six {w:World} {b:Nat} {a0 a1 a2 a3 a4 a5:Value} (h:mJ w b #[a0,a1,a2,a3,a4,a5]) (s:Sh) (vx:Value) :
  mJ ((((((w.setCell ⟨b,0,none⟩ (ι s.fin)).setCell ⟨b,1,none⟩ (ι s.value)).setCell ⟨b,2,none⟩ (ι s.cls)).setCell ⟨b,3,none⟩ vx).setCell ⟨b,4,none⟩ (ι s.used)).setCell ⟨b,5,none⟩ (ι s.steps)) b #[ι s.fin,ι s.value,ι s.cls,vx,ι s.used,ι s.steps] :=
 ⟨by rw [ay (ay (ay (ay (ay (ay h.blk _) _) _) _) _)];rfl⟩
theorem mJ.cf {B:Nat} {T:TypeId} {w:World} {b:Nat} {cs:Array Value} (h:mJ w b cs) (k:¬gI T 28) (hB:B<=b) (a0 a1 a2 a3 a4 a5:Value) :
  Cf B T w ((((((w.setCell ⟨b,0,none⟩ a0).setCell ⟨b,1,none⟩ a1).setCell ⟨b,2,none⟩ a2).setCell ⟨b,3,none⟩ a3).setCell ⟨b,4,none⟩ a4).setCell ⟨b,5,none⟩ a5) :=
 ((((((Cf.refl B T w).set h.blk k hB a0).set (ay h.blk _) k hB a1).set (ay (ay h.blk _) _) k hB a2).set (ay (ay (ay h.blk _) _) _) k hB a3).set (ay (ay (ay (ay h.blk _) _) _) _) k hB a4).set (ay (ay (ay (ay (ay h.blk _) _) _) _) _) k hB a5
theorem GN (w0:World) (g:Ad) (k:Tk g.T) (hsh:g.T≠28) (p:Nat) (h:Hp) (v:Va) (w:World) (vo vx:Value) (hv:List Value) (H:cO w0 g w p h vo vx hv) (ht:h.thrown<h.objs.length) :
  χ 27 #[π p 0,jh v] w fun e w'=>e=.returned (SB (h.doneH v).sh vx)/\cO w0 g w' p (h.doneH v) vo vx hv/\Fr w0.heap.size g.T w w':=by
 have dX:=H.base
 have JN:=af H.blk
 have Y2:p<w.heap.size+1:=by omega
 have HX:Θ (cO w0 g w p h vo vx hv):=H
 have HK:Θ (Tk g.T):=k
 have c:=H.cells
 have c6:=c.c6
 have c7:=c.c7
 have c8:=c.c8
 have c9:=c.c9
 have c10:=c.c10
 have c11:=c.c11
 have c12:=c.c12
 have c13:=c.c13
 have c2:=c.c2
 have f:=H.free
 clear H c
 obtain ⟨xa,xn,xc,rfl⟩:∃xa xn xc,vx=.slice xa xn xc:=by
  rcases HX.o.o.2 with ⟨e,-⟩|⟨gb,cp,cur,e,-⟩
  ·exact ⟨_,_,_,e⟩
  ·exact ⟨_,_,_,e⟩
 cases cY:h.over
 ·rw [cY] at c12
  by_cases h0:0<=h.thrown
  ·have hr:h.doneH v={ h with sh:={ h.sh with fin:=2,cls:=(h.obj h.thrown).cls } }:=by unfold Hp.doneH;rw [if_neg (by rw [cY];decide),if_pos h0]
   rw [hr]
   clear hr
   have hd:decide (0<=h.thrown)=true:=decide_eq_true h0
   obtain ⟨n,hn⟩:∃n:Nat,h.thrown=n:=⟨h.thrown.toNat,by omega⟩
   have pE:n<h.objs.length:=by omega
   obtain ⟨gb,cap,nt,-,zd,hcc⟩:=kb HX.o.obs (by omega)
   have o1:=(hcc n pE).1
   unfold maxLen at zd
   have HO:Θ ((h.obj h.thrown).cls=(nth cF h.objs n).cls):=by show (h.obj h.thrown).cls=_;unfold Hp.obj;rw [hn,Int.toNat_natCast]
   have SC:gb≠p:=by
    intro e
    rcases HX.o.obs.row.2 with ⟨h1,h2⟩|⟨gb',cp',Y3,h1,h2,h3,-⟩
    ·omega
    ·rw [nt] at h1
     simp only [Value.slice.injEq,Option.some.injEq,Addr.mk.injEq] at h1
     obtain ⟨⟨rfl,-,-⟩,-,-⟩:=h1
     rw [e,HX.o.blk] at h3
     simp at h3
     exact HK.o.o h3.2
   have Y4:p≠gb:=Ne.symm SC
   have Yc:=br o1
   have Y5:gb<w.heap.size+1:=by omega
   have iw:(0:Int)<=(n:Int):=by omega
   have fT:(n:Int)<(h.objs.length:Int):=by omega
   rw [nt] at c2
   have Ug:=c13
   rw [hn] at Ug
   rw [hn] at hd
   have HN:Θ (h.thrown=n):=hn
   clear hcc hn c13 h0
   rw [HO.o]
   generalize (nth cF h.objs n).cls=X at *
   have H1:=HX.o.set HK.o (i:=6) (v:=ι 2) { h with sh:={ h.sh with fin:=2 } } rfl rfl rfl
   have PT:Θ (cO w0 g (w.setCell ⟨p,6,none⟩ (ι 2)) p { h with sh:={ h.sh with fin:=2 } } vo (.slice xa xn xc) hv):=H1
   have bA:Bl (w.setCell ⟨p,6,none⟩ (ι 2)) (((w.setCell ⟨p,6,none⟩ (ι 2)).alloc (bD v)).alloc xY):=((Bl.refl _).alloc _).alloc _
   have a2:=bA.cell (H1.cells.c2)
   rw [nt] at a2
   have Y6:=bA.cell (H1.cells.c13)
   rw [show ({ h with sh:={ h.sh with fin:=2 } }:Hp).thrown=(n:Int) from HN.o] at Y6
   have ao:(((w.setCell ⟨p,6,none⟩ (ι 2)).alloc (bD v)).alloc xY).cell? ⟨gb,n*2,none⟩=some (ι X):=bA.cell ((World.cell?_of_block (ak SC _)).trans o1)
   have H2:=H1.set HK.o (i:=8) (v:=ι X) { h with sh:={ h.sh with fin:=2,cls:=X } } rfl rfl rfl
   have QJ:Θ (cO w0 g ((w.setCell ⟨p,6,none⟩ (ι 2)).setCell ⟨p,8,none⟩ (ι X)) p { h with sh:={ h.sh with fin:=2,cls:=X } } vo (.slice xa xn xc) hv):=H2
   have bB:Bl ((w.setCell ⟨p,6,none⟩ (ι 2)).setCell ⟨p,8,none⟩ (ι X)) ((((w.setCell ⟨p,6,none⟩ (ι 2)).setCell ⟨p,8,none⟩ (ι X)).alloc (bD v)).alloc xY):=((Bl.refl _).alloc _).alloc _
   have b2:=bB.cell (H2.cells.c2)
   rw [nt] at b2
   have Y7:=bB.cell (H2.cells.c13)
   rw [show ({ h with sh:={ h.sh with fin:=2,cls:=X } }:Hp).thrown=(n:Int) from HN.o] at Y7
   have bo:((((w.setCell ⟨p,6,none⟩ (ι 2)).setCell ⟨p,8,none⟩ (ι X)).alloc (bD v)).alloc xY).cell? ⟨gb,n*2,none⟩=some (ι X):=bB.cell ((World.cell?_of_block (ak SC _)).trans ((World.cell?_of_block (ak SC _)).trans o1))
   have Uh:Θ (h.over=false):=cY
   clear H1 H2 bA bB cY nt
   go_enter func27,ntmps27
   go_wp2
   go_region_held3 (fun w'=>w'.cell? ⟨p,2,none⟩=some (.slice (some ⟨gb,0,none⟩) h.objs.length cap)/\w'.cell? ⟨p,13,none⟩=some (ι (n:Int))/\w'.cell? ⟨gb,n*2,none⟩=some (ι X))
    (go_keep)
    (fail)
   go_wp2
   (try simp only [Exit.inBlock,Exit.then])
   have hfin:=fun (cs:Array Value)=>(cK (by simp):((((w.setCell ⟨p,6,none⟩ (ι 2)).setCell ⟨p,8,none⟩ (ι X)).alloc (bD v)).alloc (.cells cs 28)).heap[w.heap.size+1]?=some (.cells cs 28 (0,0)))
   refine bodyPost_ret (results_cell_row rfl _ _ (w.heap.size+1) _ _ _ _ rfl (hfin _) underlying28 rfl kL) rfl ?_
   have FA:=(HX.o.frSet 6 (ι 2)).trans (PT.o.frSet 8 (ι X))
   exact ⟨rfl,QJ.o.old (((Bl.refl _).alloc _).alloc _).drew,FA.trans (Fr.old QJ.o.base (((Bl.refl _).alloc _).alloc _).drew)⟩
  ·have hd:decide (0<=h.thrown)=false:=decide_eq_false h0
   by_cases hk:v.kind=1∨v.kind=2
   ·have hr:h.doneH v={ h with sh:={ h.sh with fin:=1,value:=v.n } }:=by unfold Hp.doneH;rw [if_neg (by rw [cY];decide),if_neg h0,if_pos hk]
    rw [hr]
    have Uh:Θ (h.over=false):=cY
    clear hr cY
    obtain ⟨vk,vn⟩:=v
    dsimp only at *
    rcases hk with rfl|rfl
    ·go_enter func27,ntmps27
     go_wp2
     (try simp only [Exit.inBlock,Exit.then])
     refine bodyPost_ret (results_cell_row rfl _ _ (w.heap.size+1) _ _ _ _ rfl (cK (by simp)) underlying28 rfl kL) rfl ?_
     have H1:=HX.o.set HK.o (i:=6) (v:=ι 1) { h with sh:={ h.sh with fin:=1 } } rfl rfl rfl
     have H2:=H1.set HK.o (i:=7) (v:=ι vn) { h with sh:={ h.sh with fin:=1,value:=vn } } rfl rfl rfl
     have FA:=(HX.o.frSet 6 (ι 1)).trans (H1.frSet 7 (ι vn))
     exact ⟨rfl,H2.old (((Bl.refl _).alloc _).alloc _),FA.trans (Fr.old H2.base (((Bl.refl _).alloc _).alloc _))⟩
    ·go_enter func27,ntmps27
     go_wp2
     (try simp only [Exit.inBlock,Exit.then])
     refine bodyPost_ret (results_cell_row rfl _ _ (w.heap.size+1) _ _ _ _ rfl (cK (by simp)) underlying28 rfl kL) rfl ?_
     have H1:=HX.o.set HK.o (i:=6) (v:=ι 1) { h with sh:={ h.sh with fin:=1 } } rfl rfl rfl
     have H2:=H1.set HK.o (i:=7) (v:=ι vn) { h with sh:={ h.sh with fin:=1,value:=vn } } rfl rfl rfl
     have FA:=(HX.o.frSet 6 (ι 1)).trans (H1.frSet 7 (ι vn))
     exact ⟨rfl,H2.old (((Bl.refl _).alloc _).alloc _),FA.trans (Fr.old H2.base (((Bl.refl _).alloc _).alloc _))⟩
   ·have hr:h.doneH v={ h with sh:={ h.sh with fin:=1 } }:=by unfold Hp.doneH;rw [if_neg (by rw [cY];decide),if_neg h0,if_neg hk]
    rw [hr]
    have Uh:Θ (h.over=false):=cY
    clear hr cY
    have k1:(v.kind==1)=false:=by simp;omega
    have k2:(v.kind==2)=false:=by simp;omega
    clear hk
    go_enter func27,ntmps27
    go_wp2
    (try simp only [Exit.inBlock,Exit.then])
    refine bodyPost_ret (results_cell_row rfl _ _ (w.heap.size+1) _ _ _ _ rfl (cK (by simp)) underlying28 rfl kL) rfl ?_
    have H1:=HX.o.set HK.o (i:=6) (v:=ι 1) { h with sh:={ h.sh with fin:=1 } } rfl rfl rfl
    exact ⟨rfl,H1.old (((Bl.refl _).alloc _).alloc _),(HX.o.frSet 6 _).trans (Fr.old H1.base (((Bl.refl _).alloc _).alloc _))⟩
 ·rw [cY] at c12
  have hr:h.doneH v=h:=by unfold Hp.doneH;rw [if_pos cY]
  rw [hr]
  have Uh:Θ (h.over=true):=cY
  clear hr cY
  go_enter func27,ntmps27
  go_wp2
  (try simp only [Exit.inBlock,Exit.then])
  refine bodyPost_ret (results_cell_row rfl _ _ (w.heap.size+1) _ _ _ _ rfl (cK (by simp)) underlying28 rfl kL) rfl ?_
  exact ⟨rfl,HX.o.old (((Bl.refl _).alloc _).alloc _),Fr.old dX (((Bl.refl _).alloc _).alloc _)⟩
end Go.Proofs.YtgiiapenmjollaaGreat
