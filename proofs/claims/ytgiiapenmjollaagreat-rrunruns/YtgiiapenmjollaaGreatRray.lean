import Derived.Test.YtgiiapenmjollaaGreatRrax
namespace Go.Proofs.YtgiiapenmjollaaGreat
set_option linter.all false
set_option maxHeartbeats 40000000
set_option maxRecDepth 100000
open Go.RowKit
open Tryz
variable {f:Fi} {l:List Cl}
theorem Ml (w0:World) (g:Ad) (p:Nat):∀N,GM w0 g p N:=by
 intro N
 induction N using Nat.strongRecOn with
 | ind N IH =>
  intro h m P CC K pp cc kk A ac lb l w hH E ho iG gh kd hme EG hok hl hg hA Sy hN
  unfold jd
  cases hb:h.enterB m l
  ·rw [if_neg (by decide)]
   exact Om w0 g p h m P CC K pp cc kk A ac lb l w hH E ho gh hme hl hg hA hb
  ·rw [if_pos rfl]
   exact Md w0 g p h m P CC K pp cc kk A ac lb l w hH E ho gh hme hl hg hA kd EG hok Sy hb iG N hN IH
def XM:Sh:=⟨0,0,0,[],0,0⟩
def jv (f:Fi) (entry:Int) (args input:List Int) (fuel:Int):Hp×Va:=jd (cn fuel.toNat) (eP f input fuel) (nth bT f.methods entry.toNat) (dv (nth bT f.methods entry.toNat).params args)
def sy (f:Fi) (entry:Int) (args input:List Int) (fuel:Int):Sh:=((jv f entry args input fuel).1.doneH (jv f entry args input fuel).2).sh
theorem Ji (h:dt l=true):∀d,d<l.length->(nth bL l d).fields.length<=6:=by
 intro d hd
 unfold dt at h
 rw [Bool.and_eq_true,List.all_eq_true] at h
 have:=h.2 d (by simpa using hd)
 unfold qC at this
 rw [Bool.and_eq_true] at this
 have:=of_decide_eq_true this.1
 omega
theorem Jj (h:dt l=true) {d:Nat} (hd:d<l.length):l.length<=12/\(nth bL l d).fields.length<=6/\∀t∈(nth bL l d).fields,fP l.length t=true:=by
 unfold dt at h
 rw [Bool.and_eq_true,List.all_eq_true] at h
 have h1:=of_decide_eq_true h.1
 have h2:=h.2 d (by simpa using hd)
 unfold qC at h2
 rw [Bool.and_eq_true,List.all_eq_true] at h2
 have h3:=of_decide_eq_true h2.1
 exact ⟨h1.2.1,h3.2,h2.2⟩
theorem yo (cs:List Cl) (c k:Nat):bI cs (c:Int) (k:Int)=nth bS (nth bL cs c).fields k:=by unfold bI;rw [Int.toNat_natCast,Int.toNat_natCast]
theorem yp (h:dt l=true) {c k:Nat} (hc:c<l.length) (hk:k<(nth bL l c).fields.length):1<=(bI l (c:Int) (k:Int)).kind/\(bI l (c:Int) (k:Int)).kind<=3:=by
 rw [yo]
 exact vH ((Jj h hc).2.2 _ (bE hk))
theorem sB:Tk 76:=by constructor<;>decide
theorem wi (h:bJ f=true):dt f.classes=true/\(1<=f.methods.length/\f.methods.length<=8)/\∀m∈f.methods,fG f.classes f.methods m=true:=by
 unfold bJ at h
 rw [Bool.and_eq_true,Bool.and_eq_true,List.all_eq_true] at h
 exact ⟨h.1.1,of_decide_eq_true h.1.2,h.2⟩
theorem RD {cs:List Cl} (h:dt cs=true):xA cs:=by
 intro c k hc hk
 have:=yp h (c:=c.toNat) (k:=k.toNat) (by omega) (by omega)
 rw [Int.toNat_of_nonneg hc.1,Int.toNat_of_nonneg hk.1] at this
 omega
theorem Vi {w:World} {A B I:Option Addr} {a b i:Nat} {input:List Int} {fuel:Int} (hA:bK w A f.classes) (hM:cz w B f.methods) (hI:aU w I input) (dL:bJ f=true):Env w ⟨A,a,B,b,I,i,76⟩ (eP f input fuel):=by
 obtain ⟨m1,m2,m3⟩:=wi dL
 obtain ⟨ht,h4,jU⟩:=qD m1
 exact ⟨⟨⟨sB,hA,ht,h4,jU,Ji m1⟩,rfl⟩,⟨RD m1,fun m hm=>⟨m3 m hm,yX hM m hm⟩⟩,hM,hI⟩
theorem gh0 {input:List Int} {fuel:Int} (hI:∀n∈input,cJ n) (hf:0<=fuel/\fuel<=60000):Gh 0 (eP f input fuel) :=
 ⟨fun o ho=>by simp [eP] at ho,by simp [eP],by simp [eP],by simp [eP];exact hf.1,hf,by simp [eP],by simp [eP],hI,by simp [eP]⟩
theorem Cd (h:Hp):∀(l:List Ty) (k:List Int),(∀t∈l,t.kind≠3)->(∀n∈k,cJ n)->∀v∈dv l k,jw h v
 | [],_,_,_,v,hv=>by simp [dv] at hv
 | _::_,[],_,_,v,hv=>by simp [dv] at hv
 | t::l,a::k,h1,h2,v,hv=>by
  simp only [dv,List.mem_cons] at hv
  rcases hv with rfl|hv
  ·refine ⟨fun e=>absurd e (h1 t (List.mem_cons_self ..)),?_⟩
   show cJ (if t.kind=1 then wrap32 a else a)
   split
   ·exact qd _
   ·exact h2 a (List.mem_cons_self ..)
  ·exact Cd h l k (fun x hx=>h1 x (List.mem_cons_of_mem _ hx)) (fun x hx=>h2 x (List.mem_cons_of_mem _ hx)) v hv
theorem results_cell_tmp {P:Program} {fn:Func} {p s:Tmp} {ty:TypeId} (h:fn.results=#[.cell p ty,.tmp s]) (tmps:Array Value) (w:World) (g:Nat) (t:TypeId) (cs:Array Value) (fr:Nat×Nat) (d:TypeDesc) (v:Value) (hp:tmps.getD p undef=π g 0) (hs:tmps.getD s undef=v) (hg:w.heap[g]?=some (.cells cs t fr)) (hu:P.underlying ty=some d) (hd:(match d with | .struct _ | .array _ _=>true|_=>false)=true) (hi:(P.info? ty).map (·.size)=some cs.size) :
  (results fn tmps).run P w=.ok (.tuple #[.agg cs,v]) w:=by
 have qY:tmps[p]?.getD undef=π g 0:=by simpa using hp
 have QD:tmps[s]?.getD undef=v:=by simpa using hs
 simp [results,h,qY,QD,asAddr,run_loadVar_row w g t ty cs fr d hg hu hd hi]
section
variable (f:Fi) (A B I R:Option Addr) (a b i r:Nat) (entry fuel:Int) (args input:List Int)
theorem EL (W0 w:World) (hW:Bl W0 w) (hM:cz w B f.methods) (hi:input.length<=maxLen) (hR:aU w R args) (dL:bJ f=true) (hE:gU f entry args input fuel≠0) :
  χ 25 #[lr f.classes.length f.methods.length A B a b,ι entry,.slice R args.length r,.slice I input.length i,ι fuel] w fun e w'=>e=.returned (.tuple #[.pointer none,.slice none 0 0,ι (gU f entry args input fuel)])/\Bl w w':=by
 unfold gU at hE ⊢
 split at hE
 ·rename_i h1
  rw [if_pos h1]
  exact xW f A B I R a b i r entry fuel args input w hM.1 h1
 ·rename_i h1
  rw [if_neg h1]
  have AV:(0<=entry/\entry<=(f.methods.length:Int)-1)/\(0<=fuel/\fuel<=60000):=by
   refine ⟨?_,?_⟩
   ·exact Classical.byContradiction fun hc=>h1 (Or.inl hc)
   ·exact Classical.byContradiction fun hc=>h1 (Or.inr hc)
  split at hE
  ·rename_i h2
   rw [if_pos h2]
   exact zR f A B I R a b i r entry fuel args input w hM.1 hi AV.1 AV.2 h2
  ·rename_i h2
   rw [if_neg h2]
   split at hE
   ·rename_i h3
    rw [if_pos h3]
    exact Dp f A B I R a b i r entry fuel args input w hM hi hR.1 AV.1 AV.2 h2 h3
   ·rename_i h3
    rw [if_neg h3]
    split at hE
    ·rename_i h4
     rw [if_pos h4]
     have hp:(nth bT f.methods entry.toNat).params.length<=4:=by
      exact (j6 ((wi dL).2.2 _ (bE (by omega)))).2.2.2.1
     refine (xX W0 f A B I R a b i r entry fuel args input w hW hM hi hR AV.1 AV.2 h2 (by omega) hp).mono fun e w' hh=>?_
     unfold km at hh
     rw [if_pos h4] at hh
     exact hh
    ·exact absurd rfl hE
theorem AX (W0 w:World) (hW:Bl W0 w) (hM:cz w B f.methods) (hi:input.length<=maxLen) (hR:aU w R args) (dL:bJ f=true) (hE:gU f entry args input fuel=0) :
  (χ 25 #[lr f.classes.length f.methods.length A B a b,ι entry,.slice R args.length r,.slice I input.length i,ι fuel] w fun e w'=>rK W0 f A B I a b i fuel input (dv (nth bT f.methods entry.toNat).params args) w e w')
  /\ (0<=entry/\entry<=(f.methods.length:Int)-1)/\(0<=fuel/\fuel<=60000)/\args.length=(nth bT f.methods entry.toNat).params.length/\gT (nth bT f.methods entry.toNat).params=false:=by
 unfold gU at hE
 split at hE
 ·exact absurd hE (by decide)
 rename_i h1
 have AV:(0<=entry/\entry<=(f.methods.length:Int)-1)/\(0<=fuel/\fuel<=60000):=by
  refine ⟨?_,?_⟩
  ·exact Classical.byContradiction fun hc=>h1 (Or.inl hc)
  ·exact Classical.byContradiction fun hc=>h1 (Or.inr hc)
 split at hE
 ·exact absurd hE (by decide)
 rename_i h2
 split at hE
 ·exact absurd hE (by decide)
 rename_i h3
 split at hE
 ·exact absurd hE (by decide)
 rename_i h4
 have hp:(nth bT f.methods entry.toNat).params.length<=4:=by
  exact (j6 ((wi dL).2.2 _ (bE (by omega)))).2.2.2.1
 refine ⟨(xX W0 f A B I R a b i r entry fuel args input w hW hM hi hR AV.1 AV.2 h2 (by omega) hp).mono fun e w' hh=>?_,AV.1,AV.2,by omega,by simpa using h4⟩
 unfold km at hh
 rw [if_neg h4] at hh
 exact hh
theorem Jk (w:World) (hM:cz w B f.methods) (hi:input.length<=maxLen) (hR:aU w R args) (dL:bJ f=true) (hE:gU f entry args input fuel≠0) :
  χ 15 #[lr f.classes.length f.methods.length A B a b,ι entry,.slice R args.length r,.slice I input.length i,ι fuel] w fun e w'=>e=.returned (.tuple #[SB XM (.slice none 0 0),ι (gU f entry args input fuel)])/\Bl w w':=by
 have bl0:Bl w ((w.alloc (qt f A B a b)).alloc xY):=((Bl.refl w).alloc _).alloc _
 have HB:Θ (Bl w ((w.alloc (qt f A B a b)).alloc xY)):=bl0
 have HC:Θ (χ 25 #[lr f.classes.length f.methods.length A B a b,ι entry,.slice R args.length r,.slice I input.length i,ι fuel] ((w.alloc (qt f A B a b)).alloc xY) fun e w'=>e=.returned (.tuple #[.pointer none,.slice none 0 0,ι (gU f entry args input fuel)])/\Bl ((w.alloc (qt f A B a b)).alloc xY) w') :=
  EL f A B I R a b i r entry fuel args input w _ bl0 (hM.bl bl0) hi (hR.bl bl0) dL hE
 have HS:Θ (mJ ((w.alloc (qt f A B a b)).alloc xY) (w.heap.size+1) #[ι 0,ι 0,ι 0,.slice none 0 0,ι 0,ι 0]):=⟨cK (by simp)⟩
 have hz:(gU f entry args input fuel !=0)=true:=by simpa using hE
 clear hM hi hR dL hE bl0
 generalize gU f entry args input fuel=E at *
 go_enter func15,ntmps15
 go_wp2_with (go_at_call 25;refine HC.o.mono ?_;rintro e w1 ⟨rfl,b1⟩;have B1:Θ (Bl ((w.alloc (qt f A B a b)).alloc xY) w1):=b1;have S1:Θ (mJ w1 (w.heap.size+1) #[ι 0,ι 0,ι 0,.slice none 0 0,ι 0,ι 0]):=⟨(b1.block _ (af HS.o.blk)).trans HS.o.blk⟩;have s0:=ab (i:=0) S1.o.blk;have s1:=ab (i:=1) S1.o.blk;have s2:=ab (i:=2) S1.o.blk;have s3:=ab (i:=3) S1.o.blk;have s4:=ab (i:=4) S1.o.blk;have s5:=ab (i:=5) S1.o.blk;have sf:=aA S1.o.blk;clear b1)
 refine bodyPost_ret (results_cell_tmp rfl _ _ (w.heap.size+1) _ _ _ _ (ι E) rfl rfl (S1.o.six XM (.slice none 0 0)).blk underlying28 rfl kL) rfl ?_
 have hb:=HB.o.trans B1.o
 have hle:w.heap.size<=w.heap.size+1:=by omega
 exact ⟨rfl,(((((hb.setCell hle _).setCell hle _).setCell hle _).setCell hle _).setCell hle _).setCell hle _⟩
end
theorem sC:¬gI 76 28:=by rintro (e|e|e|e)<;>exact absurd e (by decide)
def Ce (f:Fi) (entry:Int) (args input:List Int) (fuel:Int) (w:World) (e:Ending) (w':World):Prop :=
 ∃vx,e=.returned (.tuple #[SB (sy f entry args input fuel) vx,ι 0])/\w'.ownsRow w.heap.size 2 1 vx (sy f entry args input fuel).o.length ((sy f entry args input fuel).o.map (Value.int .i64))/\Bl w w'
theorem Mm (f:Fi) (A B I R:Option Addr) (a b i r:Nat) (entry fuel:Int) (args input:List Int) (w:World) (hA:bK w A f.classes) (hM:cz w B f.methods) (hI:aU w I input) (hR:aU w R args) (dL:bJ f=true) (hE:gU f entry args input fuel=0) :
  χ 15 #[lr f.classes.length f.methods.length A B a b,ι entry,.slice R args.length r,.slice I input.length i,ι fuel] w fun e w'=>Ce f entry args input fuel w e w':=by
 have bl0:Bl w ((w.alloc (qt f A B a b)).alloc xY):=((Bl.refl w).alloc _).alloc _
 have HB:Θ (Bl w ((w.alloc (qt f A B a b)).alloc xY)):=bl0
 obtain ⟨hc,h1,h2,h3,h4⟩:=AX f A B I R a b i r entry fuel args input w _ bl0 (hM.bl bl0) hI.1 (hR.bl bl0) dL hE
 have HC:Θ (χ 25 #[lr f.classes.length f.methods.length A B a b,ι entry,.slice R args.length r,.slice I input.length i,ι fuel] ((w.alloc (qt f A B a b)).alloc xY) fun e w'=>rK w f A B I a b i fuel input (dv (nth bT f.methods entry.toNat).params args) ((w.alloc (qt f A B a b)).alloc xY) e w'):=hc
 have HS:Θ (mJ ((w.alloc (qt f A B a b)).alloc xY) (w.heap.size+1) #[ι 0,ι 0,ι 0,.slice none 0 0,ι 0,ι 0]):=⟨cK (by simp)⟩
 have rA:Θ (((w.alloc (qt f A B a b)).alloc xY).heap[w.heap.size]?=some (qt f A B a b)):=fH (by simp) (cK rfl)
 obtain ⟨n,rfl⟩:∃n:Nat,entry=n:=⟨entry.toNat,by omega⟩
 have pE:n<f.methods.length:=by omega
 obtain ⟨mb,mo,P,CC,K,pp,cc,kk,hB,HZ,hme⟩:=mf hM pE
 subst hB
 have HZH:Θ (_):=HZ
 have EG:fG f.classes f.methods (nth bT f.methods n)=true/\∀i∈(nth bT f.methods n).code,i.ok:=⟨(wi dL).2.2 _ (bE pE),yX hM _ (bE pE)⟩
 have Vj:Kd (eP f input fuel):=fun o ho=>by simp [eP] at ho
 have hgd:∀v∈dv (nth bT f.methods n).params args,jw (eP f input fuel) v:=Cd _ _ _ (fun t ht e=>by
  rw [Int.toNat_natCast] at h4
  unfold gT at h4
  rw [List.any_eq_false] at h4
  exact absurd (decide_eq_true e) (h4 t ht)) (qe hR)
 have EV:=Vi (a:=a) (b:=b) (i:=i) (fuel:=fuel) hA hM hI dL
 have GH:=gh0 (f:=f) (qe hI) h2
 have JN:(dv (nth bT f.methods n).params args).length=(nth bT f.methods n).params.length:=iR _ _ (by rw [Int.toNat_natCast] at h3;omega)
 have HR:Θ (∀(p:Nat) (L:Option Addr) (lc lb:Nat) (w1:World),Hs w ⟨A,a,some ⟨mb,mo,none⟩,b,I,i,76⟩ w1 p (eP f input fuel)->ej lb w1 L (dv (nth bT f.methods n).params args)->(dv (nth bT f.methods n).params args).length<=lc->χ 33 #[π p 0,sK (nth bT f.methods n) P CC K pp cc kk,.slice L (dv (nth bT f.methods n).params args).length lc] w1 fun e w' =>
   e=.returned (jh (jv f (n:Int) args input fuel).2)/\Hs w ⟨A,a,some ⟨mb,mo,none⟩,b,I,i,76⟩ w' p (jv f (n:Int) args input fuel).1/\Fr w.heap.size 76 w1 w'):=fun p L lc lb w1 C9 PU Vk =>
  Ml w ⟨A,a,some ⟨mb,mo,none⟩,b,I,i,76⟩ p fuel.toNat (eP f input fuel) (nth bT f.methods n) P CC K pp cc kk L lc lb _ w1 C9 EV rfl rfl GH Vj hme EG.1 EG.2 JN hgd PU Vk (by show (fuel-0).toNat<=fuel.toNat;simp)
 have RE:Θ (iM (eP f input fuel) (jv f (n:Int) args input fuel) 0):=xB (tH f EV.may fuel.toNat) rfl GH Vj rfl rfl EG.1 EG.2 JN hgd
 have iL:=hM.1
 unfold maxLen at iL
 have iw:(0:Int)<=(n:Int):=by omega
 have fT:(n:Int)<(f.methods.length:Int):=by omega
 rw [Int.toNat_natCast] at *
 have S5:Θ (sy f (n:Int) args input fuel=((jv f (n:Int) args input fuel).1.doneH (jv f (n:Int) args input fuel).2).sh):=rfl
 have Vl:Θ (∀e w',(∃vx,e=Ending.returned (.tuple #[SB ((jv f (n:Int) args input fuel).1.doneH (jv f (n:Int) args input fuel).2).sh vx,ι 0])/\w'.ownsRow w.heap.size 2 1 vx ((jv f (n:Int) args input fuel).1.doneH (jv f (n:Int) args input fuel).2).sh.o.length (((jv f (n:Int) args input fuel).1.doneH (jv f (n:Int) args input fuel).2).sh.o.map (Value.int .i64))/\Bl w w')->Ce f (n:Int) args input fuel w e w'):=fun e w' hh=>hh
 clear hA hM hI hR dL hE hc h1 h2 h3 h4 EG hgd EV GH Vj JN hme bl0 HZ S5
 generalize (dv (nth bT f.methods n).params args)=l at *
 generalize nth bT f.methods n=M at *
 generalize qy:(jv f (n:Int) args input fuel)=RR at *
 clear qy
 go_enter func15,ntmps15
 repeat (first|(go_big_may;go_says (first|(go_at_call 25;refine HC.o.mono ?_;rintro e w1 ⟨p,L,lc,rfl,pP,PU,Vk,b1⟩;have f1:=(b1.block _ (af rA.o)).trans rA.o;have fc1:w1.cell? ⟨w.heap.size,1,none⟩=some (.slice (some ⟨mb,mo,none⟩) f.methods.length b):=(ab (i:=1) f1).trans rfl;have hfl:=af f1;obtain ⟨y0,y1,y2,y3,y4,y5,y6,y7⟩:=HZH.o;have bw:=HB.o.trans b1;have x0:=bw.cell y0;have x1:=bw.cell y1;have x2:=bw.cell y2;have x3:=bw.cell y3;have x4:=bw.cell y4;have x5:=bw.cell y5;have x6:=bw.cell y6;have x7:=bw.cell y7;have YZ:=br x0;have e0:w1.cell? ⟨p,0,none⟩=some (.slice A f.classes.length a):=pP.cells.c0;have e1:w1.cell? ⟨p,1,none⟩=some (.slice (some ⟨mb,mo,none⟩) f.methods.length b):=pP.cells.c1;have e2:w1.cell? ⟨p,2,none⟩=some (.slice none 0 0):=pP.cells.c2;have e3:w1.cell? ⟨p,3,none⟩=some (.slice I input.length i):=pP.cells.c3;have e4:w1.cell? ⟨p,4,none⟩=some (ι 0):=pP.cells.c4;have e5:w1.cell? ⟨p,5,none⟩=some (ι fuel):=pP.cells.c5;have e6:w1.cell? ⟨p,6,none⟩=some (ι 0):=pP.cells.c6;have e7:w1.cell? ⟨p,7,none⟩=some (ι 0):=pP.cells.c7;have e8:w1.cell? ⟨p,8,none⟩=some (ι 0):=pP.cells.c8;have e9:w1.cell? ⟨p,9,none⟩=some (.slice none 0 0):=pP.cells.c9;have BS:w1.cell? ⟨p,10,none⟩=some (ι 0):=pP.cells.c10;have DR:w1.cell? ⟨p,11,none⟩=some (ι 0):=pP.cells.c11;have Hn:w1.cell? ⟨p,12,none⟩=some (.bool false):=pP.cells.c12;have e13:w1.cell? ⟨p,13,none⟩=some (ι (-1)):=pP.cells.c13;have ST1:=ae PU;have S1:Θ (mJ w1 (w.heap.size+1) #[ι 0,ι 0,ι 0,.slice none 0 0,ι 0,ι 0]):=⟨(b1.block _ (af HS.o.blk)).trans HS.o.blk⟩;have Vm:Θ (Bl w w1):=bw;clear y0 y1 y2 y3 y4 y5 y6 y7 bw b1 f1 pP PU)|(go_at_call 33;refine (HR.o w1.heap.size L lc ((w.alloc (qt f A (some ⟨mb,mo,none⟩) a b)).alloc xY).heap.size (w1.alloc (.cells #[.slice A f.classes.length a,.slice (some ⟨mb,mo,none⟩) f.methods.length b,.slice none 0 0,.slice I input.length i,ι 0,ι fuel,ι 0,ι 0,ι 0,.slice none 0 0,ι 0,ι 0,.bool false,ι (-1)] 76)) ⟨.slice none 0 0,.slice none 0 0,[],Vm.o.size,cK rfl,Vm.o.alloc _,⟨rfl,Or.inl ⟨rfl,rfl⟩⟩,⟨rfl,⟨rfl,Or.inl ⟨rfl,rfl⟩⟩,fun i hi=>absurd hi (by simp [eP]),fun i j hi=>absurd hi (by simp [eP])⟩⟩ (ST1.o.keep fun b cs f e _=>fH (af e) e) Vk).mono ?_;rintro e w2 ⟨rfl,h2,f2⟩;have F2:=ae f2;have H2:=ae h2;have dQ:=h2.base;clear h2 f2 e0 e1 e2 e3 e4 e5 e6 e7 e8 e9 BS DR Hn e13 x0 x1 x2 x3 x4 x5 x6 x7)))|go_values|go_skip|go_guarded|go_step|go_upon|(simp only [Int.not_lt,Int.not_le] at *;go_simp)|(go_values<;>(try go_simp))|(go_ite<;>go_prune<;>(try go_simp)))
 obtain ⟨vo,vx,hv,HX⟩:=H2.o.old ((Bl.refl w2).alloc (bD RR.2))
 obtain ⟨xa,xn,xc,rfl⟩:∃xa xn xc,vx=.slice xa xn xc:=by
  rcases HX.o.2 with ⟨e,-⟩|⟨gb,cp,cur,e,-⟩
  ·exact ⟨_,_,_,e⟩
  ·exact ⟨_,_,_,e⟩
 have nz:=ae HX
 have U2:Θ (aC (w2.alloc (bD RR.2)) w2.heap.size RR.2):=aC.new w2 RR.2
 have z6:=ae (And.intro U2.o.c0 U2.o.c1)
 clear HX
 refine wp_region_held_drew (S:=fun w'=>w'.cell? ⟨w2.heap.size,0,none⟩=some (ι RR.2.kind)/\w'.cell? ⟨w2.heap.size,1,none⟩=some (ι RR.2.n)) (by kernel_rfl) ?_ (fun aa=>?_)
 ·exact z6.o
 iterate 4 (refine tn rfl (by kernel_rfl) (fun _ _ _ h=>h) (by intro _ h;go_split_ands;go_simp<;>with_reducible rfl) aa ?_;try simp only [aZ])
 refine aY (i:=4) (by kernel_rfl) rfl fun K hK=>?_
 go_simp
 go_at_call 27
 refine (GN w ⟨A,a,some ⟨mb,mo,none⟩,b,I,i,76⟩ sB (show (76:TypeId)≠28 from by decide) w1.heap.size RR.1 RR.2 _ vo (.slice xa xn xc) hv (nz.o.drewN 1) RE.o.gh.thr.2).mono ?_
 rintro e w3 ⟨rfl,h3,f3⟩
 have F3:Θ (Fr w.heap.size 76 (w1.alloc (.cells #[.slice A f.classes.length a,.slice (some ⟨mb,mo,none⟩) f.methods.length b,.slice none 0 0,.slice I input.length i,ι 0,ι fuel,ι 0,ι 0,ι 0,.slice none 0 0,ι 0,ι 0,.bool false,ι (-1)] 76)) w3):=(F2.o.trans ((Fr.old dQ ((Bl.refl w2).alloc (bD RR.2))).drewN 1)).trans f3
 have U3:=ae ((U2.o.drewN 1).keep sB f3)
 have S3:Θ (mJ w3 (w.heap.size+1) #[ι 0,ι 0,ι 0,.slice none 0 0,ι 0,ι 0]):=⟨F3.o.keep _ _ _ _ (fH (af S1.o.blk) S1.o.blk) sC⟩
 have d6:=ae (And.intro U3.o.c0 U3.o.c1)
 have H3:Θ (cO w ⟨A,a,some ⟨mb,mo,none⟩,b,I,i,76⟩ w3 w1.heap.size (RR.1.doneH RR.2) vo (.slice xa xn xc) hv):=h3
 have s0:=ab (i:=0) S3.o.blk
 have s1:=ab (i:=1) S3.o.blk
 have s2:=ab (i:=2) S3.o.blk
 have s3:=ab (i:=3) S3.o.blk
 have s4:=ab (i:=4) S3.o.blk
 have s5:=ab (i:=5) S3.o.blk
 have sf:=aA S3.o.blk
 have pY:w2.heap.size≠w.heap.size+1:=by have h1:=F2.o.bl.size;rw [World.size_alloc] at h1;have:=af S1.o.blk;omega
 clear h3 f3
 go_wp2_with fail
 refine hK.out _ _ (d6.o) (fun ah=>?_)
 try simp only [aZ]
 refine aY (i:=5) (by kernel_rfl) rfl fun K hK=>?_
 go_simp
 have dd6:(fun w'=>w'.cell? ⟨w2.heap.size,0,none⟩=some (ι RR.2.kind)/\w'.cell? ⟨w2.heap.size,1,none⟩=some (ι RR.2.n)) ((((((w3.setCell ⟨w.heap.size+1,0,none⟩ (ι (RR.1.doneH RR.2).sh.fin)).setCell ⟨w.heap.size+1,1,none⟩ (ι (RR.1.doneH RR.2).sh.value)).setCell ⟨w.heap.size+1,2,none⟩ (ι (RR.1.doneH RR.2).sh.cls)).setCell ⟨w.heap.size+1,3,none⟩ (.slice xa xn xc)).setCell ⟨w.heap.size+1,4,none⟩ (ι (RR.1.doneH RR.2).sh.used)).setCell ⟨w.heap.size+1,5,none⟩ (ι (RR.1.doneH RR.2).sh.steps)):=⟨by rw [World.cell?_of_block (ak pY _),World.cell?_of_block (ak pY _),World.cell?_of_block (ak pY _),World.cell?_of_block (ak pY _),World.cell?_of_block (ak pY _),World.cell?_of_block (ak pY _)];exact d6.o.1,by rw [World.cell?_of_block (ak pY _),World.cell?_of_block (ak pY _),World.cell?_of_block (ak pY _),World.cell?_of_block (ak pY _),World.cell?_of_block (ak pY _),World.cell?_of_block (ak pY _)];exact d6.o.2⟩
 refine hK.out _ _ (dd6) (fun aH=>?_)
 try simp only [aZ]
 refine tn rfl (by kernel_rfl) (fun _ _ _ h=>h) (by intro _ h;go_split_ands;go_simp<;>with_reducible rfl) aH ?_
 try simp only [aZ]
 refine wpAnyH_done (by kernel_rfl) ?_ _
 repeat (first|go_values|go_skip|go_guarded|go_step|go_upon|(simp only [Int.not_lt,Int.not_le] at *;go_simp)|(go_values<;>(try go_simp))|(go_ite<;>go_prune<;>(try go_simp)))
 (try simp only [Exit.inBlock,Exit.then])
 refine bodyPost_ret (results_cell_tmp rfl _ _ (w.heap.size+1) _ _ _ _ (ι 0) rfl rfl (S3.o.six (RR.1.doneH RR.2).sh (.slice xa xn xc)).blk underlying28 rfl kL) rfl ?_
 have hle:w.heap.size<=w.heap.size+1:=by omega
 have Qu:=S3.o.cf (B:=w.heap.size) sC hle (ι (RR.1.doneH RR.2).sh.fin) (ι (RR.1.doneH RR.2).sh.value) (ι (RR.1.doneH RR.2).sh.cls) (.slice xa xn xc) (ι (RR.1.doneH RR.2).sh.used) (ι (RR.1.doneH RR.2).sh.steps)
 refine Vl.o _ _ ⟨_,rfl,Qu.row (.inr (.inr (.inr rfl))) H3.o.o,?_⟩
 exact Below.trans (Below.trans (Vm.o.alloc _) F3.o.bl) Qu.bl
end Go.Proofs.YtgiiapenmjollaaGreat
