import Derived.Test.YtgbebphpjnmafaaGreatRrax
namespace Go.Proofs.YtgbebphpjnmafaaGreat
set_option linter.all false
set_option maxHeartbeats 40000000
set_option maxRecDepth 100000
open Go.RowKit
open Tryz
variable {f:Fi} {l:List Cl}
theorem Ma (w0:World) (g:Ad) (p:Nat):∀N,GG w0 g p N:=by
 intro N
 induction N using Nat.strongRecOn with
 | ind N IH =>
  intro h m P CC K pp cc kk A ac lb l w hH E ho iA gh kd hme EA hok hl hg hA Sv hN
  unfold iZ
  cases hb:h.enterB m l
  ·rw [if_neg (by decide)]
   exact Og w0 g p h m P CC K pp cc kk A ac lb l w hH E ho gh hme hl hg hA hb
  ·rw [if_pos rfl]
   exact L4 w0 g p h m P CC K pp cc kk A ac lb l w hH E ho gh hme hl hg hA kd EA hok Sv hb iA N hN IH
def XN:Sh:=⟨0,0,0,[],0,0⟩
def jo (f:Fi) (entry:Int) (args input:List Int) (fuel:Int):Hp×Va:=iZ (cn fuel.toNat) (eP f input fuel) (nth bT f.methods entry.toNat) (dv (nth bT f.methods entry.toNat).params args)
def sm (f:Fi) (entry:Int) (args input:List Int) (fuel:Int):Sh:=((jo f entry args input fuel).1.doneH (jo f entry args input fuel).2).sh
theorem Jc (h:dt l=true):∀d,d<l.length->(nth bL l d).fields.length<=6:=by
 intro d hd
 unfold dt at h
 rw [Bool.and_eq_true,List.all_eq_true] at h
 have:=h.2 d (by simpa using hd)
 unfold qt at this
 rw [Bool.and_eq_true] at this
 have:=of_decide_eq_true this.1
 omega
theorem Jd (h:dt l=true) {d:Nat} (hd:d<l.length):l.length<=12/\(nth bL l d).fields.length<=6/\∀t∈(nth bL l d).fields,fP l.length t=true:=by
 unfold dt at h
 rw [Bool.and_eq_true,List.all_eq_true] at h
 have h1:=of_decide_eq_true h.1
 have h2:=h.2 d (by simpa using hd)
 unfold qt at h2
 rw [Bool.and_eq_true,List.all_eq_true] at h2
 have h3:=of_decide_eq_true h2.1
 exact ⟨h1.2.1,h3.2,h2.2⟩
theorem yj (cs:List Cl) (c k:Nat):bI cs (c:Int) (k:Int)=nth bS (nth bL cs c).fields k:=by unfold bI;rw [Int.toNat_natCast,Int.toNat_natCast]
theorem yk (h:dt l=true) {c k:Nat} (hc:c<l.length) (hk:k<(nth bL l c).fields.length):1<=(bI l (c:Int) (k:Int)).kind/\(bI l (c:Int) (k:Int)).kind<=3:=by
 rw [yj]
 exact vC ((Jd h hc).2.2 _ (bE hk))
theorem sn:Tk 75:=by constructor<;>decide
theorem v7 (h:bJ f=true):dt f.classes=true/\(1<=f.methods.length/\f.methods.length<=8)/\∀m∈f.methods,fG f.classes f.methods m=true:=by
 unfold bJ at h
 rw [Bool.and_eq_true,Bool.and_eq_true,List.all_eq_true] at h
 exact ⟨h.1.1,of_decide_eq_true h.1.2,h.2⟩
theorem RA {cs:List Cl} (h:dt cs=true):xr cs:=by
 intro c k hc hk
 have:=yk h (c:=c.toNat) (k:=k.toNat) (by omega) (by omega)
 rw [Int.toNat_of_nonneg hc.1,Int.toNat_of_nonneg hk.1] at this
 omega
theorem Vf {w:World} {A B I:Option Addr} {a b i:Nat} {input:List Int} {fuel:Int} (hA:bK w A f.classes) (hM:cz w B f.methods) (hI:aU w I input) (dL:bJ f=true):Env w ⟨A,a,B,b,I,i,75⟩ (eP f input fuel):=by
 obtain ⟨m1,m2,m3⟩:=v7 dL
 obtain ⟨ht,h4,jP⟩:=qw m1
 exact ⟨⟨⟨sn,hA,ht,h4,jP,Jc m1⟩,rfl⟩,⟨RA m1,fun m hm=>⟨m3 m hm,yS hM m hm⟩⟩,hM,hI⟩
theorem gh0 {input:List Int} {fuel:Int} (hI:∀n∈input,cJ n) (hf:0<=fuel/\fuel<=60000):Gh 0 (eP f input fuel) :=
 ⟨fun o ho=>by simp [eP] at ho,by simp [eP],by simp [eP],by simp [eP];exact hf.1,hf,by simp [eP],by simp [eP],hI,by simp [eP]⟩
theorem B5 (h:Hp):∀(l:List Ty) (k:List Int),(∀t∈l,t.kind≠3)->(∀n∈k,cJ n)->∀v∈dv l k,jq h v
 | [],_,_,_,v,hv=>by simp [dv] at hv
 | _::_,[],_,_,v,hv=>by simp [dv] at hv
 | t::l,a::k,h1,h2,v,hv=>by
  simp only [dv,List.mem_cons] at hv
  rcases hv with rfl|hv
  ·refine ⟨fun e=>absurd e (h1 t (List.mem_cons_self ..)),?_⟩
   show cJ (if t.kind=1 then wrap32 a else a)
   split
   ·exact pW _
   ·exact h2 a (List.mem_cons_self ..)
  ·exact B5 h l k (fun x hx=>h1 x (List.mem_cons_of_mem _ hx)) (fun x hx=>h2 x (List.mem_cons_of_mem _ hx)) v hv
theorem results_cell_tmp {P:Program} {fn:Func} {p s:Tmp} {ty:TypeId} (h:fn.results=#[.cell p ty,.tmp s]) (tmps:Array Value) (w:World) (g:Nat) (t:TypeId) (cs:Array Value) (fr:Nat×Nat) (d:TypeDesc) (v:Value) (hp:tmps.getD p undef=π g 0) (hs:tmps.getD s undef=v) (hg:w.heap[g]?=some (.cells cs t fr)) (hu:P.underlying ty=some d) (hd:(match d with | .struct _ | .array _ _=>true|_=>false)=true) (hi:(P.info? ty).map (·.size)=some cs.size) :
  (results fn tmps).run P w=.ok (.tuple #[.agg cs,v]) w:=by
 have qT:tmps[p]?.getD undef=π g 0:=by simpa using hp
 have Qz:tmps[s]?.getD undef=v:=by simpa using hs
 simp [results,h,qT,Qz,asAddr,run_loadVar_row w g t ty cs fr d hg hu hd hi]
section
variable (f:Fi) (A B I R:Option Addr) (a b i r:Nat) (entry fuel:Int) (args input:List Int)
theorem EG (W0 w:World) (hW:Bl W0 w) (hM:cz w B f.methods) (hi:input.length<=maxLen) (hR:aU w R args) (dL:bJ f=true) (hE:gU f entry args input fuel≠0) :
  χ 25 #[lh f.classes.length f.methods.length A B a b,ι entry,.slice R args.length r,.slice I input.length i,ι fuel] w fun e w'=>e=.returned (.tuple #[.pointer none,.slice none 0 0,ι (gU f entry args input fuel)])/\Bl w w':=by
 unfold gU at hE ⊢
 split at hE
 ·rename_i h1
  rw [if_pos h1]
  exact xR f A B I R a b i r entry fuel args input w hM.1 h1
 ·rename_i h1
  rw [if_neg h1]
  have AM:(0<=entry/\entry<=(f.methods.length:Int)-1)/\(0<=fuel/\fuel<=60000):=by
   refine ⟨?_,?_⟩
   ·exact Classical.byContradiction fun hc=>h1 (Or.inl hc)
   ·exact Classical.byContradiction fun hc=>h1 (Or.inr hc)
  split at hE
  ·rename_i h2
   rw [if_pos h2]
   exact zM f A B I R a b i r entry fuel args input w hM.1 hi AM.1 AM.2 h2
  ·rename_i h2
   rw [if_neg h2]
   split at hE
   ·rename_i h3
    rw [if_pos h3]
    exact Dj f A B I R a b i r entry fuel args input w hM hi hR.1 AM.1 AM.2 h2 h3
   ·rename_i h3
    rw [if_neg h3]
    split at hE
    ·rename_i h4
     rw [if_pos h4]
     have hp:(nth bT f.methods entry.toNat).params.length<=4:=by
      exact (jW ((v7 dL).2.2 _ (bE (by omega)))).2.2.2.1
     refine (xS W0 f A B I R a b i r entry fuel args input w hW hM hi hR AM.1 AM.2 h2 (by omega) hp).mono fun e w' hh=>?_
     unfold kb at hh
     rw [if_pos h4] at hh
     exact hh
    ·exact absurd rfl hE
theorem AO (W0 w:World) (hW:Bl W0 w) (hM:cz w B f.methods) (hi:input.length<=maxLen) (hR:aU w R args) (dL:bJ f=true) (hE:gU f entry args input fuel=0) :
  (χ 25 #[lh f.classes.length f.methods.length A B a b,ι entry,.slice R args.length r,.slice I input.length i,ι fuel] w fun e w'=>rF W0 f A B I a b i fuel input (dv (nth bT f.methods entry.toNat).params args) w e w')
  /\ (0<=entry/\entry<=(f.methods.length:Int)-1)/\(0<=fuel/\fuel<=60000)/\args.length=(nth bT f.methods entry.toNat).params.length/\gT (nth bT f.methods entry.toNat).params=false:=by
 unfold gU at hE
 split at hE
 ·exact absurd hE (by decide)
 rename_i h1
 have AM:(0<=entry/\entry<=(f.methods.length:Int)-1)/\(0<=fuel/\fuel<=60000):=by
  refine ⟨?_,?_⟩
  ·exact Classical.byContradiction fun hc=>h1 (Or.inl hc)
  ·exact Classical.byContradiction fun hc=>h1 (Or.inr hc)
 split at hE
 ·exact absurd hE (by decide)
 rename_i h2
 split at hE
 ·exact absurd hE (by decide)
 rename_i h3
 split at hE
 ·exact absurd hE (by decide)
 rename_i h4
 have hp:(nth bT f.methods entry.toNat).params.length<=4:=by
  exact (jW ((v7 dL).2.2 _ (bE (by omega)))).2.2.2.1
 refine ⟨(xS W0 f A B I R a b i r entry fuel args input w hW hM hi hR AM.1 AM.2 h2 (by omega) hp).mono fun e w' hh=>?_,AM.1,AM.2,by omega,by simpa using h4⟩
 unfold kb at hh
 rw [if_neg h4] at hh
 exact hh
theorem Je (w:World) (hM:cz w B f.methods) (hi:input.length<=maxLen) (hR:aU w R args) (dL:bJ f=true) (hE:gU f entry args input fuel≠0) :
  χ 15 #[lh f.classes.length f.methods.length A B a b,ι entry,.slice R args.length r,.slice I input.length i,ι fuel] w fun e w'=>e=.returned (.tuple #[Sx XN (.slice none 0 0),ι (gU f entry args input fuel)])/\Bl w w':=by
 have bl0:Bl w ((w.alloc (qj f A B a b)).alloc xT):=((Bl.refl w).alloc _).alloc _
 have HB:Θ (Bl w ((w.alloc (qj f A B a b)).alloc xT)):=bl0
 have HC:Θ (χ 25 #[lh f.classes.length f.methods.length A B a b,ι entry,.slice R args.length r,.slice I input.length i,ι fuel] ((w.alloc (qj f A B a b)).alloc xT) fun e w'=>e=.returned (.tuple #[.pointer none,.slice none 0 0,ι (gU f entry args input fuel)])/\Bl ((w.alloc (qj f A B a b)).alloc xT) w') :=
  EG f A B I R a b i r entry fuel args input w _ bl0 (hM.bl bl0) hi (hR.bl bl0) dL hE
 have HS:Θ (mE ((w.alloc (qj f A B a b)).alloc xT) (w.heap.size+1) #[ι 0,ι 0,ι 0,.slice none 0 0,ι 0,ι 0]):=⟨cK (by simp)⟩
 have hz:(gU f entry args input fuel !=0)=true:=by simpa using hE
 clear hM hi hR dL hE bl0
 generalize gU f entry args input fuel=E at *
 go_enter func15,ntmps15
 go_wp2_with (go_at_call 25;refine HC.o.mono ?_;rintro e w1 ⟨rfl,b1⟩;have B1:Θ (Bl ((w.alloc (qj f A B a b)).alloc xT) w1):=b1;have S1:Θ (mE w1 (w.heap.size+1) #[ι 0,ι 0,ι 0,.slice none 0 0,ι 0,ι 0]):=⟨(b1.block _ (af HS.o.blk)).trans HS.o.blk⟩;have s0:=ab (i:=0) S1.o.blk;have s1:=ab (i:=1) S1.o.blk;have s2:=ab (i:=2) S1.o.blk;have s3:=ab (i:=3) S1.o.blk;have s4:=ab (i:=4) S1.o.blk;have s5:=ab (i:=5) S1.o.blk;have sf:=aA S1.o.blk;clear b1)
 refine bodyPost_ret (results_cell_tmp rfl _ _ (w.heap.size+1) _ _ _ _ (ι E) rfl rfl (S1.o.six XN (.slice none 0 0)).blk underlying28 rfl kG) rfl ?_
 have hb:=HB.o.trans B1.o
 have hle:w.heap.size<=w.heap.size+1:=by omega
 exact ⟨rfl,(((((hb.setCell hle _).setCell hle _).setCell hle _).setCell hle _).setCell hle _).setCell hle _⟩
end
theorem sr:¬gI 75 28:=by rintro (e|e|e|e)<;>exact absurd e (by decide)
def B6 (f:Fi) (entry:Int) (args input:List Int) (fuel:Int) (w:World) (e:Ending) (w':World):Prop :=
 ∃vx,e=.returned (.tuple #[Sx (sm f entry args input fuel) vx,ι 0])/\w'.ownsRow w.heap.size 2 1 vx (sm f entry args input fuel).o.length ((sm f entry args input fuel).o.map (Value.int .i64))/\Bl w w'
theorem Mb (f:Fi) (A B I R:Option Addr) (a b i r:Nat) (entry fuel:Int) (args input:List Int) (w:World) (hA:bK w A f.classes) (hM:cz w B f.methods) (hI:aU w I input) (hR:aU w R args) (dL:bJ f=true) (hE:gU f entry args input fuel=0) :
  χ 15 #[lh f.classes.length f.methods.length A B a b,ι entry,.slice R args.length r,.slice I input.length i,ι fuel] w fun e w'=>B6 f entry args input fuel w e w':=by
 have bl0:Bl w ((w.alloc (qj f A B a b)).alloc xT):=((Bl.refl w).alloc _).alloc _
 have HB:Θ (Bl w ((w.alloc (qj f A B a b)).alloc xT)):=bl0
 obtain ⟨hc,h1,h2,h3,h4⟩:=AO f A B I R a b i r entry fuel args input w _ bl0 (hM.bl bl0) hI.1 (hR.bl bl0) dL hE
 have HC:Θ (χ 25 #[lh f.classes.length f.methods.length A B a b,ι entry,.slice R args.length r,.slice I input.length i,ι fuel] ((w.alloc (qj f A B a b)).alloc xT) fun e w'=>rF w f A B I a b i fuel input (dv (nth bT f.methods entry.toNat).params args) ((w.alloc (qj f A B a b)).alloc xT) e w'):=hc
 have HS:Θ (mE ((w.alloc (qj f A B a b)).alloc xT) (w.heap.size+1) #[ι 0,ι 0,ι 0,.slice none 0 0,ι 0,ι 0]):=⟨cK (by simp)⟩
 have re:Θ (((w.alloc (qj f A B a b)).alloc xT).heap[w.heap.size]?=some (qj f A B a b)):=fH (by simp) (cK rfl)
 obtain ⟨n,rfl⟩:∃n:Nat,entry=n:=⟨entry.toNat,by omega⟩
 have py:n<f.methods.length:=by omega
 obtain ⟨mb,mo,P,CC,K,pp,cc,kk,hB,HZ,hme⟩:=l6 hM py
 subst hB
 have HZH:Θ (_):=HZ
 have EA:fG f.classes f.methods (nth bT f.methods n)=true/\∀i∈(nth bT f.methods n).code,i.ok:=⟨(v7 dL).2.2 _ (bE py),yS hM _ (bE py)⟩
 have Vg:Kd (eP f input fuel):=fun o ho=>by simp [eP] at ho
 have hgd:∀v∈dv (nth bT f.methods n).params args,jq (eP f input fuel) v:=B5 _ _ _ (fun t ht e=>by
  rw [Int.toNat_natCast] at h4
  unfold gT at h4
  rw [List.any_eq_false] at h4
  exact absurd (decide_eq_true e) (h4 t ht)) (pX hR)
 have EV:=Vf (a:=a) (b:=b) (i:=i) (fuel:=fuel) hA hM hI dL
 have GH:=gh0 (f:=f) (pX hI) h2
 have JH:(dv (nth bT f.methods n).params args).length=(nth bT f.methods n).params.length:=iL _ _ (by rw [Int.toNat_natCast] at h3;omega)
 have HR:Θ (∀(p:Nat) (L:Option Addr) (lc lb:Nat) (w1:World),Hs w ⟨A,a,some ⟨mb,mo,none⟩,b,I,i,75⟩ w1 p (eP f input fuel)->ej lb w1 L (dv (nth bT f.methods n).params args)->(dv (nth bT f.methods n).params args).length<=lc->χ 34 #[π p 0,sF (nth bT f.methods n) P CC K pp cc kk,.slice L (dv (nth bT f.methods n).params args).length lc] w1 fun e w' =>
   e=.returned (jc (jo f (n:Int) args input fuel).2)/\Hs w ⟨A,a,some ⟨mb,mo,none⟩,b,I,i,75⟩ w' p (jo f (n:Int) args input fuel).1/\Fr w.heap.size 75 w1 w'):=fun p L lc lb w1 C4 PN Vh =>
  Ma w ⟨A,a,some ⟨mb,mo,none⟩,b,I,i,75⟩ p fuel.toNat (eP f input fuel) (nth bT f.methods n) P CC K pp cc kk L lc lb _ w1 C4 EV rfl rfl GH Vg hme EA.1 EA.2 JH hgd PN Vh (by show (fuel-0).toNat<=fuel.toNat;simp)
 have RB:Θ (iH (eP f input fuel) (jo f (n:Int) args input fuel) 0):=xv (tC f EV.may fuel.toNat) rfl GH Vg rfl rfl EA.1 EA.2 JH hgd
 have iG:=hM.1
 unfold maxLen at iG
 have ig:(0:Int)<=(n:Int):=by omega
 have fT:(n:Int)<(f.methods.length:Int):=by omega
 rw [Int.toNat_natCast] at *
 have S0:Θ (sm f (n:Int) args input fuel=((jo f (n:Int) args input fuel).1.doneH (jo f (n:Int) args input fuel).2).sh):=rfl
 have Vi:Θ (∀e w',(∃vx,e=Ending.returned (.tuple #[Sx ((jo f (n:Int) args input fuel).1.doneH (jo f (n:Int) args input fuel).2).sh vx,ι 0])/\w'.ownsRow w.heap.size 2 1 vx ((jo f (n:Int) args input fuel).1.doneH (jo f (n:Int) args input fuel).2).sh.o.length (((jo f (n:Int) args input fuel).1.doneH (jo f (n:Int) args input fuel).2).sh.o.map (Value.int .i64))/\Bl w w')->B6 f (n:Int) args input fuel w e w'):=fun e w' hh=>hh
 clear hA hM hI hR dL hE hc h1 h2 h3 h4 EA hgd EV GH Vg JH hme bl0 HZ S0
 generalize (dv (nth bT f.methods n).params args)=l at *
 generalize nth bT f.methods n=M at *
 generalize qm:(jo f (n:Int) args input fuel)=RR at *
 clear qm
 go_enter func15,ntmps15
 repeat (first|(go_big_may;go_says (first|(go_at_call 25;refine HC.o.mono ?_;rintro e w1 ⟨p,L,lc,rfl,pK,PN,Vh,b1⟩;have f1:=(b1.block _ (af re.o)).trans re.o;have fc1:w1.cell? ⟨w.heap.size,1,none⟩=some (.slice (some ⟨mb,mo,none⟩) f.methods.length b):=(ab (i:=1) f1).trans rfl;have hfl:=af f1;obtain ⟨y0,y1,y2,y3,y4,y5,y6,y7⟩:=HZH.o;have bw:=HB.o.trans b1;have x0:=bw.cell y0;have x1:=bw.cell y1;have x2:=bw.cell y2;have x3:=bw.cell y3;have x4:=bw.cell y4;have x5:=bw.cell y5;have x6:=bw.cell y6;have x7:=bw.cell y7;have Y1:=br x0;have e0:w1.cell? ⟨p,0,none⟩=some (.slice A f.classes.length a):=pK.cells.c0;have e1:w1.cell? ⟨p,1,none⟩=some (.slice (some ⟨mb,mo,none⟩) f.methods.length b):=pK.cells.c1;have e2:w1.cell? ⟨p,2,none⟩=some (.slice none 0 0):=pK.cells.c2;have e3:w1.cell? ⟨p,3,none⟩=some (.slice I input.length i):=pK.cells.c3;have e4:w1.cell? ⟨p,4,none⟩=some (ι 0):=pK.cells.c4;have e5:w1.cell? ⟨p,5,none⟩=some (ι fuel):=pK.cells.c5;have e6:w1.cell? ⟨p,6,none⟩=some (ι 0):=pK.cells.c6;have e7:w1.cell? ⟨p,7,none⟩=some (ι 0):=pK.cells.c7;have e8:w1.cell? ⟨p,8,none⟩=some (ι 0):=pK.cells.c8;have e9:w1.cell? ⟨p,9,none⟩=some (.slice none 0 0):=pK.cells.c9;have BN:w1.cell? ⟨p,10,none⟩=some (ι 0):=pK.cells.c10;have DL:w1.cell? ⟨p,11,none⟩=some (ι 0):=pK.cells.c11;have Hh:w1.cell? ⟨p,12,none⟩=some (.bool false):=pK.cells.c12;have e13:w1.cell? ⟨p,13,none⟩=some (ι (-1)):=pK.cells.c13;have ST1:=ae PN;have S1:Θ (mE w1 (w.heap.size+1) #[ι 0,ι 0,ι 0,.slice none 0 0,ι 0,ι 0]):=⟨(b1.block _ (af HS.o.blk)).trans HS.o.blk⟩;have Vj:Θ (Bl w w1):=bw;clear y0 y1 y2 y3 y4 y5 y6 y7 bw b1 f1 pK PN)|(go_at_call 34;refine (HR.o w1.heap.size L lc ((w.alloc (qj f A (some ⟨mb,mo,none⟩) a b)).alloc xT).heap.size (w1.alloc (.cells #[.slice A f.classes.length a,.slice (some ⟨mb,mo,none⟩) f.methods.length b,.slice none 0 0,.slice I input.length i,ι 0,ι fuel,ι 0,ι 0,ι 0,.slice none 0 0,ι 0,ι 0,.bool false,ι (-1)] 75)) ⟨.slice none 0 0,.slice none 0 0,[],Vj.o.size,cK rfl,Vj.o.alloc _,⟨rfl,Or.inl ⟨rfl,rfl⟩⟩,⟨rfl,⟨rfl,Or.inl ⟨rfl,rfl⟩⟩,fun i hi=>absurd hi (by simp [eP]),fun i j hi=>absurd hi (by simp [eP])⟩⟩ (ST1.o.keep fun b cs f e _=>fH (af e) e) Vh).mono ?_;rintro e w2 ⟨rfl,h2,f2⟩;have F2:=ae f2;have H2:=ae h2;have dQ:=h2.base;clear h2 f2 e0 e1 e2 e3 e4 e5 e6 e7 e8 e9 BN DL Hh e13 x0 x1 x2 x3 x4 x5 x6 x7)))|go_values|go_skip|go_guarded|go_step|go_upon|(simp only [Int.not_lt,Int.not_le] at *;go_simp)|(go_values<;>(try go_simp))|(go_ite<;>go_prune<;>(try go_simp)))
 obtain ⟨vo,vx,hv,HX⟩:=H2.o.old ((Bl.refl w2).alloc (bD RR.2))
 obtain ⟨xa,xn,xc,rfl⟩:∃xa xn xc,vx=.slice xa xn xc:=by
  rcases HX.o.2 with ⟨e,-⟩|⟨gb,cp,cur,e,-⟩
  ·exact ⟨_,_,_,e⟩
  ·exact ⟨_,_,_,e⟩
 have nj:=ae HX
 have U2:Θ (aC (w2.alloc (bD RR.2)) w2.heap.size RR.2):=aC.new w2 RR.2
 have z6:=ae (And.intro U2.o.c0 U2.o.c1)
 clear HX
 refine wp_region_held_drew (S:=fun w'=>w'.cell? ⟨w2.heap.size,0,none⟩=some (ι RR.2.kind)/\w'.cell? ⟨w2.heap.size,1,none⟩=some (ι RR.2.n)) (by kernel_rfl) ?_ (fun aa=>?_)
 ·exact z6.o
 iterate 4 (refine tn rfl (by kernel_rfl) (fun _ _ _ h=>h) (by intro _ h;go_split_ands;go_simp<;>with_reducible rfl) aa ?_;try simp only [aZ])
 refine aY (i:=4) (by kernel_rfl) rfl fun K hK=>?_
 go_simp
 go_at_call 27
 refine (GI w ⟨A,a,some ⟨mb,mo,none⟩,b,I,i,75⟩ sn (show (75:TypeId)≠28 from by decide) w1.heap.size RR.1 RR.2 _ vo (.slice xa xn xc) hv (nj.o.drewN 1) RB.o.gh.thr.2).mono ?_
 rintro e w3 ⟨rfl,h3,f3⟩
 have F3:Θ (Fr w.heap.size 75 (w1.alloc (.cells #[.slice A f.classes.length a,.slice (some ⟨mb,mo,none⟩) f.methods.length b,.slice none 0 0,.slice I input.length i,ι 0,ι fuel,ι 0,ι 0,ι 0,.slice none 0 0,ι 0,ι 0,.bool false,ι (-1)] 75)) w3):=(F2.o.trans ((Fr.old dQ ((Bl.refl w2).alloc (bD RR.2))).drewN 1)).trans f3
 have U3:=ae ((U2.o.drewN 1).keep sn f3)
 have S3:Θ (mE w3 (w.heap.size+1) #[ι 0,ι 0,ι 0,.slice none 0 0,ι 0,ι 0]):=⟨F3.o.keep _ _ _ _ (fH (af S1.o.blk) S1.o.blk) sr⟩
 have d6:=ae (And.intro U3.o.c0 U3.o.c1)
 have H3:Θ (cO w ⟨A,a,some ⟨mb,mo,none⟩,b,I,i,75⟩ w3 w1.heap.size (RR.1.doneH RR.2) vo (.slice xa xn xc) hv):=h3
 have s0:=ab (i:=0) S3.o.blk
 have s1:=ab (i:=1) S3.o.blk
 have s2:=ab (i:=2) S3.o.blk
 have s3:=ab (i:=3) S3.o.blk
 have s4:=ab (i:=4) S3.o.blk
 have s5:=ab (i:=5) S3.o.blk
 have sf:=aA S3.o.blk
 have pT:w2.heap.size≠w.heap.size+1:=by have h1:=F2.o.bl.size;rw [World.size_alloc] at h1;have:=af S1.o.blk;omega
 clear h3 f3
 go_wp2_with fail
 refine hK.out _ _ (d6.o) (fun ah=>?_)
 try simp only [aZ]
 refine aY (i:=5) (by kernel_rfl) rfl fun K hK=>?_
 go_simp
 have dd6:(fun w'=>w'.cell? ⟨w2.heap.size,0,none⟩=some (ι RR.2.kind)/\w'.cell? ⟨w2.heap.size,1,none⟩=some (ι RR.2.n)) ((((((w3.setCell ⟨w.heap.size+1,0,none⟩ (ι (RR.1.doneH RR.2).sh.fin)).setCell ⟨w.heap.size+1,1,none⟩ (ι (RR.1.doneH RR.2).sh.value)).setCell ⟨w.heap.size+1,2,none⟩ (ι (RR.1.doneH RR.2).sh.cls)).setCell ⟨w.heap.size+1,3,none⟩ (.slice xa xn xc)).setCell ⟨w.heap.size+1,4,none⟩ (ι (RR.1.doneH RR.2).sh.used)).setCell ⟨w.heap.size+1,5,none⟩ (ι (RR.1.doneH RR.2).sh.steps)):=⟨by rw [World.cell?_of_block (ak pT _),World.cell?_of_block (ak pT _),World.cell?_of_block (ak pT _),World.cell?_of_block (ak pT _),World.cell?_of_block (ak pT _),World.cell?_of_block (ak pT _)];exact d6.o.1,by rw [World.cell?_of_block (ak pT _),World.cell?_of_block (ak pT _),World.cell?_of_block (ak pT _),World.cell?_of_block (ak pT _),World.cell?_of_block (ak pT _),World.cell?_of_block (ak pT _)];exact d6.o.2⟩
 refine hK.out _ _ (dd6) (fun aH=>?_)
 try simp only [aZ]
 refine tn rfl (by kernel_rfl) (fun _ _ _ h=>h) (by intro _ h;go_split_ands;go_simp<;>with_reducible rfl) aH ?_
 try simp only [aZ]
 refine wpAnyH_done (by kernel_rfl) ?_ _
 repeat (first|go_values|go_skip|go_guarded|go_step|go_upon|(simp only [Int.not_lt,Int.not_le] at *;go_simp)|(go_values<;>(try go_simp))|(go_ite<;>go_prune<;>(try go_simp)))
 (try simp only [Exit.inBlock,Exit.then])
 refine bodyPost_ret (results_cell_tmp rfl _ _ (w.heap.size+1) _ _ _ _ (ι 0) rfl rfl (S3.o.six (RR.1.doneH RR.2).sh (.slice xa xn xc)).blk underlying28 rfl kG) rfl ?_
 have hle:w.heap.size<=w.heap.size+1:=by omega
 have QW:=S3.o.cf (B:=w.heap.size) sr hle (ι (RR.1.doneH RR.2).sh.fin) (ι (RR.1.doneH RR.2).sh.value) (ι (RR.1.doneH RR.2).sh.cls) (.slice xa xn xc) (ι (RR.1.doneH RR.2).sh.used) (ι (RR.1.doneH RR.2).sh.steps)
 refine Vi.o _ _ ⟨_,rfl,QW.row (.inr (.inr (.inr rfl))) H3.o.o,?_⟩
 exact Below.trans (Below.trans (Vj.o.alloc _) F3.o.bl) QW.bl
end Go.Proofs.YtgbebphpjnmafaaGreat
