import Derived.Test.YtgiiapenmjollaaGreatSrao
namespace Go.Proofs.YtgiiapenmjollaaGreat
set_option linter.all false
set_option maxHeartbeats 40000000
set_option maxRecDepth 100000
open Go.RowKit
open Go.Value (int)
open Go.IntKind (i64)
def Ux:Sh:=⟨0,0,0,[],0,0⟩
def jo (f:Fi) (entry:Int) (args input:List Int) (fuel:Int):Hp×Va:=fX (bF fuel.toNat) (fH f input fuel) (nth bO f.methods entry.toNat) (dz (nth bO f.methods entry.toNat).params args)
def qQ (f:Fi) (entry:Int) (args input:List Int) (fuel:Int):Sh:=((jo f entry args input fuel).1.doneH (jo f entry args input fuel).2).sh
theorem Aj:Tk 74:=by constructor<;>decide
theorem FG {l:List Cl} (h:eQ l=true):∀d,d<l.length->(nth cg l d).fields.length<=6:=by
 intro d hd
 unfold eQ at h
 rw [Bool.and_eq_true,List.all_eq_true] at h
 have:=h.2 d (by simpa using hd)
 unfold rH at this
 rw [Bool.and_eq_true] at this
 have:=of_decide_eq_true this.1
 omega
theorem Ss {w:World} {f:Fi} {A B I:Option Addr} {a b i:Nat} {input:List Int} {fuel:Int} (hA:ct w A f.classes) (hM:eE w B f.methods) (hI:cL w I input) (hmay:bW f=true):Env w ⟨A,a,B,b,I,i,74⟩ (fH f input fuel):=by
 unfold bW at hmay
 rw [Bool.and_eq_true,Bool.and_eq_true,List.all_eq_true] at hmay
 obtain ⟨ht,h4,pQ⟩:=pL hmay.1.1
 exact ⟨⟨Aj,hA,ht,h4,pQ,FG hmay.1.1⟩,fun m hm=>⟨hmay.2 m hm,yt hM m hm⟩,hM,hI⟩
theorem WT {f:Fi} {input:List Int} {fuel:Int} (hI:∀n∈input,cP n) (hf:0<=fuel/\fuel<=60000):Gh 0 (fH f input fuel) :=
 ⟨fun o ho=>by simp [fH] at ho,by simp [fH],by simp [fH],by simp [fH];exact hf.1,hf,by simp [fH],by simp [fH],hI,by simp [fH]⟩
theorem Ak (h:Hp):∀(l:List Ty) (k:List Int),(∀t∈l,t.kind≠3)->(∀n∈k,cP n)->∀v∈dz l k,iO h v
 | [],_,_,_,v,hv=>by simp [dz] at hv
 | _::_,[],_,_,v,hv=>by simp [dz] at hv
 | t::l,a::k,h1,h2,v,hv=>by
  simp only [dz,List.mem_cons] at hv
  rcases hv with rfl|hv
  ·refine ⟨fun e=>absurd e (h1 t (List.mem_cons_self ..)),?_⟩
   show cP (if t.kind=1 then wrap32 a else a)
   split
   ·exact pD _
   ·exact h2 a (List.mem_cons_self ..)
  ·exact Ak h l k (fun x hx=>h1 x (List.mem_cons_of_mem _ hx)) (fun x hx=>h2 x (List.mem_cons_of_mem _ hx)) v hv
theorem results_cell_tmp {P:Program} {fn:Func} {p s:Tmp} {ty:TypeId} (h:fn.results=#[.cell p ty,.tmp s]) (tmps:Array Value) (w:World) (g:Nat) (t:TypeId) (cs:Array Value) (fr:Nat×Nat) (d:TypeDesc) (v:Value) (hp:tmps.getD p undef=.pointer (some ⟨g,0,none⟩)) (hs:tmps.getD s undef=v) (hg:w.heap[g]?=some (.cells cs t fr)) (hu:P.underlying ty=some d) (hd:(match d with | .struct _ | .array _ _=>true|_=>false)=true) (hi:(P.info? ty).map (·.size)=some cs.size) :
  (results fn tmps).run P w=.ok (.tuple #[.agg cs,v]) w:=by
 have BF:tmps[p]?.getD undef=.pointer (some ⟨g,0,none⟩):=by simpa using hp
 have Ol:tmps[s]?.getD undef=v:=by simpa using hs
 simp [results,h,BF,Ol,asAddr,run_loadVar_row w g t ty cs fr d hg hu hd hi]
section
variable (f:Fi) (A B I R:Option Addr) (a b i r:Nat) (entry fuel:Int) (args input:List Int)
theorem Cx (W0 w:World) (hW:Bl W0 w) (hM:eE w B f.methods) (hi:input.length<=maxLen) (hR:cL w R args) (hmay:bW f=true) (hE:gS f entry args input fuel≠0) :
  Calls Tryz.prog 25 #[fU f.classes.length f.methods.length A B a b,int i64 entry,.slice R args.length r,.slice I input.length i,int i64 fuel] w fun e w'=>e=.returned (.tuple #[.pointer none,.slice none 0 0,int i64 (gS f entry args input fuel)])/\Bl w w':=by
 unfold gS at hE ⊢
 split at hE
 ·rename_i h1
  rw [if_pos h1]
  exact wX f A B I R a b i r entry fuel args input w hM.1 h1
 ·rename_i h1
  rw [if_neg h1]
  have vD:(0<=entry/\entry<=(f.methods.length:Int)-1)/\(0<=fuel/\fuel<=60000):=by
   refine ⟨?_,?_⟩
   ·exact Classical.byContradiction fun hc=>h1 (Or.inl hc)
   ·exact Classical.byContradiction fun hc=>h1 (Or.inr hc)
  split at hE
  ·rename_i h2
   rw [if_pos h2]
   exact yT f A B I R a b i r entry fuel args input w hM.1 hi vD.1 vD.2 h2
  ·rename_i h2
   rw [if_neg h2]
   split at hE
   ·rename_i h3
    rw [if_pos h3]
    exact Ct f A B I R a b i r entry fuel args input w hM hi hR.1 vD.1 vD.2 h2 h3
   ·rename_i h3
    rw [if_neg h3]
    split at hE
    ·rename_i h4
     rw [if_pos h4]
     have hp:(nth bO f.methods entry.toNat).params.length<=4:=by
      unfold bW at hmay
      rw [Bool.and_eq_true,List.all_eq_true] at hmay
      exact (jh (hmay.2 _ (bJ (by omega)))).2.2.2.2.1
     refine (wY W0 f A B I R a b i r entry fuel args input w hW hM hi hR vD.1 vD.2 h2 (by omega) hp).mono fun e w' hh=>?_
     unfold kp at hh
     rw [if_pos h4] at hh
     exact hh
    ·exact absurd rfl hE
theorem yU (W0 w:World) (hW:Bl W0 w) (hM:eE w B f.methods) (hi:input.length<=maxLen) (hR:cL w R args) (hmay:bW f=true) (hE:gS f entry args input fuel=0) :
  (Calls Tryz.prog 25 #[fU f.classes.length f.methods.length A B a b,int i64 entry,.slice R args.length r,.slice I input.length i,int i64 fuel] w fun e w'=>qP W0 f A B I a b i fuel input (dz (nth bO f.methods entry.toNat).params args) w e w')
  /\ (0<=entry/\entry<=(f.methods.length:Int)-1)/\(0<=fuel/\fuel<=60000)/\args.length=(nth bO f.methods entry.toNat).params.length/\gR (nth bO f.methods entry.toNat).params=false:=by
 unfold gS at hE
 split at hE
 ·exact absurd hE (by decide)
 rename_i h1
 have vD:(0<=entry/\entry<=(f.methods.length:Int)-1)/\(0<=fuel/\fuel<=60000):=by
  refine ⟨?_,?_⟩
  ·exact Classical.byContradiction fun hc=>h1 (Or.inl hc)
  ·exact Classical.byContradiction fun hc=>h1 (Or.inr hc)
 split at hE
 ·exact absurd hE (by decide)
 rename_i h2
 split at hE
 ·exact absurd hE (by decide)
 rename_i h3
 split at hE
 ·exact absurd hE (by decide)
 rename_i h4
 have hp:(nth bO f.methods entry.toNat).params.length<=4:=by
  unfold bW at hmay
  rw [Bool.and_eq_true,List.all_eq_true] at hmay
  exact (jh (hmay.2 _ (bJ (by omega)))).2.2.2.2.1
 refine ⟨(wY W0 f A B I R a b i r entry fuel args input w hW hM hi hR vD.1 vD.2 h2 (by omega) hp).mono fun e w' hh=>?_,vD.1,vD.2,by omega,by simpa using h4⟩
 unfold kp at hh
 rw [if_neg h4] at hh
 exact hh
theorem FH (w:World) (hM:eE w B f.methods) (hi:input.length<=maxLen) (hR:cL w R args) (hmay:bW f=true) (hE:gS f entry args input fuel≠0) :
  Calls Tryz.prog 10 #[fU f.classes.length f.methods.length A B a b,int i64 entry,.slice R args.length r,.slice I input.length i,int i64 fuel] w fun e w'=>e=.returned (.tuple #[Qt Ux (.slice none 0 0),int i64 (gS f entry args input fuel)])/\Bl w w':=by
 have bl0:Bl w ((w.alloc (pw f A B a b)).alloc vH):=((Bl.refl w).alloc _).alloc _
 have HB:Hid (Bl w ((w.alloc (pw f A B a b)).alloc vH)):=bl0
 have HC:Hid (Calls Tryz.prog 25 #[fU f.classes.length f.methods.length A B a b,int i64 entry,.slice R args.length r,.slice I input.length i,int i64 fuel] ((w.alloc (pw f A B a b)).alloc vH) fun e w'=>e=.returned (.tuple #[.pointer none,.slice none 0 0,int i64 (gS f entry args input fuel)])/\Bl ((w.alloc (pw f A B a b)).alloc vH) w') :=
  Cx f A B I R a b i r entry fuel args input w _ bl0 (hM.bl bl0) hi (hR.bl bl0) hmay hE
 have HS:Hid (mE ((w.alloc (pw f A B a b)).alloc vH) (w.heap.size+1) #[int i64 0,int i64 0,int i64 0,.slice none 0 0,int i64 0,int i64 0]):=⟨cd (by simp)⟩
 have hz:(gS f entry args input fuel !=0)=true:=by simpa using hE
 clear hM hi hR hmay hE bl0
 generalize gS f entry args input fuel=E at *
 go_enter Tryz.func10,Tryz.ntmps10
 go_wp2_with (go_at_call 25;refine HC.out.mono ?_;rintro e w1 ⟨rfl,b1⟩;have B1:Hid (Bl ((w.alloc (pw f A B a b)).alloc vH) w1):=b1;have S1:Hid (mE w1 (w.heap.size+1) #[int i64 0,int i64 0,int i64 0,.slice none 0 0,int i64 0,int i64 0]):=⟨(b1.block _ (af HS.out.blk)).trans HS.out.blk⟩;have s0:=aa (i:=0) S1.out.blk;have s1:=aa (i:=1) S1.out.blk;have s2:=aa (i:=2) S1.out.blk;have s3:=aa (i:=3) S1.out.blk;have s4:=aa (i:=4) S1.out.blk;have s5:=aa (i:=5) S1.out.blk;have sf:=ay S1.out.blk;clear b1)
 refine bodyPost_ret (results_cell_tmp rfl _ _ (w.heap.size+1) _ _ _ _ (int i64 E) rfl rfl (S1.out.six Ux (.slice none 0 0)).blk Tryz.underlying28 rfl kL) rfl ?_
 have hb:=HB.out.trans B1.out
 have hle:w.heap.size<=w.heap.size+1:=by omega
 exact ⟨rfl,(((((hb.setCell hle _).setCell hle _).setCell hle _).setCell hle _).setCell hle _).setCell hle _⟩
end
theorem sL:¬jP 74 28:=by rintro (e|e|e|e)<;>exact absurd e (by decide)
def Al (f:Fi) (entry:Int) (args input:List Int) (fuel:Int) (w:World) (e:Ending) (w':World):Prop :=
 ∃vx,e=.returned (.tuple #[Qt (qQ f entry args input fuel) vx,int i64 0])/\w'.ownsRow w.heap.size 2 1 vx (qQ f entry args input fuel).out.length ((qQ f entry args input fuel).out.map (Value.int .i64))/\Bl w w'
theorem JC (f:Fi) (A B I R:Option Addr) (a b i r:Nat) (entry fuel:Int) (args input:List Int) (w:World) (hA:ct w A f.classes) (hM:eE w B f.methods) (hI:cL w I input) (hR:cL w R args) (hmay:bW f=true) (hE:gS f entry args input fuel=0) :
  Calls Tryz.prog 10 #[fU f.classes.length f.methods.length A B a b,int i64 entry,.slice R args.length r,.slice I input.length i,int i64 fuel] w fun e w'=>Al f entry args input fuel w e w':=by
 have bl0:Bl w ((w.alloc (pw f A B a b)).alloc vH):=((Bl.refl w).alloc _).alloc _
 have HB:Hid (Bl w ((w.alloc (pw f A B a b)).alloc vH)):=bl0
 obtain ⟨hc,h1,h2,h3,h4⟩:=yU f A B I R a b i r entry fuel args input w _ bl0 (hM.bl bl0) hI.1 (hR.bl bl0) hmay hE
 have HC:Hid (Calls Tryz.prog 25 #[fU f.classes.length f.methods.length A B a b,int i64 entry,.slice R args.length r,.slice I input.length i,int i64 fuel] ((w.alloc (pw f A B a b)).alloc vH) fun e w'=>qP w f A B I a b i fuel input (dz (nth bO f.methods entry.toNat).params args) ((w.alloc (pw f A B a b)).alloc vH) e w'):=hc
 have HS:Hid (mE ((w.alloc (pw f A B a b)).alloc vH) (w.heap.size+1) #[int i64 0,int i64 0,int i64 0,.slice none 0 0,int i64 0,int i64 0]):=⟨cd (by simp)⟩
 have OJ:Hid (((w.alloc (pw f A B a b)).alloc vH).heap[w.heap.size]?=some (pw f A B a b)):=iG (by simp) (cd rfl)
 obtain ⟨n,rfl⟩:∃n:Nat,entry=n:=⟨entry.toNat,by omega⟩
 have kx:n<f.methods.length:=by omega
 obtain ⟨mb,mo,P,CC,K,pp,cc,kk,hB,HZ,hme⟩:=ja hM kx
 subst hB
 have WU:Hid (_):=HZ
 have wU:fw f.classes f.methods.length (nth bO f.methods n)=true/\∀i∈(nth bO f.methods n).code,i.ok:=by
  unfold bW at hmay
  rw [Bool.and_eq_true,List.all_eq_true] at hmay
  exact ⟨hmay.2 _ (bJ kx),yt hM _ (bJ kx)⟩
 have hgd:∀v∈dz (nth bO f.methods n).params args,iO (fH f input fuel) v:=Ak _ _ _ (fun t ht e=>by
  rw [Int.toNat_natCast] at h4
  unfold gR at h4
  rw [List.any_eq_false] at h4
  exact absurd (decide_eq_true e) (h4 t ht)) (pG hR)
 have EV:=Ss (a:=a) (b:=b) (i:=i) (fuel:=fuel) hA hM hI hmay
 have GH:=WT (f:=f) (pG hI) h2
 have yQ:(dz (nth bO f.methods n).params args).length=(nth bO f.methods n).params.length:=iU _ _ (by rw [Int.toNat_natCast] at h3;omega)
 have HR:Hid (∀(p:Nat) (L:Option Addr) (lc lb:Nat) (w1:World),Hs w ⟨A,a,some ⟨mb,mo,none⟩,b,I,i,74⟩ w1 p (fH f input fuel)->bG lb w1 L (dz (nth bO f.methods n).params args)->(dz (nth bO f.methods n).params args).length<=lc->Calls Tryz.prog 26 #[.pointer (some ⟨p,0,none⟩),iW (nth bO f.methods n) P CC K pp cc kk,.slice L (dz (nth bO f.methods n).params args).length lc] w1 fun e w' =>
   e=.returned (iE (jo f (n:Int) args input fuel).2)/\Hs w ⟨A,a,some ⟨mb,mo,none⟩,b,I,i,74⟩ w' p (jo f (n:Int) args input fuel).1/\Fr w.heap.size 74 w1 w'):=fun p L lc lb w1 xU de Oe =>
  JB w ⟨A,a,some ⟨mb,mo,none⟩,b,I,i,74⟩ p fuel.toNat (fH f input fuel) (nth bO f.methods n) P CC K pp cc kk L lc lb _ w1 xU EV rfl rfl GH hme wU.1 wU.2 yQ hgd de Oe (by show (fuel-0).toNat<=fuel.toNat;simp)
 have Pe:Hid (iP (fH f input fuel) (jo f (n:Int) args input fuel) 0):=v7 (se f EV.may fuel.toNat) rfl GH rfl rfl wU.1 wU.2 yQ hgd
 have jX:=hM.1
 unfold maxLen at jX
 have kv:(0:Int)<=(n:Int):=by omega
 have kg:(n:Int)<(f.methods.length:Int):=by omega
 rw [Int.toNat_natCast] at *
 have MI:Hid (qQ f (n:Int) args input fuel=((jo f (n:Int) args input fuel).1.doneH (jo f (n:Int) args input fuel).2).sh):=rfl
 have St:Hid (∀e w',(∃vx,e=Ending.returned (.tuple #[Qt ((jo f (n:Int) args input fuel).1.doneH (jo f (n:Int) args input fuel).2).sh vx,int i64 0])/\w'.ownsRow w.heap.size 2 1 vx ((jo f (n:Int) args input fuel).1.doneH (jo f (n:Int) args input fuel).2).sh.out.length (((jo f (n:Int) args input fuel).1.doneH (jo f (n:Int) args input fuel).2).sh.out.map (Value.int .i64))/\Bl w w')->Al f (n:Int) args input fuel w e w'):=fun e w' hh=>hh
 clear hA hM hI hR hmay hE hc h1 h2 h3 h4 wU hgd EV GH yQ hme bl0 HZ MI
 generalize (dz (nth bO f.methods n).params args)=l at *
 generalize nth bO f.methods n=M at *
 generalize vI:(jo f (n:Int) args input fuel)=RR at *
 clear vI
 go_enter Tryz.func10,Tryz.ntmps10
 go_wp2_with (first
  | (go_at_call 25;refine HC.out.mono ?_;rintro e w1 ⟨p,L,lc,rfl,vl,de,Oe,b1⟩;have B1:Hid (Bl ((w.alloc (pw f A (some ⟨mb,mo,none⟩) a b)).alloc vH) w1):=b1;have f1:=(b1.block _ (af OJ.out)).trans OJ.out;have Yz:=aa (i:=1) f1;obtain ⟨y0,y1,y2,y3,y4,y5,y6,y7⟩:=WU.out;have bw:=HB.out.trans b1;have x0:=bw.cell y0;have x1:=bw.cell y1;have x2:=bw.cell y2;have x3:=bw.cell y3;have x4:=bw.cell y4;have x5:=bw.cell y5;have x6:=bw.cell y6;have x7:=bw.cell y7;have NT:Hid (Hs w ⟨A,a,some ⟨mb,mo,none⟩,b,I,i,74⟩ w1 p (fH f input fuel)):=⟨_,_,_,vl⟩;have jW:Hid (bG ((w.alloc (pw f A (some ⟨mb,mo,none⟩) a b)).alloc vH).heap.size w1 L l):=de;have S1:Hid (mE w1 (w.heap.size+1) #[int i64 0,int i64 0,int i64 0,.slice none 0 0,int i64 0,int i64 0]):=⟨(b1.block _ (af HS.out.blk)).trans HS.out.blk⟩;have WV:Hid (Bl w w1):=bw;clear y0 y1 y2 y3 y4 y5 y6 y7 bw b1 f1 vl de)
  | (go_at_call 26;refine (HR.out p L lc _ w1 NT.out jW.out Oe).mono ?_;rintro e w2 ⟨rfl,h2,f2⟩;have F2:Hid (Fr w.heap.size 74 w1 w2):=f2;have dB:=h2.base;obtain ⟨vo,vx,hv,HX⟩:=h2.old ((Bl.refl w2).alloc (cT RR.2));obtain ⟨xa,xn,xc,rfl⟩:∃xa xn xc,vx=.slice xa xn xc:=(by rcases HX.out.2 with ⟨e,-⟩|⟨gb,cp,cur,e,-⟩;exact ⟨_,_,_,e⟩;exact ⟨_,_,_,e⟩);have rG:Hid (cD w ⟨A,a,some ⟨mb,mo,none⟩,b,I,i,74⟩ (w2.alloc (cT RR.2)) p RR.1 vo (.slice xa xn xc) hv):=HX;clear HX h2 f2)
  | (go_at_call 27;refine (FE w ⟨A,a,some ⟨mb,mo,none⟩,b,I,i,74⟩ Aj (show (74:TypeId)≠28 from by decide) p RR.1 RR.2 _ vo (.slice xa xn xc) hv rG.out Pe.out.gh.thr.2).mono ?_;rintro e w3 ⟨rfl,h3,f3⟩;have F3:Hid (Fr w.heap.size 74 w1 w3):=(F2.out.trans (Fr.old dB ((Bl.refl w2).alloc _))).trans f3;have S3:Hid (mE w3 (w.heap.size+1) #[int i64 0,int i64 0,int i64 0,.slice none 0 0,int i64 0,int i64 0]):=⟨F3.out.keep _ _ _ _ S1.out.blk sL⟩;have s0:=aa (i:=0) S3.out.blk;have s1:=aa (i:=1) S3.out.blk;have s2:=aa (i:=2) S3.out.blk;have s3:=aa (i:=3) S3.out.blk;have s4:=aa (i:=4) S3.out.blk;have s5:=aa (i:=5) S3.out.blk;have sf:=ay S3.out.blk;have H3:Hid (cD w ⟨A,a,some ⟨mb,mo,none⟩,b,I,i,74⟩ w3 p (RR.1.doneH RR.2) vo (.slice xa xn xc) hv):=h3;clear h3 f3))
 refine bodyPost_ret (results_cell_tmp rfl _ _ (w.heap.size+1) _ _ _ _ (int i64 0) rfl rfl (S3.out.six (RR.1.doneH RR.2).sh (.slice xa xn xc)).blk Tryz.underlying28 rfl kL) rfl ?_
 have hle:w.heap.size<=w.heap.size+1:=by omega
 have Pf:=S3.out.cf (B:=w.heap.size) sL hle (int i64 (RR.1.doneH RR.2).sh.fin) (int i64 (RR.1.doneH RR.2).sh.value) (int i64 (RR.1.doneH RR.2).sh.cls) (.slice xa xn xc) (int i64 (RR.1.doneH RR.2).sh.used) (int i64 (RR.1.doneH RR.2).sh.steps)
 refine St.out _ _ ⟨_,rfl,Pf.row (.inr (.inr (.inr rfl))) H3.out.out,?_⟩
 exact Below.trans (Below.trans WV.out F3.out.bl) Pf.bl
end Go.Proofs.YtgiiapenmjollaaGreat
