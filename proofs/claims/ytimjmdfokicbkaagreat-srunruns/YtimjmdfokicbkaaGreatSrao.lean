import Derived.Test.YtimjmdfokicbkaaGreatSrac
import Derived.Test.YtimjmdfokicbkaaGreatSran
namespace Go.Proofs.YtimjmdfokicbkaaGreat
set_option linter.unusedVariables false
set_option linter.unusedSimpArgs false
set_option maxHeartbeats 40000000
set_option maxRecDepth 100000
open Go.RowKit
open Go.Value (int)
open Go.IntKind (i64)
variable {b:Nat} {T:TypeId} {w:World}
theorem JH (w0:World) (g:Ad) (p:Nat):∀N,sF w0 g p N:=by
 intro N
 induction N using Nat.strongRecOn with
 | ind N IH =>
  intro h m P CC K pp cc kk A ac lb l w hH E ho iV gh hme wT hok hl hg hA QL hN
  unfold fY
  cases hb:h.enterB m l
  ·rw [if_neg (by decide)]
   exact MJ w0 g p h m P CC K pp cc kk A ac lb l w hH E ho gh hme hl hg hA hb
  ·rw [if_pos rfl]
   exact JC w0 g p h m P CC K pp cc kk A ac lb l w hH E ho gh hme wT hok hl hg hA QL hb iV N hN IH
def rQ (t:Ty) (a:Int):Va:=⟨t.kind,if t.kind=1 then wrap32 a else a⟩
def dy:List Ty->List Int->List Va
 | t::l,a::k=>rQ t a::dy l k
 | _,_=>[]
theorem iQ:∀(l:List Ty) (k:List Int),l.length=k.length->(dy l k).length=l.length
 | [],[],_=>rfl
 | [],_::_,h=>by simp at h
 | _::_,[],h=>by simp at h
 | t::l,a::k,h=>by simp [dy,iQ l k (by simpa using h)]
theorem sH:∀(l:List Ty) (k:List Int) (i:Nat),i<l.length->l.length=k.length->nth ag (dy l k) i=rQ (nth cL l i) (nth (0:Int) k i)
 | [],_,i,h,_=>by simp at h
 | _::_,[],_,_,h=>by simp at h
 | t::l,a::k,0,_,_=>rfl
 | t::l,a::k,i+1,h,hl=>by
  show nth ag (dy l k) i=_
  rw [sH l k i (by simpa using h) (by simpa using hl)]
  rfl
def gR (l:List Ty):Bool:=l.any fun t=>decide (t.kind=3)
def gS (f:Fi) (entry:Int) (args input:List Int) (fuel:Int):Int :=
 if ¬(0≤entry/\entry≤(f.methods.length:Int)-1)∨¬(0≤fuel/\fuel≤60000) then 4
 else if 1000<input.length then 1
 else if args.length≠(nth bM f.methods entry.toNat).params.length then 3
 else if gR (nth bM f.methods entry.toNat).params=true then 3 else 0
abbrev pw (f:Fi) (A B:Option Addr) (a b:Nat):Obj:=.cells #[.slice A f.classes.length a,.slice B f.methods.length b] 25
section
variable (f:Fi) (A B I R:Option Addr) (a b i r:Nat) (entry fuel:Int) (args input:List Int) (w:World)
theorem wW (hm:f.methods.length≤maxLen) (he:¬(0≤entry/\entry≤(f.methods.length:Int)-1)∨¬(0≤fuel/\fuel≤60000)) :
  Calls Tryz.prog 25 #[fV f.classes.length f.methods.length A B a b,int i64 entry,.slice R args.length r,.slice I input.length i,int i64 fuel] w fun e w'=>e=.returned (.tuple #[.pointer none,.slice none 0 0,int i64 4])/\Bl w w':=by
 unfold maxLen at hm
 by_cases h1:0≤entry/\entry≤(f.methods.length:Int)-1
 ·have d1:decide (0≤entry/\entry≤(f.methods.length:Int)-1)=true:=decide_eq_true h1
  have d2:decide (0≤fuel/\fuel≤60000)=false:=decide_eq_false (by omega)
  have H1:Hid (decide (0≤entry/\entry≤(f.methods.length:Int)-1)=true):=d1
  have H2:Hid (decide (0≤fuel/\fuel≤60000)=false):=d2
  clear d1 d2 h1 he
  go_enter Tryz.func25,Tryz.ntmps25
  go_wp2_with (first
   | (go_at_call_of 20 (Value.int IntKind.i64 60000);refine (aE _ _ _ _).mono ?_;rintro e w1 ⟨he,hw1⟩;rw [H2.out] at he;subst he;rw [hw1];clear hw1 w1)
   | (go_at_call 20;refine (aE _ _ _ _).mono ?_;rintro e w1 ⟨he,hw1⟩;rw [H1.out] at he;subst he;rw [hw1];clear hw1 w1))
  exact bodyPost_ret (v:=.tuple #[.pointer none,.slice none 0 0,int i64 4]) (by simp [results,Tryz.results25,go_sem]) rfl ⟨rfl,(Bl.refl w).alloc _⟩
 ·have H1:Hid (decide (0≤entry/\entry≤(f.methods.length:Int)-1)=false):=decide_eq_false h1
  clear h1 he
  go_enter Tryz.func25,Tryz.ntmps25
  go_wp2_with (go_at_call 20;refine (aE _ _ _ _).mono ?_;rintro e w1 ⟨he,hw1⟩;rw [H1.out] at he;subst he;rw [hw1];clear hw1 w1)
  exact bodyPost_ret (v:=.tuple #[.pointer none,.slice none 0 0,int i64 4]) (by simp [results,Tryz.results25,go_sem]) rfl ⟨rfl,(Bl.refl w).alloc _⟩
theorem yR (hm:f.methods.length≤maxLen) (hi:input.length≤maxLen) (h1:0≤entry/\entry≤(f.methods.length:Int)-1) (h2:0≤fuel/\fuel≤60000) (h3:1000<input.length) :
  Calls Tryz.prog 25 #[fV f.classes.length f.methods.length A B a b,int i64 entry,.slice R args.length r,.slice I input.length i,int i64 fuel] w fun e w'=>e=.returned (.tuple #[.pointer none,.slice none 0 0,int i64 1])/\Bl w w':=by
 unfold maxLen at hm hi
 have H1:Hid (decide (0≤entry/\entry≤(f.methods.length:Int)-1)=true):=decide_eq_true h1
 have H2:Hid (decide (0≤fuel/\fuel≤60000)=true):=decide_eq_true h2
 have d3:decide (1000<input.length)=true:=decide_eq_true h3
 clear h1 h2 
 go_enter Tryz.func25,Tryz.ntmps25
 go_wp2_with (first
  | (go_at_call_of 20 (Value.int IntKind.i64 60000);refine (aE _ _ _ _).mono ?_;rintro e w1 ⟨he,hw1⟩;rw [H2.out] at he;subst he;rw [hw1];clear hw1 w1)
  | (go_at_call 20;refine (aE _ _ _ _).mono ?_;rintro e w1 ⟨he,hw1⟩;rw [H1.out] at he;subst he;rw [hw1];clear hw1 w1))
 exact bodyPost_ret (v:=.tuple #[.pointer none,.slice none 0 0,int i64 1]) (by simp [results,Tryz.results25,go_sem]) rfl ⟨rfl,(Bl.refl w).alloc _⟩
theorem Cv (hM:eD w B f.methods) (hi:input.length≤maxLen) (hr:args.length≤maxLen) (h1:0≤entry/\entry≤(f.methods.length:Int)-1) (h2:0≤fuel/\fuel≤60000) (h3:¬1000<input.length) (h4:args.length≠(nth bM f.methods entry.toNat).params.length) :
  Calls Tryz.prog 25 #[fV f.classes.length f.methods.length A B a b,int i64 entry,.slice R args.length r,.slice I input.length i,int i64 fuel] w fun e w'=>e=.returned (.tuple #[.pointer none,.slice none 0 0,int i64 3])/\Bl w w':=by
 unfold maxLen at hi
 obtain ⟨n,rfl⟩:∃n:Nat,entry=n:=⟨entry.toNat,by omega⟩
 have kq:n<f.methods.length:=by omega
 have jy:=hM.1
 unfold maxLen at jy
 rw [Int.toNat_natCast] at *
 obtain ⟨mb,mo,P,CC,K,pp,cc,kk,hB,⟨z0,z1,z2,z3,z4,z5,z6,z7⟩,hme⟩:=iZ hM kq
 subst hB
 have ko:mb<w.heap.size:=bt z0
 have bl0:Bl w (w.alloc (pw f A (some ⟨mb,mo,none⟩) a b)):=(Bl.refl w).alloc _
 have y0:=bl0.cell z0
 have y1:=bl0.cell z1
 have y2:=bl0.cell z2
 have y3:=bl0.cell z3
 have y4:=bl0.cell z4
 have y5:=bl0.cell z5
 have y6:=bl0.cell z6
 have y7:=bl0.cell z7
 clear z0 z1 z2 z3 z4 z5 z6 z7 bl0
 have SS:mb<w.heap.size+1:=by omega
 have H1:Hid (decide (0≤(n:Int)/\(n:Int)≤(f.methods.length:Int)-1)=true):=decide_eq_true h1
 have H2:Hid (decide (0≤fuel/\fuel≤60000)=true):=decide_eq_true h2
 have d3:decide ((1000:Int)<(input.length:Int))=false:=decide_eq_false (by omega)
 have kp:(0:Int)≤(n:Int):=by omega
 have kb:(n:Int)<(f.methods.length:Int):=by omega
 have Ii:=hme.1.1
 unfold maxLen at Ii
 unfold maxLen at hr
 generalize nth bM f.methods n=M at *
 have d4:((args.length:Int) !=(M.params.length:Int))=true:=by simp;omega
 clear h1 h2 h3 h4 hme hM
 go_enter Tryz.func25,Tryz.ntmps25
 go_wp2_with (first
  | (go_at_call_of 20 (Value.int IntKind.i64 60000);refine (aE _ _ _ _).mono ?_;rintro e w1 ⟨he,hw1⟩;rw [H2.out] at he;subst he;rw [hw1];clear hw1 w1)
  | (go_at_call 20;refine (aE _ _ _ _).mono ?_;rintro e w1 ⟨he,hw1⟩;rw [H1.out] at he;subst he;rw [hw1];clear hw1 w1))
 exact bodyPost_ret (v:=.tuple #[.pointer none,.slice none 0 0,int i64 3]) (by simp [results,Tryz.results25,go_sem]) rfl ⟨rfl,((Bl.refl w).alloc _).alloc _⟩
end
section
variable (l:List Ty) (k:List Int) (q:Nat)
theorem Cx (hq:q<l.length) (hl:l.length=k.length):dy (l.take (q+1)) (k.take (q+1))=dy (l.take q) (k.take q)++[rQ (nth cL l q) (nth (0:Int) k q)]:=by
 induction l generalizing k q with
 | nil=>simp at hq
 | cons t l ih =>
  cases k with
  | nil=>simp at hl
  | cons a k =>
   cases q with
   | zero=>simp [dy,nth]
   | succ q =>
    have:=ih k q (by simpa using hq) (by simpa using hl)
    have e1:nth cL (t::l) (q+1)=nth cL l q:=by simp [nth]
    have e2:nth (0:Int) (a::k) (q+1)=nth (0:Int) k q:=by simp [nth]
    rw [e1,e2]
    simp only [List.take_succ_cons,dy,this,List.cons_append]
theorem tL (hq:q≤l.length) (hl:l.length=k.length):(dy (l.take q) (k.take q)).length=q:=by
 rw [iQ _ _ (by simp;omega)];simp;omega
end
def fH (f:Fi) (input:List Int) (fuel:Int):Hp:=⟨f,[],input,0,fuel,⟨0,0,0,[],0,0⟩,false,-1⟩
def qM (W0:World) (f:Fi) (A B I:Option Addr) (a b i:Nat) (fuel:Int) (input:List Int) (l:List Va) (w:World) (e:Ending) (w':World):Prop :=
 ∃p L lc,e=.returned (.tuple #[.pointer (some ⟨p,0,none⟩),.slice L l.length lc,int i64 0])/\cC W0 ⟨A,a,B,b,I,i,73⟩ w' p (fH f input fuel) (.slice none 0 0) (.slice none 0 0) []/\bG w.heap.size w' L l/\l.length≤lc/\Bl w w'
def km (W0:World) (f:Fi) (A B I:Option Addr) (a b i:Nat) (fuel:Int) (input:List Int) (ps:List Ty) (args:List Int) (w:World) (e:Ending) (w':World):Prop :=
 if gR ps=true then e=.returned (.tuple #[.pointer none,.slice none 0 0,int i64 3])/\Bl w w' else qM W0 f A B I a b i fuel input (dy ps args) w e w'
theorem FI {base:Nat} {e:TypeId} {size n:Nat} {v:Value} {xs:List Value} (h:w.ownsRow base e size v n xs) {k:Nat} (hk:v.ownBlock=some k):base≤k:=(h.lt k hk).1
theorem wX (W0:World) (f:Fi) (A B I R:Option Addr) (a b i r:Nat) (entry fuel:Int) (args input:List Int) (w:World) (hW:Bl W0 w) (hM:eD w B f.methods) (hi:input.length≤maxLen) (hR:cM w R args) (h1:0≤entry/\entry≤(f.methods.length:Int)-1) (h2:0≤fuel/\fuel≤60000) (h3:¬1000<input.length) (h4:args.length=(nth bM f.methods entry.toNat).params.length) (h5:(nth bM f.methods entry.toNat).params.length≤4) :
  Calls Tryz.prog 25 #[fV f.classes.length f.methods.length A B a b,int i64 entry,.slice R args.length r,.slice I input.length i,int i64 fuel] w fun e w' =>
   km W0 f A B I a b i fuel input (nth bM f.methods entry.toNat).params args w e w':=by
 unfold maxLen at hi
 obtain ⟨n,rfl⟩:∃n:Nat,entry=n:=⟨entry.toNat,by omega⟩
 have kq:n<f.methods.length:=by omega
 have jy:=hM.1
 unfold maxLen at jy
 rw [Int.toNat_natCast] at *
 obtain ⟨mb,mo,P,CC,K,pp,cc,kk,hB,⟨z0,z1,z2,z3,z4,z5,z6,z7⟩,hme⟩:=iZ hM kq
 subst hB
 have ko:mb<w.heap.size:=bt z0
 have bl0:Bl w (w.alloc (pw f A (some ⟨mb,mo,none⟩) a b)):=(Bl.refl w).alloc _
 have y0:=bl0.cell z0
 have y1:=bl0.cell z1
 have y2:=bl0.cell z2
 have y3:=bl0.cell z3
 have y4:=bl0.cell z4
 have y5:=bl0.cell z5
 have y6:=bl0.cell z6
 have y7:=bl0.cell z7
 clear z0 z1 z2 z3 z4 z5 z6 z7 bl0
 have SS:mb<w.heap.size+1:=by omega
 have H1:Hid (decide (0≤(n:Int)/\(n:Int)≤(f.methods.length:Int)-1)=true):=decide_eq_true h1
 have H2:Hid (decide (0≤fuel/\fuel≤60000)=true):=decide_eq_true h2
 have d3:decide ((1000:Int)<(input.length:Int))=false:=decide_eq_false (by omega)
 have kp:(0:Int)≤(n:Int):=by omega
 have kb:(n:Int)<(f.methods.length:Int):=by omega
 have Ii:=hme.1.1
 unfold maxLen at Ii
 obtain ⟨i0,ta,sd,tf,th⟩:=info_parts nO
 generalize nth bM f.methods n=M at *
 have d4:((args.length:Int) !=(M.params.length:Int))=false:=by simp;omega
 have Sk:Hid (∀wr,Bl w wr->dm wr P M.params):=fun wr hb=>hme.1.bl hb
 have Xq:Hid (∀wr,Bl w wr->cM wr R args):=fun wr hb=>hR.bl hb
 have H4:Hid (args.length=M.params.length):=h4
 clear h1 h2 h3 hme hM hR h4
 have C0:Hid (((w.alloc (pw f A (some ⟨mb,mo,none⟩) a b)).alloc (dH M P CC K pp cc kk)).cell? ⟨w.heap.size+1,0,none⟩=some (.slice P M.params.length pp)):=aa (b8 (by simp))
 have C1:Hid (((w.alloc (pw f A (some ⟨mb,mo,none⟩) a b)).alloc (dH M P CC K pp cc kk)).cell? ⟨w.heap.size,0,none⟩=some (.slice A f.classes.length a)):=(aa (iB (by simp) (b8 rfl))).trans rfl
 have C2:Hid (((w.alloc (pw f A (some ⟨mb,mo,none⟩) a b)).alloc (dH M P CC K pp cc kk)).cell? ⟨w.heap.size,1,none⟩=some (.slice (some ⟨mb,mo,none⟩) f.methods.length b)):=(aa (iB (by simp) (b8 rfl))).trans rfl
 go_enter Tryz.func25,Tryz.ntmps25
 go_wp2_with (first
  | (go_at_call_of 20 (Value.int IntKind.i64 60000);refine (aE _ _ _ _).mono ?_;rintro e w1 ⟨he,hw1⟩;rw [H2.out] at he;subst he;rw [hw1];clear hw1 w1)
  | (go_at_call 20;refine (aE _ _ _ _).mono ?_;rintro e w1 ⟨he,hw1⟩;rw [H1.out] at he;subst he;rw [hw1];clear hw1 w1))
 go_loopw [14,15] (fun u i wr=>∃q:Nat,q≤M.params.length/\i=int i64 q/\Hid (Bl ((w.alloc (pw f A (some ⟨mb,mo,none⟩) a b)).alloc (dH M P CC K pp cc kk)) wr)/\wr.cell? ⟨w.heap.size+1,0,none⟩=some (.slice P M.params.length pp)/\wr.cell? ⟨w.heap.size,0,none⟩=some (.slice A f.classes.length a)/\wr.cell? ⟨w.heap.size,1,none⟩=some (.slice (some ⟨mb,mo,none⟩) f.methods.length b)/\w.heap.size+1<wr.heap.size/\Hid (wr.ownsRow (w.heap.size+2) 62 2 u q (aL (dy (M.params.take q) (args.take q))))/\Hid (∀j,j<q->(nth cL M.params j).kind≠3)) (fun _ i _=>args.length-(intOf i).toNat)
 case atStart=>exact ⟨0,Nat.zero_le _,rfl,Bl.refl _,aa (b8 (by simp)),(aa (iB (by simp) (b8 rfl))).trans rfl,(aa (iB (by simp) (b8 rfl))).trans rfl,by simp,⟨rfl,Or.inl ⟨rfl,rfl⟩⟩,fun j hj=>absurd hj (by omega)⟩
 case round =>
  obtain ⟨q,hq,rfl,hgx,c0,g0,g1,hsz,hO,hk⟩:=hrel
  have hg:Hid (Bl w wr):=Bl.trans (((Bl.refl w).alloc _).alloc _) hgx.out
  by_cases eQ:q<M.params.length
  ·have Ck:q<args.length:=by rw [H4.out];exact eQ
   rcases (Sk.out wr hg.out).2 with h0|⟨xb,xo,Jy,hcell⟩
   ·omega
   obtain ⟨t0,-⟩:=hcell q eQ
   rcases (Xq.out wr hg.out).2 with h0|⟨rb,ro,Xr,hrc⟩
   ·omega
   have r0:=(hrc q Ck).1
   rw [Jy] at c0
   have UB:Hid (P=some ⟨xb,xo,none⟩):=Jy
   subst Xr
   have U4:=Cx M.params args q eQ H4.out.symm
   have PA:Hid (dy (M.params.take (q+1)) (args.take (q+1))=dy (M.params.take q) (args.take q)++[rQ (nth cL M.params q) (nth (0:Int) args q)]):=U4
   have SU:Hid ((nth cL M.params q).kind≠3->∀j,j<q+1->(nth cL M.params j).kind≠3):=fun h3 j hj=>by
    by_cases e:j=q
    ·rw [e];exact h3
    ·exact hk.out j (by omega)
   have SV:Hid ((nth cL M.params q).kind=3->gR M.params=true):=fun h3=>by
    show gR M.params=true
    unfold gR
    rw [List.any_eq_true]
    exact ⟨_,bE eQ,decide_eq_true h3⟩
   have Y4:=bt t0
   have Y5:=bt r0
   have Y6:args.length≤2 ^ 63-1:=by have:=H4.out;omega
   have cU:(0:Int)≤(q:Int):=by omega
   have mL:(q:Int)<(M.params.length:Int):=by omega
   have qK:(q:Int)<(args.length:Int):=by omega
   clear hcell hrc Jy U4 hk
   generalize nth cL M.params q=t at *
   generalize nth (0:Int) args q=av at *
   by_cases h3:t.kind=3
   ·have hz:(t.kind==3)=true:=by simpa using h3
    have Xs:Hid (gR M.params=true):=SV.out h3
    clear h3
    go_wp2
    refine bodyPost_ret (v:=.tuple #[.pointer none,.slice none 0 0,int i64 3]) (by simp [results,Tryz.results25,go_sem]) rfl ?_
    unfold km
    rw [if_pos Xs.out]
    exact ⟨rfl,hg.out⟩
   ·have hz:(t.kind==3)=false:=by simpa using h3
    have Lm:Hid (∀j,j<q+1->(nth cL M.params j).kind≠3):=SU.out h3
    clear h3
    by_cases MV:t.kind=1
    ·have SW:Hid (rQ t av=⟨1,wrap32 av⟩):=by show rQ t av=_;unfold rQ;rw [if_pos MV,MV]
     rw [MV] at t0 hz
     clear MV
     go_wp2
     go_region_held3 (fun w'=>w'.cell? ⟨w.heap.size+1,0,none⟩=some (.slice (some ⟨xb,xo,none⟩) M.params.length pp)/\w'.cell? ⟨xb,xo+q*2,none⟩=some (int i64 1)/\w'.cell? ⟨rb,ro+q,none⟩=some (int i64 av))
      (go_keep)
      (fail)
     go_wp2_with (first
      | (go_at_call 51;refine (k8 _ _).mono ?_;rintro e w3 ⟨rfl,lF⟩;rw [lF];clear lF w3)
      | (at_builtin;refine wpList_append_lies _ rfl (.tmp 76) (.tmp 78) 58 rfl (w.heap.size+2) 62 i0 _ 2 16 Tryz.underlying58 ta sd tf th rfl (by omega) u14 q (aL (dy (M.params.take q) (args.take q))) (by rfl) (by exact ((hO.out.alloc _).alloc _).drew) ⟨wr.heap.size+1,0,none⟩ 1 1 [int i64 1,int i64 (wrap32 av)] (by rfl) (by rfl) (World.news_of_block (cs:=#[int i64 1,int i64 (wrap32 av)]) (t:=62) (fr:=(0,0)) (b8 (w:=wr.alloc (.cells #[int i64 1,int i64 (wrap32 av)] 62)) (by simp))) (by simp [Value.oneCell']) (by omega) (by unfold maxLen;omega) (by omega) (by simp;omega) (wr.heap.size+1+1) (by simp) ?_;intro gg cap w7 lD bK hat hlt;have FJ:Bl ((w.alloc (pw f A (some ⟨mb,mo,none⟩) a b)).alloc (dH M P CC K pp cc kk)) w7:=nP (((hgx.out.alloc _).alloc _).drew) bK (fun k' Hw=>by have:=FI hO.out Hw;simp;omega);have B7:Hid (Bl ((w.alloc (pw f A (some ⟨mb,mo,none⟩) a b)).alloc (dH M P CC K pp cc kk)) w7):=FJ;have e0:=FJ.cell C0.out;have e1:=FJ.cell C1.out;have e2:=FJ.cell C2.out;have e3:w.heap.size+2≤w7.heap.size:=(by have:=FJ.size;simp at this;omega)))
     go_roundw
     case rel=>exact ⟨q+1,by omega,by go_num,B7,e0,e1,e2,by omega,by
      show World.ownsRow _ _ _ _ _ _ _
      rw [PA.out,SW.out,fg]
      exact lD,Lm⟩
     case measure=>simp [intOf];omega
    ·have Xt:(t.kind==1)=false:=by simpa using MV
     have SW:Hid (rQ t av=⟨t.kind,av⟩):=by show rQ t av=_;unfold rQ;rw [if_neg MV]
     clear MV
     go_wp2
     go_region_held3 (fun w'=>w'.cell? ⟨w.heap.size+1,0,none⟩=some (.slice (some ⟨xb,xo,none⟩) M.params.length pp)/\w'.cell? ⟨xb,xo+q*2,none⟩=some (int i64 t.kind)/\w'.cell? ⟨rb,ro+q,none⟩=some (int i64 av))
      (go_keep)
      (fail)
     go_wp2_with (first
      | (at_builtin;refine wpList_append_lies _ rfl (.tmp 76) (.tmp 78) 58 rfl (w.heap.size+2) 62 i0 _ 2 16 Tryz.underlying58 ta sd tf th rfl (by omega) u14 q (aL (dy (M.params.take q) (args.take q))) (by rfl) (by exact ((hO.out.alloc _).alloc _).drew) ⟨wr.heap.size+1,0,none⟩ 1 1 [int i64 t.kind,int i64 av] (by rfl) (by rfl) (World.news_of_block (cs:=#[int i64 t.kind,int i64 av]) (t:=62) (fr:=(0,0)) (b8 (w:=wr.alloc (.cells #[int i64 t.kind,int i64 av] 62)) (by simp))) (by simp [Value.oneCell']) (by omega) (by unfold maxLen;omega) (by omega) (by simp;omega) (wr.heap.size+1+1) (by simp) ?_;intro gg cap w7 lD bK hat hlt;have FJ:Bl ((w.alloc (pw f A (some ⟨mb,mo,none⟩) a b)).alloc (dH M P CC K pp cc kk)) w7:=nP (((hgx.out.alloc _).alloc _).drew) bK (fun k' Hw=>by have:=FI hO.out Hw;simp;omega);have B7:Hid (Bl ((w.alloc (pw f A (some ⟨mb,mo,none⟩) a b)).alloc (dH M P CC K pp cc kk)) w7):=FJ;have e0:=FJ.cell C0.out;have e1:=FJ.cell C1.out;have e2:=FJ.cell C2.out;have e3:w.heap.size+2≤w7.heap.size:=(by have:=FJ.size;simp at this;omega)))
     go_roundw
     case rel=>exact ⟨q+1,by omega,by go_num,B7,e0,e1,e2,by omega,by
      show World.ownsRow _ _ _ _ _ _ _
      rw [PA.out,SW.out,fg]
      exact lD,Lm⟩
     case measure=>simp [intOf];omega
  ·obtain rfl:q=M.params.length:=by omega
   have Xv:Hid (gR M.params=false):=by
    show gR M.params=false
    unfold gR
    rw [List.any_eq_false]
    intro x hx
    obtain ⟨j,hj,rfl⟩:=List.getElem_of_mem hx
    have:=hk.out j hj
    rw [bP hj] at this
    simpa using this
   have hlen:=tL M.params args M.params.length (Nat.le_refl _) H4.out.symm
   rw [List.take_length,<-H4.out,List.take_length,H4.out] at hlen
   have QT:=hO.out
   rw [List.take_length,<-H4.out,List.take_length,H4.out] at QT
   obtain ⟨L,lc,rfl,LA,l8⟩:∃L lc,u14=.slice L M.params.length lc/\(∀wz,Bl wr wz->bG w.heap.size wz L (dy M.params args))/\M.params.length≤lc:=by
    rcases QT.2 with ⟨e1,e2⟩|⟨gb,cp,cur,e1,e2,e3,e4,-⟩
    ·exact ⟨none,0,by rw [e1,e2],fun wz hb=>Or.inl (by omega),by omega⟩
    ·subst e1
     exact ⟨_,cp,rfl,fun wz hb=>((Ab QT (lb:=w.heap.size) (by omega) hlen.symm).1).keep fun b cs f e _=>(hb.block _ (af e)).trans e,e4⟩
   have gz:Hid (∀wz,Bl wr wz->bG w.heap.size wz L (dy M.params args)):=LA
   have oh:Hid ((dy M.params args).length=M.params.length):=hlen
   have wo:Hid (M.params.length≤lc):=l8
   have Xw:args.length≤M.params.length:=by have:=H4.out;omega
   clear QT hlen LA l8 hk
   go_wp2
   refine bodyPost_ret (v:=.tuple #[.pointer (some ⟨wr.heap.size,0,none⟩),.slice L M.params.length lc,int i64 0]) (by simp [results,Tryz.results25,go_sem]) rfl ?_
   unfold km
   rw [if_neg (by rw [Xv.out];decide)]
   have U5:Bl W0 wr:=hW.trans hg.out
   refine ⟨wr.heap.size,L,lc,by rw [oh.out],⟨U5.size,b8 rfl,U5.alloc _,⟨rfl,Or.inl ⟨rfl,rfl⟩⟩,⟨rfl,⟨rfl,Or.inl ⟨rfl,rfl⟩⟩,fun i hi=>absurd hi (by simp [fH]),fun i j hi=>absurd hi (by simp [fH])⟩⟩,gz.out _ ((Bl.refl _).alloc _),by rw [oh.out];exact wo.out,hg.out.alloc _⟩
def Hp.doneH (h:Hp) (v:Va):Hp :=
 if h.over=true then h
 else if 0≤h.thrown then { h with sh:={ h.sh with fin:=2,cls:=(h.obj h.thrown).cls } }
 else if v.kind=1∨v.kind=2 then { h with sh:={ h.sh with fin:=1,value:=v.n } } else { h with sh:={ h.sh with fin:=1 } }
abbrev QU (s:Sh) (vx:Value):Value:=.agg #[int i64 s.fin,int i64 s.value,int i64 s.cls,vx,int i64 s.used,int i64 s.steps]
abbrev vF:Obj:=.cells #[int i64 0,int i64 0,int i64 0,.slice none 0 0,int i64 0,int i64 0] 28
theorem kJ:(Tryz.prog.info? 28).map (·.size)=some 6:=by kernel_rfl
theorem Tk.nsh (k:Tk T) (h:T≠28):¬ig T 28:=by rintro (e|e|e|e)<;>first|exact h e.symm|exact absurd e (by decide)
structure mC (w:World) (b:Nat) (cs:Array Value):Prop where
 blk:w.heap[b]?=some (.cells cs 28 (0,0))
theorem mC.six {a0 a1 a2 a3 a4 a5:Value} (h:mC w b #[a0,a1,a2,a3,a4,a5]) (s:Sh) (vx:Value) :
  mC ((((((w.setCell ⟨b,0,none⟩ (int i64 s.fin)).setCell ⟨b,1,none⟩ (int i64 s.value)).setCell ⟨b,2,none⟩ (int i64 s.cls)).setCell ⟨b,3,none⟩ vx).setCell ⟨b,4,none⟩ (int i64 s.used)).setCell ⟨b,5,none⟩ (int i64 s.steps)) b #[int i64 s.fin,int i64 s.value,int i64 s.cls,vx,int i64 s.used,int i64 s.steps] :=
 ⟨by rw [ax (ax (ax (ax (ax (ax h.blk _) _) _) _) _)];rfl⟩
theorem mC.cf {B:Nat} {cs:Array Value} (h:mC w b cs) (k:¬ig T 28) (hB:B≤b) (a0 a1 a2 a3 a4 a5:Value) :
  Cf B T w ((((((w.setCell ⟨b,0,none⟩ a0).setCell ⟨b,1,none⟩ a1).setCell ⟨b,2,none⟩ a2).setCell ⟨b,3,none⟩ a3).setCell ⟨b,4,none⟩ a4).setCell ⟨b,5,none⟩ a5) :=
 ((((((Cf.refl B T w).set h.blk k hB a0).set (ax h.blk _) k hB a1).set (ax (ax h.blk _) _) k hB a2).set (ax (ax (ax h.blk _) _) _) k hB a3).set (ax (ax (ax (ax h.blk _) _) _) _) k hB a4).set (ax (ax (ax (ax (ax h.blk _) _) _) _) _) k hB a5
theorem Fr.new6 {B:Nat} {x:World} (h:Fr B T x w) (hb:x.heap.size≤b) (hB:B≤b) (a0 a1 a2 a3 a4 a5:Value) :
  Fr B T x ((((((w.setCell ⟨b,0,none⟩ a0).setCell ⟨b,1,none⟩ a1).setCell ⟨b,2,none⟩ a2).setCell ⟨b,3,none⟩ a3).setCell ⟨b,4,none⟩ a4).setCell ⟨b,5,none⟩ a5) :=
 (((((h.new hb hB a0).new hb hB a1).new hb hB a2).new hb hB a3).new hb hB a4).new hb hB a5
theorem FK (w0:World) (g:Ad) (k:Tk g.T) (Y7:g.T≠28) (p:Nat) (h:Hp) (v:Va) (w:World) (vo vx:Value) (hv:List Value) (H:cC w0 g w p h vo vx hv) (ht:h.thrown<h.objs.length) :
  Calls Tryz.prog 27 #[.pointer (some ⟨p,0,none⟩),iA v] w fun e w'=>e=.returned (QU (h.doneH v).sh vx)/\cC w0 g w' p (h.doneH v) vo vx hv/\Fr w0.heap.size g.T w w':=by
 have cH:=H.base
 have yO:=af H.blk
 have Xx:p<w.heap.size+1:=by omega
 have HX:Hid (cC w0 g w p h vo vx hv):=H
 have HK:Hid (Tk g.T):=k
 have c:=H.cells
 have c6:=c.c6
 have c7:=c.c7
 have c8:=c.c8
 have c9:=c.c9
 have c10:=c.c10
 have c11:=c.c11
 have c12:=c.c12
 have c13:=c.c13
 have c2:=c.c2
 have f:=H.free
 clear H c
 obtain ⟨xa,xn,xc,rfl⟩:∃xa xn xc,vx=.slice xa xn xc:=by
  rcases HX.out.out.2 with ⟨e,-⟩|⟨gb,cp,cur,e,-⟩
  ·exact ⟨_,_,_,e⟩
  ·exact ⟨_,_,_,e⟩
 cases bq:h.over
 ·rw [bq] at c12
  by_cases h0:0≤h.thrown
  ·have hr:h.doneH v={ h with sh:={ h.sh with fin:=2,cls:=(h.obj h.thrown).cls } }:=by unfold Hp.doneH;rw [if_neg (by rw [bq];decide),if_pos h0]
   rw [hr]
   clear hr
   have hd:decide (0≤h.thrown)=true:=decide_eq_true h0
   obtain ⟨n,hn⟩:∃n:Nat,h.thrown=n:=⟨h.thrown.toNat,by omega⟩
   have kq:n<h.objs.length:=by omega
   obtain ⟨gb,cap,mW,-,yC,hcc⟩:=kf HX.out.obs (by omega)
   have o1:=(hcc n kq).1
   unfold maxLen at yC
   have HO:Hid ((h.obj h.thrown).cls=(nth cA h.objs n).cls):=by show (h.obj h.thrown).cls=_;unfold Hp.obj;rw [hn,Int.toNat_natCast]
   have QV:gb≠p:=by
    intro e
    rcases HX.out.obs.row.2 with ⟨h1,h2⟩|⟨Y8,Y9,Xy,h1,h2,h3,-⟩
    ·omega
    ·rw [mW] at h1
     simp only [Value.slice.injEq,Option.some.injEq,Addr.mk.injEq] at h1
     obtain ⟨⟨rfl,-,-⟩,-,-⟩:=h1
     rw [e,HX.out.blk] at h3
     simp at h3
     exact HK.out.o h3.2
   have Xz:p≠gb:=Ne.symm QV
   have VX:=bt o1
   have XB:gb<w.heap.size+1:=by omega
   have kp:(0:Int)≤(n:Int):=by omega
   have kb:(n:Int)<(h.objs.length:Int):=by omega
   rw [mW] at c2
   have SX:=c13
   rw [hn] at SX
   rw [hn] at hd
   have HN:Hid (h.thrown=n):=hn
   clear hcc hn c13 h0
   rw [HO.out]
   generalize (nth cA h.objs n).cls=X at *
   have H1:=HX.out.set HK.out (i:=6) (v:=int i64 2) { h with sh:={ h.sh with fin:=2 } } rfl rfl rfl
   have Ai:Hid (cC w0 g (w.setCell ⟨p,6,none⟩ (int i64 2)) p { h with sh:={ h.sh with fin:=2 } } vo (.slice xa xn xc) hv):=H1
   have bA:Bl (w.setCell ⟨p,6,none⟩ (int i64 2)) (((w.setCell ⟨p,6,none⟩ (int i64 2)).alloc (cS v)).alloc vF):=((Bl.refl _).alloc _).alloc _
   have a2:=bA.cell (H1.cells.c2)
   rw [mW] at a2
   have XC:=bA.cell (H1.cells.c13)
   rw [show ({ h with sh:={ h.sh with fin:=2 } }:Hp).thrown=(n:Int) from HN.out] at XC
   have ao:(((w.setCell ⟨p,6,none⟩ (int i64 2)).alloc (cS v)).alloc vF).cell? ⟨gb,n*2,none⟩=some (int i64 X):=bA.cell ((World.cell?_of_block (aA QV _)).trans o1)
   have H2:=H1.set HK.out (i:=8) (v:=int i64 X) { h with sh:={ h.sh with fin:=2,cls:=X } } rfl rfl rfl
   have U6:Hid (cC w0 g ((w.setCell ⟨p,6,none⟩ (int i64 2)).setCell ⟨p,8,none⟩ (int i64 X)) p { h with sh:={ h.sh with fin:=2,cls:=X } } vo (.slice xa xn xc) hv):=H2
   have bB:Bl ((w.setCell ⟨p,6,none⟩ (int i64 2)).setCell ⟨p,8,none⟩ (int i64 X)) ((((w.setCell ⟨p,6,none⟩ (int i64 2)).setCell ⟨p,8,none⟩ (int i64 X)).alloc (cS v)).alloc vF):=((Bl.refl _).alloc _).alloc _
   have b2:=bB.cell (H2.cells.c2)
   rw [mW] at b2
   have XD:=bB.cell (H2.cells.c13)
   rw [show ({ h with sh:={ h.sh with fin:=2,cls:=X } }:Hp).thrown=(n:Int) from HN.out] at XD
   have bo:((((w.setCell ⟨p,6,none⟩ (int i64 2)).setCell ⟨p,8,none⟩ (int i64 X)).alloc (cS v)).alloc vF).cell? ⟨gb,n*2,none⟩=some (int i64 X):=bB.cell ((World.cell?_of_block (aA QV _)).trans ((World.cell?_of_block (aA QV _)).trans o1))
   have SY:Hid (h.over=false):=bq
   clear H1 H2 bA bB bq mW
   go_enter Tryz.func27,Tryz.ntmps27
   go_wp2
   go_region_held3 (fun w'=>w'.cell? ⟨p,2,none⟩=some (.slice (some ⟨gb,0,none⟩) h.objs.length cap)/\w'.cell? ⟨p,13,none⟩=some (int i64 (n:Int))/\w'.cell? ⟨gb,n*2,none⟩=some (int i64 X))
    (go_keep)
    (fail)
   go_wp2
   (try simp only [Exit.inBlock,Exit.then])
   have hfin:=fun (cs:Array Value)=>(b8 (by simp):((((w.setCell ⟨p,6,none⟩ (int i64 2)).setCell ⟨p,8,none⟩ (int i64 X)).alloc (cS v)).alloc (.cells cs 28)).heap[w.heap.size+1]?=some (.cells cs 28 (0,0)))
   refine bodyPost_ret (results_cell_row rfl _ _ (w.heap.size+1) _ _ _ _ rfl (hfin _) Tryz.underlying28 rfl kJ) rfl ?_
   have FA:=(HX.out.frSet 6 (int i64 2)).trans (Ai.out.frSet 8 (int i64 X))
   exact ⟨rfl,U6.out.old (((Bl.refl _).alloc _).alloc _).drew,FA.trans (Fr.old U6.out.base (((Bl.refl _).alloc _).alloc _).drew)⟩
  ·have hd:decide (0≤h.thrown)=false:=decide_eq_false h0
   by_cases hk:v.kind=1∨v.kind=2
   ·have hr:h.doneH v={ h with sh:={ h.sh with fin:=1,value:=v.n } }:=by unfold Hp.doneH;rw [if_neg (by rw [bq];decide),if_neg h0,if_pos hk]
    rw [hr]
    have SY:Hid (h.over=false):=bq
    clear hr bq
    obtain ⟨vk,vn⟩:=v
    dsimp only at *
    rcases hk with rfl|rfl
    ·go_enter Tryz.func27,Tryz.ntmps27
     go_wp2
     (try simp only [Exit.inBlock,Exit.then])
     refine bodyPost_ret (results_cell_row rfl _ _ (w.heap.size+1) _ _ _ _ rfl (b8 (by simp)) Tryz.underlying28 rfl kJ) rfl ?_
     have H1:=HX.out.set HK.out (i:=6) (v:=int i64 1) { h with sh:={ h.sh with fin:=1 } } rfl rfl rfl
     have H2:=H1.set HK.out (i:=7) (v:=int i64 vn) { h with sh:={ h.sh with fin:=1,value:=vn } } rfl rfl rfl
     have FA:=(HX.out.frSet 6 (int i64 1)).trans (H1.frSet 7 (int i64 vn))
     exact ⟨rfl,H2.old (((Bl.refl _).alloc _).alloc _),FA.trans (Fr.old H2.base (((Bl.refl _).alloc _).alloc _))⟩
    ·go_enter Tryz.func27,Tryz.ntmps27
     go_wp2
     (try simp only [Exit.inBlock,Exit.then])
     refine bodyPost_ret (results_cell_row rfl _ _ (w.heap.size+1) _ _ _ _ rfl (b8 (by simp)) Tryz.underlying28 rfl kJ) rfl ?_
     have H1:=HX.out.set HK.out (i:=6) (v:=int i64 1) { h with sh:={ h.sh with fin:=1 } } rfl rfl rfl
     have H2:=H1.set HK.out (i:=7) (v:=int i64 vn) { h with sh:={ h.sh with fin:=1,value:=vn } } rfl rfl rfl
     have FA:=(HX.out.frSet 6 (int i64 1)).trans (H1.frSet 7 (int i64 vn))
     exact ⟨rfl,H2.old (((Bl.refl _).alloc _).alloc _),FA.trans (Fr.old H2.base (((Bl.refl _).alloc _).alloc _))⟩
   ·have hr:h.doneH v={ h with sh:={ h.sh with fin:=1 } }:=by unfold Hp.doneH;rw [if_neg (by rw [bq];decide),if_neg h0,if_neg hk]
    rw [hr]
    have SY:Hid (h.over=false):=bq
    clear hr bq
    have k1:(v.kind==1)=false:=by simp;omega
    have k2:(v.kind==2)=false:=by simp;omega
    clear hk
    go_enter Tryz.func27,Tryz.ntmps27
    go_wp2
    (try simp only [Exit.inBlock,Exit.then])
    refine bodyPost_ret (results_cell_row rfl _ _ (w.heap.size+1) _ _ _ _ rfl (b8 (by simp)) Tryz.underlying28 rfl kJ) rfl ?_
    have H1:=HX.out.set HK.out (i:=6) (v:=int i64 1) { h with sh:={ h.sh with fin:=1 } } rfl rfl rfl
    exact ⟨rfl,H1.old (((Bl.refl _).alloc _).alloc _),(HX.out.frSet 6 _).trans (Fr.old H1.base (((Bl.refl _).alloc _).alloc _))⟩
 ·rw [bq] at c12
  have hr:h.doneH v=h:=by unfold Hp.doneH;rw [if_pos bq]
  rw [hr]
  have SY:Hid (h.over=true):=bq
  clear hr bq
  go_enter Tryz.func27,Tryz.ntmps27
  go_wp2
  (try simp only [Exit.inBlock,Exit.then])
  refine bodyPost_ret (results_cell_row rfl _ _ (w.heap.size+1) _ _ _ _ rfl (b8 (by simp)) Tryz.underlying28 rfl kJ) rfl ?_
  exact ⟨rfl,HX.out.old (((Bl.refl _).alloc _).alloc _),Fr.old cH (((Bl.refl _).alloc _).alloc _)⟩
def U7:Sh:=⟨0,0,0,[],0,0⟩
def jn (f:Fi) (entry:Int) (args input:List Int) (fuel:Int):Hp×Va:=fY (bF fuel.toNat) (fH f input fuel) (nth bM f.methods entry.toNat) (dy (nth bM f.methods entry.toNat).params args)
def qN (f:Fi) (entry:Int) (args input:List Int) (fuel:Int):Sh:=((jn f entry args input fuel).1.doneH (jn f entry args input fuel).2).sh
theorem Ak:Tk 73:=by constructor<;>decide
theorem FL {l:List Cl} (h:eG l=true):∀d,d<l.length->(nth cd l d).fields.length≤6:=by
 intro d hd
 unfold eG at h
 rw [Bool.and_eq_true,List.all_eq_true] at h
 have:=h.2 d (by simpa using hd)
 unfold rE at this
 rw [Bool.and_eq_true] at this
 have:=of_decide_eq_true this.1
 omega
theorem SZ {f:Fi} {A B I:Option Addr} {a i:Nat} {input:List Int} {fuel:Int} (hA:cg w A f.classes) (hM:eD w B f.methods) (hI:cM w I input) (hmay:bV f=true):Env w ⟨A,a,B,b,I,i,73⟩ (fH f input fuel):=by
 unfold bV at hmay
 rw [Bool.and_eq_true,Bool.and_eq_true,List.all_eq_true] at hmay
 obtain ⟨ht,h4,pN⟩:=ng hmay.1.1
 exact ⟨⟨Ak,hA,ht,h4,pN,FL hmay.1.1⟩,fun m hm=>⟨hmay.2 m hm,yq hM m hm⟩,hM,hI⟩
theorem XE {f:Fi} {input:List Int} {fuel:Int} (hI:∀n∈input,cP n) (hf:0≤fuel/\fuel≤60000):Gh 0 (fH f input fuel) :=
 ⟨fun o ho=>by simp [fH] at ho,by simp [fH],by simp [fH],by simp [fH];exact hf.1,hf,by simp [fH],by simp [fH],hI,by simp [fH]⟩
theorem Al (h:Hp):∀(l:List Ty) (k:List Int),(∀t∈l,t.kind≠3)->(∀n∈k,cP n)->∀v∈dy l k,iJ h v
 | [],_,_,_,v,hv=>by simp [dy] at hv
 | _::_,[],_,_,v,hv=>by simp [dy] at hv
 | t::l,a::k,h1,h2,v,hv=>by
  simp only [dy,List.mem_cons] at hv
  rcases hv with rfl|hv
  ·refine ⟨fun e=>absurd e (h1 t (List.mem_cons_self ..)),?_⟩
   show cP (if t.kind=1 then wrap32 a else a)
   split
   ·exact pC _
   ·exact h2 a (List.mem_cons_self ..)
  ·exact Al h l k (fun x hx=>h1 x (List.mem_cons_of_mem _ hx)) (fun x hx=>h2 x (List.mem_cons_of_mem _ hx)) v hv
theorem results_cell_tmp {P:Program} {fn:Func} {p s:Tmp} {ty:TypeId} (h:fn.results=#[.cell p ty,.tmp s]) (tmps:Array Value) (w:World) (g:Nat) (t:TypeId) (cs:Array Value) (fr:Nat×Nat) (d:TypeDesc) (v:Value) (hp:tmps.getD p undef=.pointer (some ⟨g,0,none⟩)) (hs:tmps.getD s undef=v) (hg:w.heap[g]?=some (.cells cs t fr)) (hu:P.underlying ty=some d) (hd:(match d with | .struct _ | .array _ _=>true|_=>false)=true) (hi:(P.info? ty).map (·.size)=some cs.size) :
  (results fn tmps).run P w=.ok (.tuple #[.agg cs,v]) w:=by
 have BF:tmps[p]?.getD undef=.pointer (some ⟨g,0,none⟩):=by simpa using hp
 have OK:tmps[s]?.getD undef=v:=by simpa using hs
 simp [results,h,BF,OK,asAddr,run_loadVar_row w g t ty cs fr d hg hu hd hi]
section
variable (f:Fi) (A B I R:Option Addr) (a b i r:Nat) (entry fuel:Int) (args input:List Int)
theorem Cy (W0 w:World) (hW:Bl W0 w) (hM:eD w B f.methods) (hi:input.length≤maxLen) (hR:cM w R args) (hmay:bV f=true) (hE:gS f entry args input fuel≠0) :
  Calls Tryz.prog 25 #[fV f.classes.length f.methods.length A B a b,int i64 entry,.slice R args.length r,.slice I input.length i,int i64 fuel] w fun e w'=>e=.returned (.tuple #[.pointer none,.slice none 0 0,int i64 (gS f entry args input fuel)])/\Bl w w':=by
 unfold gS at hE ⊢
 split at hE
 ·rename_i h1
  rw [if_pos h1]
  exact wW f A B I R a b i r entry fuel args input w hM.1 h1
 ·rename_i h1
  rw [if_neg h1]
  have vB:(0≤entry/\entry≤(f.methods.length:Int)-1)/\(0≤fuel/\fuel≤60000):=by
   refine ⟨?_,?_⟩
   ·exact Classical.byContradiction fun hc=>h1 (Or.inl hc)
   ·exact Classical.byContradiction fun hc=>h1 (Or.inr hc)
  split at hE
  ·rename_i h2
   rw [if_pos h2]
   exact yR f A B I R a b i r entry fuel args input w hM.1 hi vB.1 vB.2 h2
  ·rename_i h2
   rw [if_neg h2]
   split at hE
   ·rename_i h3
    rw [if_pos h3]
    exact Cv f A B I R a b i r entry fuel args input w hM hi hR.1 vB.1 vB.2 h2 h3
   ·rename_i h3
    rw [if_neg h3]
    split at hE
    ·rename_i h4
     rw [if_pos h4]
     have hp:(nth bM f.methods entry.toNat).params.length≤4:=by
      unfold bV at hmay
      rw [Bool.and_eq_true,List.all_eq_true] at hmay
      exact (jh (hmay.2 _ (bE (by omega)))).2.2.2.2.1
     refine (wX W0 f A B I R a b i r entry fuel args input w hW hM hi hR vB.1 vB.2 h2 (by omega) hp).mono fun e w' hh=>?_
     unfold km at hh
     rw [if_pos h4] at hh
     exact hh
    ·exact absurd rfl hE
theorem yS (W0 w:World) (hW:Bl W0 w) (hM:eD w B f.methods) (hi:input.length≤maxLen) (hR:cM w R args) (hmay:bV f=true) (hE:gS f entry args input fuel=0) :
  (Calls Tryz.prog 25 #[fV f.classes.length f.methods.length A B a b,int i64 entry,.slice R args.length r,.slice I input.length i,int i64 fuel] w fun e w'=>qM W0 f A B I a b i fuel input (dy (nth bM f.methods entry.toNat).params args) w e w')
  /\ (0≤entry/\entry≤(f.methods.length:Int)-1)/\(0≤fuel/\fuel≤60000)/\args.length=(nth bM f.methods entry.toNat).params.length/\gR (nth bM f.methods entry.toNat).params=false:=by
 unfold gS at hE
 split at hE
 ·exact absurd hE (by decide)
 rename_i h1
 have vB:(0≤entry/\entry≤(f.methods.length:Int)-1)/\(0≤fuel/\fuel≤60000):=by
  refine ⟨?_,?_⟩
  ·exact Classical.byContradiction fun hc=>h1 (Or.inl hc)
  ·exact Classical.byContradiction fun hc=>h1 (Or.inr hc)
 split at hE
 ·exact absurd hE (by decide)
 rename_i h2
 split at hE
 ·exact absurd hE (by decide)
 rename_i h3
 split at hE
 ·exact absurd hE (by decide)
 rename_i h4
 have hp:(nth bM f.methods entry.toNat).params.length≤4:=by
  unfold bV at hmay
  rw [Bool.and_eq_true,List.all_eq_true] at hmay
  exact (jh (hmay.2 _ (bE (by omega)))).2.2.2.2.1
 refine ⟨(wX W0 f A B I R a b i r entry fuel args input w hW hM hi hR vB.1 vB.2 h2 (by omega) hp).mono fun e w' hh=>?_,vB.1,vB.2,by omega,by simpa using h4⟩
 unfold km at hh
 rw [if_neg h4] at hh
 exact hh
theorem FM (w:World) (hM:eD w B f.methods) (hi:input.length≤maxLen) (hR:cM w R args) (hmay:bV f=true) (hE:gS f entry args input fuel≠0) :
  Calls Tryz.prog 10 #[fV f.classes.length f.methods.length A B a b,int i64 entry,.slice R args.length r,.slice I input.length i,int i64 fuel] w fun e w'=>e=.returned (.tuple #[QU U7 (.slice none 0 0),int i64 (gS f entry args input fuel)])/\Bl w w':=by
 have bl0:Bl w ((w.alloc (pw f A B a b)).alloc vF):=((Bl.refl w).alloc _).alloc _
 have HB:Hid (Bl w ((w.alloc (pw f A B a b)).alloc vF)):=bl0
 have HC:Hid (Calls Tryz.prog 25 #[fV f.classes.length f.methods.length A B a b,int i64 entry,.slice R args.length r,.slice I input.length i,int i64 fuel] ((w.alloc (pw f A B a b)).alloc vF) fun e w'=>e=.returned (.tuple #[.pointer none,.slice none 0 0,int i64 (gS f entry args input fuel)])/\Bl ((w.alloc (pw f A B a b)).alloc vF) w') :=
  Cy f A B I R a b i r entry fuel args input w _ bl0 (hM.bl bl0) hi (hR.bl bl0) hmay hE
 have HS:Hid (mC ((w.alloc (pw f A B a b)).alloc vF) (w.heap.size+1) #[int i64 0,int i64 0,int i64 0,.slice none 0 0,int i64 0,int i64 0]):=⟨b8 (by simp)⟩
 have hz:(gS f entry args input fuel !=0)=true:=by simpa using hE
 clear hM hi hR hmay hE bl0
 generalize gS f entry args input fuel=E at *
 go_enter Tryz.func10,Tryz.ntmps10
 go_wp2_with (go_at_call 25;refine HC.out.mono ?_;rintro e w1 ⟨rfl,b1⟩;have B1:Hid (Bl ((w.alloc (pw f A B a b)).alloc vF) w1):=b1;have S1:Hid (mC w1 (w.heap.size+1) #[int i64 0,int i64 0,int i64 0,.slice none 0 0,int i64 0,int i64 0]):=⟨(b1.block _ (af HS.out.blk)).trans HS.out.blk⟩;have s0:=aa (i:=0) S1.out.blk;have s1:=aa (i:=1) S1.out.blk;have s2:=aa (i:=2) S1.out.blk;have s3:=aa (i:=3) S1.out.blk;have s4:=aa (i:=4) S1.out.blk;have s5:=aa (i:=5) S1.out.blk;have sf:=ay S1.out.blk;clear b1)
 refine bodyPost_ret (results_cell_tmp rfl _ _ (w.heap.size+1) _ _ _ _ (int i64 E) rfl rfl (S1.out.six U7 (.slice none 0 0)).blk Tryz.underlying28 rfl kJ) rfl ?_
 have hb:=HB.out.trans B1.out
 have hle:w.heap.size≤w.heap.size+1:=by omega
 exact ⟨rfl,(((((hb.setCell hle _).setCell hle _).setCell hle _).setCell hle _).setCell hle _).setCell hle _⟩
end
theorem PB:¬ig 73 25:=by rintro (e|e|e|e)<;>exact absurd e (by decide)
theorem sI:¬ig 73 28:=by rintro (e|e|e|e)<;>exact absurd e (by decide)
def Am (f:Fi) (entry:Int) (args input:List Int) (fuel:Int) (w:World) (e:Ending) (w':World):Prop :=
 ∃vx,e=.returned (.tuple #[QU (qN f entry args input fuel) vx,int i64 0])/\w'.ownsRow w.heap.size 2 1 vx (qN f entry args input fuel).out.length ((qN f entry args input fuel).out.map (Value.int .i64))/\Bl w w'
theorem JI (f:Fi) (A B I R:Option Addr) (a b i r:Nat) (entry fuel:Int) (args input:List Int) (w:World) (hA:cg w A f.classes) (hM:eD w B f.methods) (hI:cM w I input) (hR:cM w R args) (hmay:bV f=true) (hE:gS f entry args input fuel=0) :
  Calls Tryz.prog 10 #[fV f.classes.length f.methods.length A B a b,int i64 entry,.slice R args.length r,.slice I input.length i,int i64 fuel] w fun e w'=>Am f entry args input fuel w e w':=by
 have bl0:Bl w ((w.alloc (pw f A B a b)).alloc vF):=((Bl.refl w).alloc _).alloc _
 have HB:Hid (Bl w ((w.alloc (pw f A B a b)).alloc vF)):=bl0
 obtain ⟨hc,h1,h2,h3,h4⟩:=yS f A B I R a b i r entry fuel args input w _ bl0 (hM.bl bl0) hI.1 (hR.bl bl0) hmay hE
 have HC:Hid (Calls Tryz.prog 25 #[fV f.classes.length f.methods.length A B a b,int i64 entry,.slice R args.length r,.slice I input.length i,int i64 fuel] ((w.alloc (pw f A B a b)).alloc vF) fun e w'=>qM w f A B I a b i fuel input (dy (nth bM f.methods entry.toNat).params args) ((w.alloc (pw f A B a b)).alloc vF) e w'):=hc
 have HS:Hid (mC ((w.alloc (pw f A B a b)).alloc vF) (w.heap.size+1) #[int i64 0,int i64 0,int i64 0,.slice none 0 0,int i64 0,int i64 0]):=⟨b8 (by simp)⟩
 have O6:Hid (((w.alloc (pw f A B a b)).alloc vF).heap[w.heap.size]?=some (pw f A B a b)):=iB (by simp) (b8 rfl)
 obtain ⟨n,rfl⟩:∃n:Nat,entry=n:=⟨entry.toNat,by omega⟩
 have kq:n<f.methods.length:=by omega
 obtain ⟨mb,mo,P,CC,K,pp,cc,kk,hB,HZ,hme⟩:=iZ hM kq
 subst hB
 have XF:Hid (_):=HZ
 have wT:eX f.classes f.methods.length (nth bM f.methods n)=true/\∀i∈(nth bM f.methods n).code,i.ok:=by
  unfold bV at hmay
  rw [Bool.and_eq_true,List.all_eq_true] at hmay
  exact ⟨hmay.2 _ (bE kq),yq hM _ (bE kq)⟩
 have hgd:∀v∈dy (nth bM f.methods n).params args,iJ (fH f input fuel) v:=Al _ _ _ (fun t ht e=>by
  rw [Int.toNat_natCast] at h4
  unfold gR at h4
  rw [List.any_eq_false] at h4
  exact absurd (decide_eq_true e) (h4 t ht)) (pF hR)
 have EV:=SZ (a:=a) (b:=b) (i:=i) (fuel:=fuel) hA hM hI hmay
 have GH:=XE (f:=f) (pF hI) h2
 have yO:(dy (nth bM f.methods n).params args).length=(nth bM f.methods n).params.length:=iQ _ _ (by rw [Int.toNat_natCast] at h3;omega)
 have HR:Hid (∀(p:Nat) (L:Option Addr) (lc lb:Nat) (w1:World),Hs w ⟨A,a,some ⟨mb,mo,none⟩,b,I,i,73⟩ w1 p (fH f input fuel)->bG lb w1 L (dy (nth bM f.methods n).params args)->(dy (nth bM f.methods n).params args).length≤lc->Calls Tryz.prog 26 #[.pointer (some ⟨p,0,none⟩),iU (nth bM f.methods n) P CC K pp cc kk,.slice L (dy (nth bM f.methods n).params args).length lc] w1 fun e w' =>
   e=.returned (iA (jn f (n:Int) args input fuel).2)/\Hs w ⟨A,a,some ⟨mb,mo,none⟩,b,I,i,73⟩ w' p (jn f (n:Int) args input fuel).1/\Fr w.heap.size 73 w1 w'):=fun p L lc lb w1 xS cu OD =>
  JH w ⟨A,a,some ⟨mb,mo,none⟩,b,I,i,73⟩ p fuel.toNat (fH f input fuel) (nth bM f.methods n) P CC K pp cc kk L lc lb _ w1 xS EV rfl rfl GH hme wT.1 wT.2 yO hgd cu OD (by show (fuel-0).toNat≤fuel.toNat;simp)
 have PC:Hid (iK (fH f input fuel) (jn f (n:Int) args input fuel) 0):=vu (r9 f EV.may fuel.toNat) rfl GH rfl rfl wT.1 wT.2 yO hgd
 have jy:=hM.1
 unfold maxLen at jy
 have kp:(0:Int)≤(n:Int):=by omega
 have kb:(n:Int)<(f.methods.length:Int):=by omega
 rw [Int.toNat_natCast] at *
 have MT:Hid (qN f (n:Int) args input fuel=((jn f (n:Int) args input fuel).1.doneH (jn f (n:Int) args input fuel).2).sh):=rfl
 have Su:Hid (∀e w',(∃vx,e=Ending.returned (.tuple #[QU ((jn f (n:Int) args input fuel).1.doneH (jn f (n:Int) args input fuel).2).sh vx,int i64 0])/\w'.ownsRow w.heap.size 2 1 vx ((jn f (n:Int) args input fuel).1.doneH (jn f (n:Int) args input fuel).2).sh.out.length (((jn f (n:Int) args input fuel).1.doneH (jn f (n:Int) args input fuel).2).sh.out.map (Value.int .i64))/\Bl w w')->Am f (n:Int) args input fuel w e w'):=fun e w' hh=>hh
 clear hA hM hI hR hmay hE hc h1 h2 h3 h4 wT hgd EV GH yO hme bl0 HZ MT
 generalize (dy (nth bM f.methods n).params args)=l at *
 generalize nth bM f.methods n=M at *
 generalize vG:(jn f (n:Int) args input fuel)=RR at *
 clear vG
 go_enter Tryz.func10,Tryz.ntmps10
 go_wp2_with (first
  | (go_at_call 25;refine HC.out.mono ?_;rintro e w1 ⟨p,L,lc,rfl,vh,cu,OD,b1⟩;have B1:Hid (Bl ((w.alloc (pw f A (some ⟨mb,mo,none⟩) a b)).alloc vF) w1):=b1;have f1:=(b1.block _ (af O6.out)).trans O6.out;have Za:=aa (i:=1) f1;obtain ⟨y0,y1,y2,y3,y4,y5,y6,y7⟩:=XF.out;have bw:=HB.out.trans b1;have x0:=bw.cell y0;have x1:=bw.cell y1;have x2:=bw.cell y2;have x3:=bw.cell y3;have x4:=bw.cell y4;have x5:=bw.cell y5;have x6:=bw.cell y6;have x7:=bw.cell y7;have N6:Hid (Hs w ⟨A,a,some ⟨mb,mo,none⟩,b,I,i,73⟩ w1 p (fH f input fuel)):=⟨_,_,_,vh⟩;have jS:Hid (bG ((w.alloc (pw f A (some ⟨mb,mo,none⟩) a b)).alloc vF).heap.size w1 L l):=cu;have S1:Hid (mC w1 (w.heap.size+1) #[int i64 0,int i64 0,int i64 0,.slice none 0 0,int i64 0,int i64 0]):=⟨(b1.block _ (af HS.out.blk)).trans HS.out.blk⟩;have XG:Hid (Bl w w1):=bw;clear y0 y1 y2 y3 y4 y5 y6 y7 bw b1 f1 vh cu)
  | (go_at_call 26;refine (HR.out p L lc _ w1 N6.out jS.out OD).mono ?_;rintro e w2 ⟨rfl,h2,f2⟩;have F2:Hid (Fr w.heap.size 73 w1 w2):=f2;have dA:=h2.base;obtain ⟨vo,vx,hv,HX⟩:=h2.old ((Bl.refl w2).alloc (cS RR.2));obtain ⟨xa,xn,xc,rfl⟩:∃xa xn xc,vx=.slice xa xn xc:=(by rcases HX.out.2 with ⟨e,-⟩|⟨gb,cp,cur,e,-⟩;exact ⟨_,_,_,e⟩;exact ⟨_,_,_,e⟩);have rD:Hid (cC w ⟨A,a,some ⟨mb,mo,none⟩,b,I,i,73⟩ (w2.alloc (cS RR.2)) p RR.1 vo (.slice xa xn xc) hv):=HX;clear HX h2 f2)
  | (go_at_call 27;refine (FK w ⟨A,a,some ⟨mb,mo,none⟩,b,I,i,73⟩ Ak (show (73:TypeId)≠28 from by decide) p RR.1 RR.2 _ vo (.slice xa xn xc) hv rD.out PC.out.gh.thr.2).mono ?_;rintro e w3 ⟨rfl,h3,f3⟩;have F3:Hid (Fr w.heap.size 73 w1 w3):=(F2.out.trans (Fr.old dA ((Bl.refl w2).alloc _))).trans f3;have S3:Hid (mC w3 (w.heap.size+1) #[int i64 0,int i64 0,int i64 0,.slice none 0 0,int i64 0,int i64 0]):=⟨F3.out.keep _ _ _ _ S1.out.blk sI⟩;have s0:=aa (i:=0) S3.out.blk;have s1:=aa (i:=1) S3.out.blk;have s2:=aa (i:=2) S3.out.blk;have s3:=aa (i:=3) S3.out.blk;have s4:=aa (i:=4) S3.out.blk;have s5:=aa (i:=5) S3.out.blk;have sf:=ay S3.out.blk;have H3:Hid (cC w ⟨A,a,some ⟨mb,mo,none⟩,b,I,i,73⟩ w3 p (RR.1.doneH RR.2) vo (.slice xa xn xc) hv):=h3;clear h3 f3))
 refine bodyPost_ret (results_cell_tmp rfl _ _ (w.heap.size+1) _ _ _ _ (int i64 0) rfl rfl (S3.out.six (RR.1.doneH RR.2).sh (.slice xa xn xc)).blk Tryz.underlying28 rfl kJ) rfl ?_
 have hle:w.heap.size≤w.heap.size+1:=by omega
 have PD:=S3.out.cf (B:=w.heap.size) sI hle (int i64 (RR.1.doneH RR.2).sh.fin) (int i64 (RR.1.doneH RR.2).sh.value) (int i64 (RR.1.doneH RR.2).sh.cls) (.slice xa xn xc) (int i64 (RR.1.doneH RR.2).sh.used) (int i64 (RR.1.doneH RR.2).sh.steps)
 refine Su.out _ _ ⟨_,rfl,PD.row (.inr (.inr (.inr rfl))) H3.out.out,?_⟩
 exact Below.trans (Below.trans XG.out F3.out.bl) PD.bl
end Go.Proofs.YtimjmdfokicbkaaGreat
