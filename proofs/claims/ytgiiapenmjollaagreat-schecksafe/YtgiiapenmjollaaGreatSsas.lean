import Derived.Test.YtgiiapenmjollaaGreatSsar
namespace Go.Proofs.YtgiiapenmjollaaGreat
set_option linter.all false
set_option maxHeartbeats 40000000
set_option maxRecDepth 100000
open Go.RowKit
theorem run_all (w0:World) (g:Ad) (p:Nat):∀N,RunOk w0 g p N:=by
 intro N
 induction N using Nat.strongRecOn with
 | ind N IH =>
  intro h m P CC K pp cc kk A ac lb l w hH E ho hth gh hme hsm hok hl hg hA hac hN
  unfold runP
  cases hb:h.enterB m l
  ·rw [if_neg (by decide)]
   exact run_no w0 g p h m P CC K pp cc kk A ac lb l w hH E ho gh hme hl hg hA hb
  ·rw [if_pos rfl]
   exact run_yes w0 g p h m P CC K pp cc kk A ac lb l w hH E ho gh hme hsm hok hl hg hA hac hb hth N hN IH
def parV (t:Ty) (a:Int):Va:=⟨t.kind,if t.kind=1 then wrap32 a else a⟩
def parsV:List Ty→List Int→List Va
 | t::l,a::k=>parV t a::parsV l k
 | _,_=>[]
theorem parsV_length:∀(l:List Ty) (k:List Int),l.length=k.length→(parsV l k).length=l.length
 | [],[],_=>rfl
 | [],_::_,h=>by simp at h
 | _::_,[],h=>by simp at h
 | t::l,a::k,h=>by simp [parsV,parsV_length l k (by simpa using h)]
def anyRef (l:List Ty):Bool:=l.any fun t=>decide (t.kind=3)
def beginE (f:Fi) (entry:Int) (args input:List Int) (fuel:Int):Int :=
 if ¬(0≤entry∧entry≤(f.methods.length:Int)-1)∨¬(0≤fuel∧fuel≤60000) then 4
 else if 1000<input.length then 1
 else if args.length≠(nth me0 f.methods entry.toNat).params.length then 3
 else if anyRef (nth me0 f.methods entry.toNat).params=true then 3 else 0
abbrev fiB (f:Fi) (A B:Option Addr) (a b:Nat):Obj:=.cells #[.slice A f.classes.length a,.slice B f.methods.length b] 25
theorem begin_range (f:Fi) (A B I R:Option Addr) (a b i r:Nat) (entry fuel:Int) (args input:List Int) (w:World) (hm:f.methods.length≤maxLen) (he:¬(0≤entry∧entry≤(f.methods.length:Int)-1)∨¬(0≤fuel∧fuel≤60000)) :
  Calls Tryz.prog 25 #[fiV f.classes.length f.methods.length A B a b,.int .i64 entry,.slice R args.length r,.slice I input.length i,.int .i64 fuel] w fun e w'=>e=.returned (.tuple #[.pointer none,.slice none 0 0,.int .i64 4])∧Bl w w':=by
 unfold maxLen at hm
 by_cases h1:0≤entry∧entry≤(f.methods.length:Int)-1
 ·have d1:decide (0≤entry∧entry≤(f.methods.length:Int)-1)=true:=decide_eq_true h1
  have d2:decide (0≤fuel∧fuel≤60000)=false:=decide_eq_false (by omega)
  have H1:Hid (decide (0≤entry∧entry≤(f.methods.length:Int)-1)=true):=d1
  have H2:Hid (decide (0≤fuel∧fuel≤60000)=false):=d2
  clear d1 d2 h1 he
  go_enter Tryz.func25,Tryz.ntmps25
  go_wp2_with (first
   | (go_at_call_of 20 (Value.int IntKind.i64 60000);refine (within_any _ _ _ _).mono ?_;rintro e w1 ⟨he,hw1⟩;rw [H2.out] at he;subst he;rw [hw1];clear hw1 w1)
   | (go_at_call 20;refine (within_any _ _ _ _).mono ?_;rintro e w1 ⟨he,hw1⟩;rw [H1.out] at he;subst he;rw [hw1];clear hw1 w1))
  exact bodyPost_ret (v:=.tuple #[.pointer none,.slice none 0 0,.int .i64 4]) (by simp [results,Tryz.results25,go_sem]) rfl ⟨rfl,(Bl.refl w).alloc _⟩
 ·have H1:Hid (decide (0≤entry∧entry≤(f.methods.length:Int)-1)=false):=decide_eq_false h1
  clear h1 he
  go_enter Tryz.func25,Tryz.ntmps25
  go_wp2_with (go_at_call 20;refine (within_any _ _ _ _).mono ?_;rintro e w1 ⟨he,hw1⟩;rw [H1.out] at he;subst he;rw [hw1];clear hw1 w1)
  exact bodyPost_ret (v:=.tuple #[.pointer none,.slice none 0 0,.int .i64 4]) (by simp [results,Tryz.results25,go_sem]) rfl ⟨rfl,(Bl.refl w).alloc _⟩
theorem begin_size (f:Fi) (A B I R:Option Addr) (a b i r:Nat) (entry fuel:Int) (args input:List Int) (w:World) (hm:f.methods.length≤maxLen) (hi:input.length≤maxLen) (h1:0≤entry∧entry≤(f.methods.length:Int)-1) (h2:0≤fuel∧fuel≤60000) (h3:1000<input.length) :
  Calls Tryz.prog 25 #[fiV f.classes.length f.methods.length A B a b,.int .i64 entry,.slice R args.length r,.slice I input.length i,.int .i64 fuel] w fun e w'=>e=.returned (.tuple #[.pointer none,.slice none 0 0,.int .i64 1])∧Bl w w':=by
 unfold maxLen at hm hi
 have H1:Hid (decide (0≤entry∧entry≤(f.methods.length:Int)-1)=true):=decide_eq_true h1
 have H2:Hid (decide (0≤fuel∧fuel≤60000)=true):=decide_eq_true h2
 have d3:decide (1000<input.length)=true:=decide_eq_true h3
 clear h1 h2 
 go_enter Tryz.func25,Tryz.ntmps25
 go_wp2_with (first
  | (go_at_call_of 20 (Value.int IntKind.i64 60000);refine (within_any _ _ _ _).mono ?_;rintro e w1 ⟨he,hw1⟩;rw [H2.out] at he;subst he;rw [hw1];clear hw1 w1)
  | (go_at_call 20;refine (within_any _ _ _ _).mono ?_;rintro e w1 ⟨he,hw1⟩;rw [H1.out] at he;subst he;rw [hw1];clear hw1 w1))
 exact bodyPost_ret (v:=.tuple #[.pointer none,.slice none 0 0,.int .i64 1]) (by simp [results,Tryz.results25,go_sem]) rfl ⟨rfl,(Bl.refl w).alloc _⟩
theorem begin_len (f:Fi) (A B I R:Option Addr) (a b i r:Nat) (entry fuel:Int) (args input:List Int) (w:World) (hM:MesAt w B f.methods) (hi:input.length≤maxLen) (hr:args.length≤maxLen) (h1:0≤entry∧entry≤(f.methods.length:Int)-1) (h2:0≤fuel∧fuel≤60000) (h3:¬1000<input.length) (h4:args.length≠(nth me0 f.methods entry.toNat).params.length) :
  Calls Tryz.prog 25 #[fiV f.classes.length f.methods.length A B a b,.int .i64 entry,.slice R args.length r,.slice I input.length i,.int .i64 fuel] w fun e w'=>e=.returned (.tuple #[.pointer none,.slice none 0 0,.int .i64 3])∧Bl w w':=by
 unfold maxLen at hi
 obtain ⟨n,rfl⟩:∃n:Nat,entry=n:=⟨entry.toNat,by omega⟩
 have hnl:n<f.methods.length:=by omega
 have hmm:=hM.1
 unfold maxLen at hmm
 rw [Int.toNat_natCast] at *
 obtain ⟨mb,mo,P,CC,K,pp,cc,kk,hB,⟨z0,z1,z2,z3,z4,z5,z6,z7⟩,hme⟩:=mes_cells hM hnl
 subst hB
 have hmb:mb<w.heap.size:=cell_lt z0
 have bl0:Bl w (w.alloc (fiB f A (some ⟨mb,mo,none⟩) a b)):=(Bl.refl w).alloc _
 have y0:=bl0.cell z0
 have y1:=bl0.cell z1
 have y2:=bl0.cell z2
 have y3:=bl0.cell z3
 have y4:=bl0.cell z4
 have y5:=bl0.cell z5
 have y6:=bl0.cell z6
 have y7:=bl0.cell z7
 clear z0 z1 z2 z3 z4 z5 z6 z7 bl0
 have hmb1:mb<w.heap.size+1:=by omega
 have H1:Hid (decide (0≤(n:Int)∧(n:Int)≤(f.methods.length:Int)-1)=true):=decide_eq_true h1
 have H2:Hid (decide (0≤fuel∧fuel≤60000)=true):=decide_eq_true h2
 have d3:decide ((1000:Int)<(input.length:Int))=false:=decide_eq_false (by omega)
 have hn0:(0:Int)≤(n:Int):=by omega
 have hn1:(n:Int)<(f.methods.length:Int):=by omega
 have hpm:=hme.1.1
 unfold maxLen at hpm
 unfold maxLen at hr
 generalize nth me0 f.methods n=M at *
 have d4:((args.length:Int) !=(M.params.length:Int))=true:=by simp;omega
 clear h1 h2 h3 h4 hme hM
 go_enter Tryz.func25,Tryz.ntmps25
 go_wp2_with (first
  | (go_at_call_of 20 (Value.int IntKind.i64 60000);refine (within_any _ _ _ _).mono ?_;rintro e w1 ⟨he,hw1⟩;rw [H2.out] at he;subst he;rw [hw1];clear hw1 w1)
  | (go_at_call 20;refine (within_any _ _ _ _).mono ?_;rintro e w1 ⟨he,hw1⟩;rw [H1.out] at he;subst he;rw [hw1];clear hw1 w1))
 exact bodyPost_ret (v:=.tuple #[.pointer none,.slice none 0 0,.int .i64 3]) (by simp [results,Tryz.results25,go_sem]) rfl ⟨rfl,((Bl.refl w).alloc _).alloc _⟩
theorem pars_snoc (l:List Ty) (k:List Int) (q:Nat) (hq:q<l.length) (hl:l.length=k.length):parsV (l.take (q+1)) (k.take (q+1))=parsV (l.take q) (k.take q)++[parV (nth ty0 l q) (nth (0:Int) k q)]:=by
 induction l generalizing k q with
 | nil=>simp at hq
 | cons t l ih =>
  cases k with
  | nil=>simp at hl
  | cons a k =>
   cases q with
   | zero=>simp [parsV,nth]
   | succ q =>
    have:=ih k q (by simpa using hq) (by simpa using hl)
    have e1:nth ty0 (t::l) (q+1)=nth ty0 l q:=by simp [nth]
    have e2:nth (0:Int) (a::k) (q+1)=nth (0:Int) k q:=by simp [nth]
    rw [e1,e2]
    simp only [List.take_succ_cons,parsV,this,List.cons_append]
theorem pars_takeLen (l:List Ty) (k:List Int) (q:Nat) (hq:q≤l.length) (hl:l.length=k.length):(parsV (l.take q) (k.take q)).length=q:=by
 rw [parsV_length _ _ (by simp;omega)];simp;omega
def heap0 (f:Fi) (input:List Int) (fuel:Int):Hp:=⟨f,[],input,0,fuel,⟨0,0,0,[],0,0⟩,false,-1⟩
def BeginEnd (W0:World) (f:Fi) (A B I:Option Addr) (a b i:Nat) (fuel:Int) (input:List Int) (l:List Va) (w:World) (e:Ending) (w':World):Prop :=
 ∃p L lc,e=.returned (.tuple #[.pointer (some ⟨p,0,none⟩),.slice L l.length lc,.int .i64 0])∧HpAt W0 ⟨A,a,B,b,I,i,74⟩ w' p (heap0 f input fuel) (.slice none 0 0) (.slice none 0 0) []∧StkAt w.heap.size w' L l∧l.length≤lc∧Bl w w'
def BeginPost (W0:World) (f:Fi) (A B I:Option Addr) (a b i:Nat) (fuel:Int) (input:List Int) (ps:List Ty) (args:List Int) (w:World) (e:Ending) (w':World):Prop :=
 if anyRef ps=true then e=.returned (.tuple #[.pointer none,.slice none 0 0,.int .i64 3])∧Bl w w' else BeginEnd W0 f A B I a b i fuel input (parsV ps args) w e w'
theorem own_ge {w:World} {base:Nat} {e:TypeId} {size n:Nat} {v:Value} {xs:List Value} (h:w.ownsRow base e size v n xs) {k:Nat} (hk:v.ownBlock=some k):base≤k:=(h.lt k hk).1
theorem begin_go (W0:World) (f:Fi) (A B I R:Option Addr) (a b i r:Nat) (entry fuel:Int) (args input:List Int) (w:World) (hW:Bl W0 w) (hM:MesAt w B f.methods) (hi:input.length≤maxLen) (hR:IntsAt w R args) (h1:0≤entry∧entry≤(f.methods.length:Int)-1) (h2:0≤fuel∧fuel≤60000) (h3:¬1000<input.length) (h4:args.length=(nth me0 f.methods entry.toNat).params.length) (h5:(nth me0 f.methods entry.toNat).params.length≤4) :
  Calls Tryz.prog 25 #[fiV f.classes.length f.methods.length A B a b,.int .i64 entry,.slice R args.length r,.slice I input.length i,.int .i64 fuel] w fun e w' =>
   BeginPost W0 f A B I a b i fuel input (nth me0 f.methods entry.toNat).params args w e w':=by
 unfold maxLen at hi
 obtain ⟨n,rfl⟩:∃n:Nat,entry=n:=⟨entry.toNat,by omega⟩
 have hnl:n<f.methods.length:=by omega
 have hmm:=hM.1
 unfold maxLen at hmm
 rw [Int.toNat_natCast] at *
 obtain ⟨mb,mo,P,CC,K,pp,cc,kk,hB,⟨z0,z1,z2,z3,z4,z5,z6,z7⟩,hme⟩:=mes_cells hM hnl
 subst hB
 have hmb:mb<w.heap.size:=cell_lt z0
 have bl0:Bl w (w.alloc (fiB f A (some ⟨mb,mo,none⟩) a b)):=(Bl.refl w).alloc _
 have y0:=bl0.cell z0
 have y1:=bl0.cell z1
 have y2:=bl0.cell z2
 have y3:=bl0.cell z3
 have y4:=bl0.cell z4
 have y5:=bl0.cell z5
 have y6:=bl0.cell z6
 have y7:=bl0.cell z7
 clear z0 z1 z2 z3 z4 z5 z6 z7 bl0
 have hmb1:mb<w.heap.size+1:=by omega
 have H1:Hid (decide (0≤(n:Int)∧(n:Int)≤(f.methods.length:Int)-1)=true):=decide_eq_true h1
 have H2:Hid (decide (0≤fuel∧fuel≤60000)=true):=decide_eq_true h2
 have d3:decide ((1000:Int)<(input.length:Int))=false:=decide_eq_false (by omega)
 have hn0:(0:Int)≤(n:Int):=by omega
 have hn1:(n:Int)<(f.methods.length:Int):=by omega
 have hpm:=hme.1.1
 unfold maxLen at hpm
 obtain ⟨i0,hi0,hz0,hz1,hz2⟩:=info_parts info_va3
 generalize nth me0 f.methods n=M at *
 have d4:((args.length:Int) !=(M.params.length:Int))=false:=by simp;omega
 have HPT:Hid (∀wr,Bl w wr→TysAt wr P M.params):=fun wr hb=>hme.1.bl hb
 have HRT:Hid (∀wr,Bl w wr→IntsAt wr R args):=fun wr hb=>hR.bl hb
 have H4:Hid (args.length=M.params.length):=h4
 clear h1 h2 h3 hme hM hR h4
 have C0:Hid (((w.alloc (fiB f A (some ⟨mb,mo,none⟩) a b)).alloc (meBO M P CC K pp cc kk)).cell? ⟨w.heap.size+1,0,none⟩=some (.slice P M.params.length pp)):=cell_blk (blk_at (by simp))
 have C1:Hid (((w.alloc (fiB f A (some ⟨mb,mo,none⟩) a b)).alloc (meBO M P CC K pp cc kk)).cell? ⟨w.heap.size,0,none⟩=some (.slice A f.classes.length a)):=(cell_blk (blk_up (by simp) (blk_at rfl))).trans rfl
 have C2:Hid (((w.alloc (fiB f A (some ⟨mb,mo,none⟩) a b)).alloc (meBO M P CC K pp cc kk)).cell? ⟨w.heap.size,1,none⟩=some (.slice (some ⟨mb,mo,none⟩) f.methods.length b)):=(cell_blk (blk_up (by simp) (blk_at rfl))).trans rfl
 go_enter Tryz.func25,Tryz.ntmps25
 go_wp2_with (first
  | (go_at_call_of 20 (Value.int IntKind.i64 60000);refine (within_any _ _ _ _).mono ?_;rintro e w1 ⟨he,hw1⟩;rw [H2.out] at he;subst he;rw [hw1];clear hw1 w1)
  | (go_at_call 20;refine (within_any _ _ _ _).mono ?_;rintro e w1 ⟨he,hw1⟩;rw [H1.out] at he;subst he;rw [hw1];clear hw1 w1))
 go_loopw [14,15] (fun u i wr=>∃q:Nat,q≤M.params.length∧i=.int .i64 q∧Hid (Bl ((w.alloc (fiB f A (some ⟨mb,mo,none⟩) a b)).alloc (meBO M P CC K pp cc kk)) wr)∧wr.cell? ⟨w.heap.size+1,0,none⟩=some (.slice P M.params.length pp)∧wr.cell? ⟨w.heap.size,0,none⟩=some (.slice A f.classes.length a)∧wr.cell? ⟨w.heap.size,1,none⟩=some (.slice (some ⟨mb,mo,none⟩) f.methods.length b)∧w.heap.size+1<wr.heap.size∧Hid (wr.ownsRow (w.heap.size+2) 62 2 u q (vaCells (parsV (M.params.take q) (args.take q))))∧Hid (∀j,j<q→(nth ty0 M.params j).kind≠3)) (fun _ i _=>args.length-(intOf i).toNat)
 case atStart=>exact ⟨0,Nat.zero_le _,rfl,Bl.refl _,cell_blk (blk_at (by simp)),(cell_blk (blk_up (by simp) (blk_at rfl))).trans rfl,(cell_blk (blk_up (by simp) (blk_at rfl))).trans rfl,by simp,⟨rfl,Or.inl ⟨rfl,rfl⟩⟩,fun j hj=>absurd hj (by omega)⟩
 case round =>
  obtain ⟨q,hq,rfl,hgx,c0,g0,g1,hsz,hO,hk⟩:=hrel
  have hg:Hid (Bl w wr):=Bl.trans (((Bl.refl w).alloc _).alloc _) hgx.out
  by_cases hql:q<M.params.length
  ·have hql':q<args.length:=by rw [H4.out];exact hql
   rcases (HPT.out wr hg.out).2 with h0|⟨xb,xo,hPA,hcell⟩
   ·omega
   obtain ⟨t0,-⟩:=hcell q hql
   rcases (HRT.out wr hg.out).2 with h0|⟨rb,ro,hRA,hrc⟩
   ·omega
   have r0:=(hrc q hql').1
   rw [hPA] at c0
   have HPA:Hid (P=some ⟨xb,xo,none⟩):=hPA
   subst hRA
   have HSN:=pars_snoc M.params args q hql H4.out.symm
   have HSNH:Hid (parsV (M.params.take (q+1)) (args.take (q+1))=parsV (M.params.take q) (args.take q)++[parV (nth ty0 M.params q) (nth (0:Int) args q)]):=HSN
   have HALL:Hid ((nth ty0 M.params q).kind≠3→∀j,j<q+1→(nth ty0 M.params j).kind≠3):=fun h3 j hj=>by
    by_cases e:j=q
    ·rw [e];exact h3
    ·exact hk.out j (by omega)
   have HANY:Hid ((nth ty0 M.params q).kind=3→anyRef M.params=true):=fun h3=>by
    show anyRef M.params=true
    unfold anyRef
    rw [List.any_eq_true]
    exact ⟨_,nth_mem hql,decide_eq_true h3⟩
   have hxl:=cell_lt t0
   have hrl:=cell_lt r0
   have ham:args.length≤2 ^ 63-1:=by have:=H4.out;omega
   have hq0:(0:Int)≤(q:Int):=by omega
   have hq1:(q:Int)<(M.params.length:Int):=by omega
   have hq2:(q:Int)<(args.length:Int):=by omega
   clear hcell hrc hPA HSN hk
   generalize nth ty0 M.params q=t at *
   generalize nth (0:Int) args q=av at *
   by_cases h3:t.kind=3
   ·have hz:(t.kind==3)=true:=by simpa using h3
    have HA3:Hid (anyRef M.params=true):=HANY.out h3
    clear h3
    go_wp2
    refine bodyPost_ret (v:=.tuple #[.pointer none,.slice none 0 0,.int .i64 3]) (by simp [results,Tryz.results25,go_sem]) rfl ?_
    unfold BeginPost
    rw [if_pos HA3.out]
    exact ⟨rfl,hg.out⟩
   ·have hz:(t.kind==3)=false:=by simpa using h3
    have HNX:Hid (∀j,j<q+1→(nth ty0 M.params j).kind≠3):=HALL.out h3
    clear h3
    by_cases h1k:t.kind=1
    ·have HPV:Hid (parV t av=⟨1,wrap32 av⟩):=by show parV t av=_;unfold parV;rw [if_pos h1k,h1k]
     rw [h1k] at t0 hz
     clear h1k
     go_wp2
     go_region_held3 (fun w'=>w'.cell? ⟨w.heap.size+1,0,none⟩=some (.slice (some ⟨xb,xo,none⟩) M.params.length pp)∧w'.cell? ⟨xb,xo+q*2,none⟩=some (.int .i64 1)∧w'.cell? ⟨rb,ro+q,none⟩=some (.int .i64 av))
      (go_keep)
      (fail)
     go_wp2_with (first
      | (go_at_call 50;refine (rnarrow_any _ _).mono ?_;rintro e w3 ⟨rfl,hw3⟩;rw [hw3];clear hw3 w3)
      | (at_builtin;refine wpList_append_lies _ rfl (.tmp 76) (.tmp 78) 58 rfl (w.heap.size+2) 62 i0 _ 2 16 Tryz.underlying58 hi0 hz0 hz1 hz2 rfl (by omega) u14 q (vaCells (parsV (M.params.take q) (args.take q))) (by rfl) (by exact ((hO.out.alloc _).alloc _).drew) ⟨wr.heap.size+1,0,none⟩ 1 1 [.int .i64 1,.int .i64 (wrap32 av)] (by rfl) (by rfl) (World.news_of_block (cs:=#[.int .i64 1,.int .i64 (wrap32 av)]) (t:=62) (fr:=(0,0)) (blk_at (w:=wr.alloc (.cells #[.int .i64 1,.int .i64 (wrap32 av)] 62)) (by simp))) (by simp [Value.oneCell']) (by omega) (by unfold maxLen;omega) (by omega) (by simp;omega) (wr.heap.size+1+1) (by simp) ?_;intro gg cap w7 hown1 hgrow hat hlt;have hb7:Bl ((w.alloc (fiB f A (some ⟨mb,mo,none⟩) a b)).alloc (meBO M P CC K pp cc kk)) w7:=bl_grown (((hgx.out.alloc _).alloc _).drew) hgrow (fun k' hk'=>by have:=own_ge hO.out hk';simp;omega);have B7:Hid (Bl ((w.alloc (fiB f A (some ⟨mb,mo,none⟩) a b)).alloc (meBO M P CC K pp cc kk)) w7):=hb7;have e0:=hb7.cell C0.out;have e1:=hb7.cell C1.out;have e2:=hb7.cell C2.out;have e3:w.heap.size+2≤w7.heap.size:=(by have:=hb7.size;simp at this;omega)))
     go_roundw
     case rel=>exact ⟨q+1,by omega,by go_num,B7,e0,e1,e2,by omega,by
      show World.ownsRow _ _ _ _ _ _ _
      rw [HSNH.out,HPV.out,vaCells_append]
      exact hown1,HNX⟩
     case measure=>simp [intOf];omega
    ·have hk1z:(t.kind==1)=false:=by simpa using h1k
     have HPV:Hid (parV t av=⟨t.kind,av⟩):=by show parV t av=_;unfold parV;rw [if_neg h1k]
     clear h1k
     go_wp2
     go_region_held3 (fun w'=>w'.cell? ⟨w.heap.size+1,0,none⟩=some (.slice (some ⟨xb,xo,none⟩) M.params.length pp)∧w'.cell? ⟨xb,xo+q*2,none⟩=some (.int .i64 t.kind)∧w'.cell? ⟨rb,ro+q,none⟩=some (.int .i64 av))
      (go_keep)
      (fail)
     go_wp2_with (first
      | (at_builtin;refine wpList_append_lies _ rfl (.tmp 76) (.tmp 78) 58 rfl (w.heap.size+2) 62 i0 _ 2 16 Tryz.underlying58 hi0 hz0 hz1 hz2 rfl (by omega) u14 q (vaCells (parsV (M.params.take q) (args.take q))) (by rfl) (by exact ((hO.out.alloc _).alloc _).drew) ⟨wr.heap.size+1,0,none⟩ 1 1 [.int .i64 t.kind,.int .i64 av] (by rfl) (by rfl) (World.news_of_block (cs:=#[.int .i64 t.kind,.int .i64 av]) (t:=62) (fr:=(0,0)) (blk_at (w:=wr.alloc (.cells #[.int .i64 t.kind,.int .i64 av] 62)) (by simp))) (by simp [Value.oneCell']) (by omega) (by unfold maxLen;omega) (by omega) (by simp;omega) (wr.heap.size+1+1) (by simp) ?_;intro gg cap w7 hown1 hgrow hat hlt;have hb7:Bl ((w.alloc (fiB f A (some ⟨mb,mo,none⟩) a b)).alloc (meBO M P CC K pp cc kk)) w7:=bl_grown (((hgx.out.alloc _).alloc _).drew) hgrow (fun k' hk'=>by have:=own_ge hO.out hk';simp;omega);have B7:Hid (Bl ((w.alloc (fiB f A (some ⟨mb,mo,none⟩) a b)).alloc (meBO M P CC K pp cc kk)) w7):=hb7;have e0:=hb7.cell C0.out;have e1:=hb7.cell C1.out;have e2:=hb7.cell C2.out;have e3:w.heap.size+2≤w7.heap.size:=(by have:=hb7.size;simp at this;omega)))
     go_roundw
     case rel=>exact ⟨q+1,by omega,by go_num,B7,e0,e1,e2,by omega,by
      show World.ownsRow _ _ _ _ _ _ _
      rw [HSNH.out,HPV.out,vaCells_append]
      exact hown1,HNX⟩
     case measure=>simp [intOf];omega
  ·obtain rfl:q=M.params.length:=by omega
   have HNR:Hid (anyRef M.params=false):=by
    show anyRef M.params=false
    unfold anyRef
    rw [List.any_eq_false]
    intro x hx
    obtain ⟨j,hj,rfl⟩:=List.getElem_of_mem hx
    have:=hk.out j hj
    rw [nth_get hj] at this
    simpa using this
   have hlen:=pars_takeLen M.params args M.params.length (Nat.le_refl _) H4.out.symm
   rw [List.take_length,←H4.out,List.take_length,H4.out] at hlen
   have hO2:=hO.out
   rw [List.take_length,←H4.out,List.take_length,H4.out] at hO2
   obtain ⟨L,lc,rfl,hL1,hL2⟩:∃L lc,u14=.slice L M.params.length lc∧(∀wz,Bl wr wz→StkAt w.heap.size wz L (parsV M.params args))∧M.params.length≤lc:=by
    rcases hO2.2 with ⟨e1,e2⟩|⟨gb,cp,cur,e1,e2,e3,e4,-⟩
    ·exact ⟨none,0,by rw [e1,e2],fun wz hb=>Or.inl (by omega),by omega⟩
    ·subst e1
     exact ⟨_,cp,rfl,fun wz hb=>((own_stk hO2 (lb:=w.heap.size) (by omega) hlen.symm).1).keep fun b cs f e _=>(hb.block _ (lt_some e)).trans e,e4⟩
   have HL1:Hid (∀wz,Bl wr wz→StkAt w.heap.size wz L (parsV M.params args)):=hL1
   have HLEN:Hid ((parsV M.params args).length=M.params.length):=hlen
   have HL2:Hid (M.params.length≤lc):=hL2
   have hle4:args.length≤M.params.length:=by have:=H4.out;omega
   clear hO2 hlen hL1 hL2 hk
   go_wp2
   refine bodyPost_ret (v:=.tuple #[.pointer (some ⟨wr.heap.size,0,none⟩),.slice L M.params.length lc,.int .i64 0]) (by simp [results,Tryz.results25,go_sem]) rfl ?_
   unfold BeginPost
   rw [if_neg (by rw [HNR.out];decide)]
   have hWr:Bl W0 wr:=hW.trans hg.out
   refine ⟨wr.heap.size,L,lc,by rw [HLEN.out],⟨hWr.size,blk_at rfl,hWr.alloc _,⟨rfl,Or.inl ⟨rfl,rfl⟩⟩,⟨rfl,⟨rfl,Or.inl ⟨rfl,rfl⟩⟩,fun i hi=>absurd hi (by simp [heap0]),fun i j hi=>absurd hi (by simp [heap0])⟩⟩,HL1.out _ ((Bl.refl _).alloc _),by rw [HLEN.out];exact HL2.out,hg.out.alloc _⟩
def Hp.doneH (h:Hp) (v:Va):Hp :=
 if h.over=true then h
 else if 0≤h.thrown then { h with sh:={ h.sh with fin:=2,cls:=(h.obj h.thrown).cls } }
 else if v.kind=1∨v.kind=2 then { h with sh:={ h.sh with fin:=1,value:=v.n } } else { h with sh:={ h.sh with fin:=1 } }
abbrev shV (s:Sh) (vx:Value):Value:=.agg #[.int .i64 s.fin,.int .i64 s.value,.int .i64 s.cls,vx,.int .i64 s.used,.int .i64 s.steps]
abbrev shZ:Obj:=.cells #[.int .i64 0,.int .i64 0,.int .i64 0,.slice none 0 0,.int .i64 0,.int .i64 0] 28
theorem info_sh:(Tryz.prog.info? 28).map (·.size)=some 6:=by kernel_rfl
structure ShBox (w:World) (b:Nat) (cs:Array Value):Prop where
 blk:w.heap[b]?=some (.cells cs 28 (0,0))
theorem ShBox.six {w:World} {b:Nat} {a0 a1 a2 a3 a4 a5:Value} (h:ShBox w b #[a0,a1,a2,a3,a4,a5]) (s:Sh) (vx:Value) :
  ShBox ((((((w.setCell ⟨b,0,none⟩ (.int .i64 s.fin)).setCell ⟨b,1,none⟩ (.int .i64 s.value)).setCell ⟨b,2,none⟩ (.int .i64 s.cls)).setCell ⟨b,3,none⟩ vx).setCell ⟨b,4,none⟩ (.int .i64 s.used)).setCell ⟨b,5,none⟩ (.int .i64 s.steps)) b #[.int .i64 s.fin,.int .i64 s.value,.int .i64 s.cls,vx,.int .i64 s.used,.int .i64 s.steps] :=
 ⟨by rw [block_set (block_set (block_set (block_set (block_set (block_set h.blk _) _) _) _) _)];rfl⟩
theorem ShBox.cf {B:Nat} {T:TypeId} {w:World} {b:Nat} {cs:Array Value} (h:ShBox w b cs) (k:¬heapT T 28) (hB:B≤b) (a0 a1 a2 a3 a4 a5:Value) :
  Cf B T w ((((((w.setCell ⟨b,0,none⟩ a0).setCell ⟨b,1,none⟩ a1).setCell ⟨b,2,none⟩ a2).setCell ⟨b,3,none⟩ a3).setCell ⟨b,4,none⟩ a4).setCell ⟨b,5,none⟩ a5) :=
 ((((((Cf.refl B T w).set h.blk k hB a0).set (block_set h.blk _) k hB a1).set (block_set (block_set h.blk _) _) k hB a2).set (block_set (block_set (block_set h.blk _) _) _) k hB a3).set (block_set (block_set (block_set (block_set h.blk _) _) _) _) k hB a4).set (block_set (block_set (block_set (block_set (block_set h.blk _) _) _) _) _) k hB a5
theorem done_any (w0:World) (g:Ad) (k:Tk g.T) (hsh:g.T≠28) (p:Nat) (h:Hp) (v:Va) (w:World) (vo vx:Value) (hv:List Value) (H:HpAt w0 g w p h vo vx hv) (ht:h.thrown<h.objs.length) :
  Calls Tryz.prog 27 #[.pointer (some ⟨p,0,none⟩),vaV v] w fun e w'=>e=.returned (shV (h.doneH v).sh vx)∧HpAt w0 g w' p (h.doneH v) vo vx hv∧Fr w0.heap.size g.T w w':=by
 have hbs:=H.base
 have hpl:=lt_some H.blk
 have hpl1:p<w.heap.size+1:=by omega
 have HX:Hid (HpAt w0 g w p h vo vx hv):=H
 have HK:Hid (Tk g.T):=k
 have c:=H.cells
 have c6:=c.c6
 have c7:=c.c7
 have c8:=c.c8
 have c9:=c.c9
 have c10:=c.c10
 have c11:=c.c11
 have c12:=c.c12
 have c13:=c.c13
 have c2:=c.c2
 have f:=H.free
 clear H c
 obtain ⟨xa,xn,xc,rfl⟩:∃xa xn xc,vx=.slice xa xn xc:=by
  rcases HX.out.out.2 with ⟨e,-⟩|⟨gb,cp,cur,e,-⟩
  ·exact ⟨_,_,_,e⟩
  ·exact ⟨_,_,_,e⟩
 cases hov:h.over
 ·rw [hov] at c12
  by_cases h0:0≤h.thrown
  ·have hr:h.doneH v={ h with sh:={ h.sh with fin:=2,cls:=(h.obj h.thrown).cls } }:=by unfold Hp.doneH;rw [if_neg (by rw [hov];decide),if_pos h0]
   rw [hr]
   clear hr
   have hd:decide (0≤h.thrown)=true:=decide_eq_true h0
   obtain ⟨n,hn⟩:∃n:Nat,h.thrown=n:=⟨h.thrown.toNat,by omega⟩
   have hnl:n<h.objs.length:=by omega
   obtain ⟨gb,cap,hvo,-,hom,hcc⟩:=obs_cell HX.out.obs (by omega)
   have o1:=(hcc n hnl).1
   unfold maxLen at hom
   have HO:Hid ((h.obj h.thrown).cls=(nth ob0 h.objs n).cls):=by show (h.obj h.thrown).cls=_;unfold Hp.obj;rw [hn,Int.toNat_natCast]
   have hgp:gb≠p:=by
    intro e
    rcases HX.out.obs.row.2 with ⟨h1,h2⟩|⟨gb',cp',cur',h1,h2,h3,-⟩
    ·omega
    ·rw [hvo] at h1
     simp only [Value.slice.injEq,Option.some.injEq,Addr.mk.injEq] at h1
     obtain ⟨⟨rfl,-,-⟩,-,-⟩:=h1
     rw [e,HX.out.blk] at h3
     simp at h3
     exact HK.out.o h3.2
   have hgp':p≠gb:=Ne.symm hgp
   have hgl:=cell_lt o1
   have hgl1:gb<w.heap.size+1:=by omega
   have hn0:(0:Int)≤(n:Int):=by omega
   have hn1:(n:Int)<(h.objs.length:Int):=by omega
   rw [hvo] at c2
   have c13':=c13
   rw [hn] at c13'
   rw [hn] at hd
   have HN:Hid (h.thrown=n):=hn
   clear hcc hn c13 h0
   rw [HO.out]
   generalize (nth ob0 h.objs n).cls=X at *
   have H1:=HX.out.set HK.out (i:=6) (v:=.int .i64 2) { h with sh:={ h.sh with fin:=2 } } rfl rfl rfl
   have HH1:Hid (HpAt w0 g (w.setCell ⟨p,6,none⟩ (.int .i64 2)) p { h with sh:={ h.sh with fin:=2 } } vo (.slice xa xn xc) hv):=H1
   have bA:Bl (w.setCell ⟨p,6,none⟩ (.int .i64 2)) (((w.setCell ⟨p,6,none⟩ (.int .i64 2)).alloc (vaO v)).alloc shZ):=((Bl.refl _).alloc _).alloc _
   have a2:=bA.cell (H1.cells.c2)
   rw [hvo] at a2
   have a13:=bA.cell (H1.cells.c13)
   rw [show ({ h with sh:={ h.sh with fin:=2 } }:Hp).thrown=(n:Int) from HN.out] at a13
   have ao:(((w.setCell ⟨p,6,none⟩ (.int .i64 2)).alloc (vaO v)).alloc shZ).cell? ⟨gb,n*2,none⟩=some (.int .i64 X):=bA.cell ((World.cell?_of_block (block_far hgp _)).trans o1)
   have H2:=H1.set HK.out (i:=8) (v:=.int .i64 X) { h with sh:={ h.sh with fin:=2,cls:=X } } rfl rfl rfl
   have HH2:Hid (HpAt w0 g ((w.setCell ⟨p,6,none⟩ (.int .i64 2)).setCell ⟨p,8,none⟩ (.int .i64 X)) p { h with sh:={ h.sh with fin:=2,cls:=X } } vo (.slice xa xn xc) hv):=H2
   have bB:Bl ((w.setCell ⟨p,6,none⟩ (.int .i64 2)).setCell ⟨p,8,none⟩ (.int .i64 X)) ((((w.setCell ⟨p,6,none⟩ (.int .i64 2)).setCell ⟨p,8,none⟩ (.int .i64 X)).alloc (vaO v)).alloc shZ):=((Bl.refl _).alloc _).alloc _
   have b2:=bB.cell (H2.cells.c2)
   rw [hvo] at b2
   have b13:=bB.cell (H2.cells.c13)
   rw [show ({ h with sh:={ h.sh with fin:=2,cls:=X } }:Hp).thrown=(n:Int) from HN.out] at b13
   have bo:((((w.setCell ⟨p,6,none⟩ (.int .i64 2)).setCell ⟨p,8,none⟩ (.int .i64 X)).alloc (vaO v)).alloc shZ).cell? ⟨gb,n*2,none⟩=some (.int .i64 X):=bB.cell ((World.cell?_of_block (block_far hgp _)).trans ((World.cell?_of_block (block_far hgp _)).trans o1))
   have HOV:Hid (h.over=false):=hov
   clear H1 H2 bA bB hov hvo
   go_enter Tryz.func27,Tryz.ntmps27
   go_wp2
   go_region_held3 (fun w'=>w'.cell? ⟨p,2,none⟩=some (.slice (some ⟨gb,0,none⟩) h.objs.length cap)∧w'.cell? ⟨p,13,none⟩=some (.int .i64 (n:Int))∧w'.cell? ⟨gb,n*2,none⟩=some (.int .i64 X))
    (go_keep)
    (fail)
   go_wp2
   (try simp only [Exit.inBlock,Exit.then])
   have hfin:=fun (cs:Array Value)=>(blk_at (by simp):((((w.setCell ⟨p,6,none⟩ (.int .i64 2)).setCell ⟨p,8,none⟩ (.int .i64 X)).alloc (vaO v)).alloc (.cells cs 28)).heap[w.heap.size+1]?=some (.cells cs 28 (0,0)))
   refine bodyPost_ret (results_cell_row rfl _ _ (w.heap.size+1) _ _ _ _ rfl (hfin _) Tryz.underlying28 rfl info_sh) rfl ?_
   have FA:=(HX.out.frSet 6 (.int .i64 2)).trans (HH1.out.frSet 8 (.int .i64 X))
   exact ⟨rfl,HH2.out.old (((Bl.refl _).alloc _).alloc _).drew,FA.trans (Fr.old HH2.out.base (((Bl.refl _).alloc _).alloc _).drew)⟩
  ·have hd:decide (0≤h.thrown)=false:=decide_eq_false h0
   by_cases hk:v.kind=1∨v.kind=2
   ·have hr:h.doneH v={ h with sh:={ h.sh with fin:=1,value:=v.n } }:=by unfold Hp.doneH;rw [if_neg (by rw [hov];decide),if_neg h0,if_pos hk]
    rw [hr]
    have HOV:Hid (h.over=false):=hov
    clear hr hov
    obtain ⟨vk,vn⟩:=v
    dsimp only at *
    rcases hk with rfl|rfl
    ·go_enter Tryz.func27,Tryz.ntmps27
     go_wp2
     (try simp only [Exit.inBlock,Exit.then])
     refine bodyPost_ret (results_cell_row rfl _ _ (w.heap.size+1) _ _ _ _ rfl (blk_at (by simp)) Tryz.underlying28 rfl info_sh) rfl ?_
     have H1:=HX.out.set HK.out (i:=6) (v:=.int .i64 1) { h with sh:={ h.sh with fin:=1 } } rfl rfl rfl
     have H2:=H1.set HK.out (i:=7) (v:=.int .i64 vn) { h with sh:={ h.sh with fin:=1,value:=vn } } rfl rfl rfl
     have FA:=(HX.out.frSet 6 (.int .i64 1)).trans (H1.frSet 7 (.int .i64 vn))
     exact ⟨rfl,H2.old (((Bl.refl _).alloc _).alloc _),FA.trans (Fr.old H2.base (((Bl.refl _).alloc _).alloc _))⟩
    ·go_enter Tryz.func27,Tryz.ntmps27
     go_wp2
     (try simp only [Exit.inBlock,Exit.then])
     refine bodyPost_ret (results_cell_row rfl _ _ (w.heap.size+1) _ _ _ _ rfl (blk_at (by simp)) Tryz.underlying28 rfl info_sh) rfl ?_
     have H1:=HX.out.set HK.out (i:=6) (v:=.int .i64 1) { h with sh:={ h.sh with fin:=1 } } rfl rfl rfl
     have H2:=H1.set HK.out (i:=7) (v:=.int .i64 vn) { h with sh:={ h.sh with fin:=1,value:=vn } } rfl rfl rfl
     have FA:=(HX.out.frSet 6 (.int .i64 1)).trans (H1.frSet 7 (.int .i64 vn))
     exact ⟨rfl,H2.old (((Bl.refl _).alloc _).alloc _),FA.trans (Fr.old H2.base (((Bl.refl _).alloc _).alloc _))⟩
   ·have hr:h.doneH v={ h with sh:={ h.sh with fin:=1 } }:=by unfold Hp.doneH;rw [if_neg (by rw [hov];decide),if_neg h0,if_neg hk]
    rw [hr]
    have HOV:Hid (h.over=false):=hov
    clear hr hov
    have k1:(v.kind==1)=false:=by simp;omega
    have k2:(v.kind==2)=false:=by simp;omega
    clear hk
    go_enter Tryz.func27,Tryz.ntmps27
    go_wp2
    (try simp only [Exit.inBlock,Exit.then])
    refine bodyPost_ret (results_cell_row rfl _ _ (w.heap.size+1) _ _ _ _ rfl (blk_at (by simp)) Tryz.underlying28 rfl info_sh) rfl ?_
    have H1:=HX.out.set HK.out (i:=6) (v:=.int .i64 1) { h with sh:={ h.sh with fin:=1 } } rfl rfl rfl
    exact ⟨rfl,H1.old (((Bl.refl _).alloc _).alloc _),(HX.out.frSet 6 _).trans (Fr.old H1.base (((Bl.refl _).alloc _).alloc _))⟩
 ·rw [hov] at c12
  have hr:h.doneH v=h:=by unfold Hp.doneH;rw [if_pos hov]
  rw [hr]
  have HOV:Hid (h.over=true):=hov
  clear hr hov
  go_enter Tryz.func27,Tryz.ntmps27
  go_wp2
  (try simp only [Exit.inBlock,Exit.then])
  refine bodyPost_ret (results_cell_row rfl _ _ (w.heap.size+1) _ _ _ _ rfl (blk_at (by simp)) Tryz.underlying28 rfl info_sh) rfl ?_
  exact ⟨rfl,HX.out.old (((Bl.refl _).alloc _).alloc _),Fr.old hbs (((Bl.refl _).alloc _).alloc _)⟩
def sh0:Sh:=⟨0,0,0,[],0,0⟩
def playR (f:Fi) (entry:Int) (args input:List Int) (fuel:Int):Hp×Va:=runP (loopP fuel.toNat) (heap0 f input fuel) (nth me0 f.methods entry.toNat) (parsV (nth me0 f.methods entry.toNat).params args)
def playS (f:Fi) (entry:Int) (args input:List Int) (fuel:Int):Sh:=((playR f entry args input fuel).1.doneH (playR f entry args input fuel).2).sh
theorem tk_heap:Tk 74:=by constructor<;>decide
theorem may_flds {l:List Cl} (h:mayB l=true):∀d,d<l.length→(nth cl0 l d).fields.length≤6:=by
 intro d hd
 unfold mayB at h
 rw [Bool.and_eq_true,List.all_eq_true] at h
 have:=h.2 d (by simpa using hd)
 unfold clB at this
 rw [Bool.and_eq_true] at this
 have:=of_decide_eq_true this.1
 omega
theorem env0 {w:World} {f:Fi} {A B I:Option Addr} {a b i:Nat} {input:List Int} {fuel:Int} (hA:ClsAt w A f.classes) (hM:MesAt w B f.methods) (hI:IntsAt w I input) (hmay:smayB f=true):Env w ⟨A,a,B,b,I,i,74⟩ (heap0 f input fuel):=by
 unfold smayB at hmay
 rw [Bool.and_eq_true,Bool.and_eq_true,List.all_eq_true] at hmay
 obtain ⟨ht,h4,h12⟩:=may_tree hmay.1.1
 exact ⟨⟨tk_heap,hA,ht,h4,h12,may_flds hmay.1.1⟩,fun m hm=>⟨hmay.2 m hm,mes_ok hM m hm⟩,hM,hI⟩
theorem gh0 {f:Fi} {input:List Int} {fuel:Int} (hI:∀n∈input,I64 n) (hf:0≤fuel∧fuel≤60000):Gh 0 (heap0 f input fuel) :=
 ⟨fun o ho=>by simp [heap0] at ho,by simp [heap0],by simp [heap0],by simp [heap0];exact hf.1,hf,by simp [heap0],by simp [heap0],hI,by simp [heap0]⟩
theorem pars_gd (h:Hp):∀(l:List Ty) (k:List Int),(∀t∈l,t.kind≠3)→(∀n∈k,I64 n)→∀v∈parsV l k,GdV h v
 | [],_,_,_,v,hv=>by simp [parsV] at hv
 | _::_,[],_,_,v,hv=>by simp [parsV] at hv
 | t::l,a::k,h1,h2,v,hv=>by
  simp only [parsV,List.mem_cons] at hv
  rcases hv with rfl|hv
  ·refine ⟨fun e=>absurd e (h1 t (List.mem_cons_self ..)),?_⟩
   show I64 (if t.kind=1 then wrap32 a else a)
   split
   ·exact i64_w32 _
   ·exact h2 a (List.mem_cons_self ..)
  ·exact pars_gd h l k (fun x hx=>h1 x (List.mem_cons_of_mem _ hx)) (fun x hx=>h2 x (List.mem_cons_of_mem _ hx)) v hv
theorem results_cell_tmp {P:Program} {fn:Func} {p s:Tmp} {ty:TypeId} (h:fn.results=#[.cell p ty,.tmp s]) (tmps:Array Value) (w:World) (g:Nat) (t:TypeId) (cs:Array Value) (fr:Nat×Nat) (d:TypeDesc) (v:Value)
  (hp:tmps.getD p undef=.pointer (some ⟨g,0,none⟩)) (hs:tmps.getD s undef=v) (hg:w.heap[g]?=some (.cells cs t fr))
  (hu:P.underlying ty=some d) (hd:(match d with | .struct _ | .array _ _=>true|_=>false)=true) (hi:(P.info? ty).map (·.size)=some cs.size) :
  (results fn tmps).run P w=.ok (.tuple #[.agg cs,v]) w:=by
 have hp':tmps[p]?.getD undef=.pointer (some ⟨g,0,none⟩):=by simpa using hp
 have hs':tmps[s]?.getD undef=v:=by simpa using hs
 simp [results,h,hp',hs',asAddr,run_loadVar_row w g t ty cs fr d hg hu hd hi]
theorem begin_bad (f:Fi) (A B I R:Option Addr) (a b i r:Nat) (entry fuel:Int) (args input:List Int) (W0 w:World) (hW:Bl W0 w) (hM:MesAt w B f.methods) (hi:input.length≤maxLen) (hR:IntsAt w R args) (hmay:smayB f=true) (hE:beginE f entry args input fuel≠0) :
  Calls Tryz.prog 25 #[fiV f.classes.length f.methods.length A B a b,.int .i64 entry,.slice R args.length r,.slice I input.length i,.int .i64 fuel] w fun e w'=>e=.returned (.tuple #[.pointer none,.slice none 0 0,.int .i64 (beginE f entry args input fuel)])∧Bl w w':=by
 unfold beginE at hE ⊢
 split at hE
 ·rename_i h1
  rw [if_pos h1]
  exact begin_range f A B I R a b i r entry fuel args input w hM.1 h1
 ·rename_i h1
  rw [if_neg h1]
  have h1':(0≤entry∧entry≤(f.methods.length:Int)-1)∧(0≤fuel∧fuel≤60000):=by
   refine ⟨?_,?_⟩
   ·exact Classical.byContradiction fun hc=>h1 (Or.inl hc)
   ·exact Classical.byContradiction fun hc=>h1 (Or.inr hc)
  split at hE
  ·rename_i h2
   rw [if_pos h2]
   exact begin_size f A B I R a b i r entry fuel args input w hM.1 hi h1'.1 h1'.2 h2
  ·rename_i h2
   rw [if_neg h2]
   split at hE
   ·rename_i h3
    rw [if_pos h3]
    exact begin_len f A B I R a b i r entry fuel args input w hM hi hR.1 h1'.1 h1'.2 h2 h3
   ·rename_i h3
    rw [if_neg h3]
    split at hE
    ·rename_i h4
     rw [if_pos h4]
     have hp:(nth me0 f.methods entry.toNat).params.length≤4:=by
      unfold smayB at hmay
      rw [Bool.and_eq_true,List.all_eq_true] at hmay
      exact (smeP (hmay.2 _ (nth_mem (by omega)))).2.2.2.2.1
     refine (begin_go W0 f A B I R a b i r entry fuel args input w hW hM hi hR h1'.1 h1'.2 h2 (by omega) hp).mono fun e w' hh=>?_
     unfold BeginPost at hh
     rw [if_pos h4] at hh
     exact hh
    ·exact absurd rfl hE
theorem begin_fine (f:Fi) (A B I R:Option Addr) (a b i r:Nat) (entry fuel:Int) (args input:List Int) (W0 w:World) (hW:Bl W0 w) (hM:MesAt w B f.methods) (hi:input.length≤maxLen) (hR:IntsAt w R args) (hmay:smayB f=true) (hE:beginE f entry args input fuel=0) :
  (Calls Tryz.prog 25 #[fiV f.classes.length f.methods.length A B a b,.int .i64 entry,.slice R args.length r,.slice I input.length i,.int .i64 fuel] w fun e w'=>BeginEnd W0 f A B I a b i fuel input (parsV (nth me0 f.methods entry.toNat).params args) w e w')
  ∧ (0≤entry∧entry≤(f.methods.length:Int)-1)∧(0≤fuel∧fuel≤60000)∧args.length=(nth me0 f.methods entry.toNat).params.length∧anyRef (nth me0 f.methods entry.toNat).params=false:=by
 unfold beginE at hE
 split at hE
 ·exact absurd hE (by decide)
 rename_i h1
 have h1':(0≤entry∧entry≤(f.methods.length:Int)-1)∧(0≤fuel∧fuel≤60000):=by
  refine ⟨?_,?_⟩
  ·exact Classical.byContradiction fun hc=>h1 (Or.inl hc)
  ·exact Classical.byContradiction fun hc=>h1 (Or.inr hc)
 split at hE
 ·exact absurd hE (by decide)
 rename_i h2
 split at hE
 ·exact absurd hE (by decide)
 rename_i h3
 split at hE
 ·exact absurd hE (by decide)
 rename_i h4
 have hp:(nth me0 f.methods entry.toNat).params.length≤4:=by
  unfold smayB at hmay
  rw [Bool.and_eq_true,List.all_eq_true] at hmay
  exact (smeP (hmay.2 _ (nth_mem (by omega)))).2.2.2.2.1
 refine ⟨(begin_go W0 f A B I R a b i r entry fuel args input w hW hM hi hR h1'.1 h1'.2 h2 (by omega) hp).mono fun e w' hh=>?_,h1'.1,h1'.2,by omega,by simpa using h4⟩
 unfold BeginPost at hh
 rw [if_neg h4] at hh
 exact hh
theorem play_bad (f:Fi) (A B I R:Option Addr) (a b i r:Nat) (entry fuel:Int) (args input:List Int) (w:World) (hM:MesAt w B f.methods) (hi:input.length≤maxLen) (hR:IntsAt w R args) (hmay:smayB f=true) (hE:beginE f entry args input fuel≠0) :
  Calls Tryz.prog 10 #[fiV f.classes.length f.methods.length A B a b,.int .i64 entry,.slice R args.length r,.slice I input.length i,.int .i64 fuel] w fun e w'=>e=.returned (.tuple #[shV sh0 (.slice none 0 0),.int .i64 (beginE f entry args input fuel)])∧Bl w w':=by
 have bl0:Bl w ((w.alloc (fiB f A B a b)).alloc shZ):=((Bl.refl w).alloc _).alloc _
 have HB:Hid (Bl w ((w.alloc (fiB f A B a b)).alloc shZ)):=bl0
 have HC:Hid (Calls Tryz.prog 25 #[fiV f.classes.length f.methods.length A B a b,.int .i64 entry,.slice R args.length r,.slice I input.length i,.int .i64 fuel] ((w.alloc (fiB f A B a b)).alloc shZ) fun e w'=>e=.returned (.tuple #[.pointer none,.slice none 0 0,.int .i64 (beginE f entry args input fuel)])∧Bl ((w.alloc (fiB f A B a b)).alloc shZ) w') :=
  begin_bad f A B I R a b i r entry fuel args input w _ bl0 (hM.bl bl0) hi (hR.bl bl0) hmay hE
 have HS:Hid (ShBox ((w.alloc (fiB f A B a b)).alloc shZ) (w.heap.size+1) #[.int .i64 0,.int .i64 0,.int .i64 0,.slice none 0 0,.int .i64 0,.int .i64 0]):=⟨blk_at (by simp)⟩
 have hz:(beginE f entry args input fuel !=0)=true:=by simpa using hE
 clear hM hi hR hmay hE bl0
 generalize beginE f entry args input fuel=E at *
 go_enter Tryz.func10,Tryz.ntmps10
 go_wp2_with (go_at_call 25;refine HC.out.mono ?_;rintro e w1 ⟨rfl,b1⟩;have B1:Hid (Bl ((w.alloc (fiB f A B a b)).alloc shZ) w1):=b1;have S1:Hid (ShBox w1 (w.heap.size+1) #[.int .i64 0,.int .i64 0,.int .i64 0,.slice none 0 0,.int .i64 0,.int .i64 0]):=⟨(b1.block _ (lt_some HS.out.blk)).trans HS.out.blk⟩;have s0:=cell_blk (i:=0) S1.out.blk;have s1:=cell_blk (i:=1) S1.out.blk;have s2:=cell_blk (i:=2) S1.out.blk;have s3:=cell_blk (i:=3) S1.out.blk;have s4:=cell_blk (i:=4) S1.out.blk;have s5:=cell_blk (i:=5) S1.out.blk;have sf:=free_blk S1.out.blk;clear b1)
 refine bodyPost_ret (results_cell_tmp rfl _ _ (w.heap.size+1) _ _ _ _ (.int .i64 E) rfl rfl (S1.out.six sh0 (.slice none 0 0)).blk Tryz.underlying28 rfl info_sh) rfl ?_
 have hb:=HB.out.trans B1.out
 have hle:w.heap.size≤w.heap.size+1:=by omega
 exact ⟨rfl,(((((hb.setCell hle _).setCell hle _).setCell hle _).setCell hle _).setCell hle _).setCell hle _⟩
theorem not_shown:¬heapT 74 28:=by rintro (e|e|e|e)<;>exact absurd e (by decide)
def PlayEnd (f:Fi) (entry:Int) (args input:List Int) (fuel:Int) (w:World) (e:Ending) (w':World):Prop :=
 ∃vx,e=.returned (.tuple #[shV (playS f entry args input fuel) vx,.int .i64 0])∧w'.ownsRow w.heap.size 2 1 vx (playS f entry args input fuel).out.length ((playS f entry args input fuel).out.map (Value.int .i64))∧Bl w w'
theorem play_ok (f:Fi) (A B I R:Option Addr) (a b i r:Nat) (entry fuel:Int) (args input:List Int) (w:World) (hA:ClsAt w A f.classes) (hM:MesAt w B f.methods) (hI:IntsAt w I input) (hR:IntsAt w R args) (hmay:smayB f=true) (hE:beginE f entry args input fuel=0) :
  Calls Tryz.prog 10 #[fiV f.classes.length f.methods.length A B a b,.int .i64 entry,.slice R args.length r,.slice I input.length i,.int .i64 fuel] w fun e w'=>PlayEnd f entry args input fuel w e w':=by
 have bl0:Bl w ((w.alloc (fiB f A B a b)).alloc shZ):=((Bl.refl w).alloc _).alloc _
 have HB:Hid (Bl w ((w.alloc (fiB f A B a b)).alloc shZ)):=bl0
 obtain ⟨hc,h1,h2,h3,h4⟩:=begin_fine f A B I R a b i r entry fuel args input w _ bl0 (hM.bl bl0) hI.1 (hR.bl bl0) hmay hE
 have HC:Hid (Calls Tryz.prog 25 #[fiV f.classes.length f.methods.length A B a b,.int .i64 entry,.slice R args.length r,.slice I input.length i,.int .i64 fuel] ((w.alloc (fiB f A B a b)).alloc shZ) fun e w'=>BeginEnd w f A B I a b i fuel input (parsV (nth me0 f.methods entry.toNat).params args) ((w.alloc (fiB f A B a b)).alloc shZ) e w'):=hc
 have HS:Hid (ShBox ((w.alloc (fiB f A B a b)).alloc shZ) (w.heap.size+1) #[.int .i64 0,.int .i64 0,.int .i64 0,.slice none 0 0,.int .i64 0,.int .i64 0]):=⟨blk_at (by simp)⟩
 have HFB:Hid (((w.alloc (fiB f A B a b)).alloc shZ).heap[w.heap.size]?=some (fiB f A B a b)):=blk_up (by simp) (blk_at rfl)
 obtain ⟨n,rfl⟩:∃n:Nat,entry=n:=⟨entry.toNat,by omega⟩
 have hnl:n<f.methods.length:=by omega
 obtain ⟨mb,mo,P,CC,K,pp,cc,kk,hB,HZ,hme⟩:=mes_cells hM hnl
 subst hB
 have HZH:Hid (_):=HZ
 have hsm:smeB f.classes f.methods.length (nth me0 f.methods n)=true∧∀i∈(nth me0 f.methods n).code,i.ok:=by
  unfold smayB at hmay
  rw [Bool.and_eq_true,List.all_eq_true] at hmay
  exact ⟨hmay.2 _ (nth_mem hnl),mes_ok hM _ (nth_mem hnl)⟩
 have hgd:∀v∈parsV (nth me0 f.methods n).params args,GdV (heap0 f input fuel) v:=pars_gd _ _ _ (fun t ht e=>by
  rw [Int.toNat_natCast] at h4
  unfold anyRef at h4
  rw [List.any_eq_false] at h4
  exact absurd (decide_eq_true e) (h4 t ht)) (ints_ok hR)
 have EV:=env0 (a:=a) (b:=b) (i:=i) (fuel:=fuel) hA hM hI hmay
 have GH:=gh0 (f:=f) (ints_ok hI) h2
 have hpl:(parsV (nth me0 f.methods n).params args).length=(nth me0 f.methods n).params.length:=parsV_length _ _ (by rw [Int.toNat_natCast] at h3;omega)
 have HR:Hid (∀(p:Nat) (L:Option Addr) (lc lb:Nat) (w1:World),Hs w ⟨A,a,some ⟨mb,mo,none⟩,b,I,i,74⟩ w1 p (heap0 f input fuel)→StkAt lb w1 L (parsV (nth me0 f.methods n).params args)→(parsV (nth me0 f.methods n).params args).length≤lc→Calls Tryz.prog 26 #[.pointer (some ⟨p,0,none⟩),meV (nth me0 f.methods n) P CC K pp cc kk,.slice L (parsV (nth me0 f.methods n).params args).length lc] w1 fun e w' =>
   e=.returned (vaV (playR f (n:Int) args input fuel).2)∧Hs w ⟨A,a,some ⟨mb,mo,none⟩,b,I,i,74⟩ w' p (playR f (n:Int) args input fuel).1∧Fr w.heap.size 74 w1 w'):=fun p L lc lb w1 hs1 st1 hlc =>
  run_all w ⟨A,a,some ⟨mb,mo,none⟩,b,I,i,74⟩ p fuel.toNat (heap0 f input fuel) (nth me0 f.methods n) P CC K pp cc kk L lc lb _ w1 hs1 EV rfl rfl GH hme hsm.1 hsm.2 hpl hgd st1 hlc (by show (fuel-0).toNat≤fuel.toNat;simp)
 have HKEPT:Hid (Left' (heap0 f input fuel) (playR f (n:Int) args input fuel) 0):=run_kept (loop_kept f EV.may fuel.toNat) rfl GH rfl rfl hsm.1 hsm.2 hpl hgd
 have hmm:=hM.1
 unfold maxLen at hmm
 have hn0:(0:Int)≤(n:Int):=by omega
 have hn1:(n:Int)<(f.methods.length:Int):=by omega
 rw [Int.toNat_natCast] at *
 have HPD:Hid (playS f (n:Int) args input fuel=((playR f (n:Int) args input fuel).1.doneH (playR f (n:Int) args input fuel).2).sh):=rfl
 have HEND:Hid (∀e w',(∃vx,e=Ending.returned (.tuple #[shV ((playR f (n:Int) args input fuel).1.doneH (playR f (n:Int) args input fuel).2).sh vx,.int .i64 0])∧w'.ownsRow w.heap.size 2 1 vx ((playR f (n:Int) args input fuel).1.doneH (playR f (n:Int) args input fuel).2).sh.out.length (((playR f (n:Int) args input fuel).1.doneH (playR f (n:Int) args input fuel).2).sh.out.map (Value.int .i64))∧Bl w w')→PlayEnd f (n:Int) args input fuel w e w'):=fun e w' hh=>hh
 clear hA hM hI hR hmay hE hc h1 h2 h3 h4 hsm hgd EV GH hpl hme bl0 HZ HPD
 generalize (parsV (nth me0 f.methods n).params args)=l at *
 generalize nth me0 f.methods n=M at *
 generalize hR1:(playR f (n:Int) args input fuel)=RR at *
 clear hR1
 go_enter Tryz.func10,Tryz.ntmps10
 go_wp2_with (first
  | (go_at_call 25;refine HC.out.mono ?_;rintro e w1 ⟨p,L,lc,rfl,hp1,st1,hlc,b1⟩;have B1:Hid (Bl ((w.alloc (fiB f A (some ⟨mb,mo,none⟩) a b)).alloc shZ) w1):=b1;have f1:=(b1.block _ (lt_some HFB.out)).trans HFB.out;have fc1:=cell_blk (i:=1) f1;obtain ⟨y0,y1,y2,y3,y4,y5,y6,y7⟩:=HZH.out;have bw:=HB.out.trans b1;have x0:=bw.cell y0;have x1:=bw.cell y1;have x2:=bw.cell y2;have x3:=bw.cell y3;have x4:=bw.cell y4;have x5:=bw.cell y5;have x6:=bw.cell y6;have x7:=bw.cell y7;have HP1:Hid (Hs w ⟨A,a,some ⟨mb,mo,none⟩,b,I,i,74⟩ w1 p (heap0 f input fuel)):=⟨_,_,_,hp1⟩;have ST1:Hid (StkAt ((w.alloc (fiB f A (some ⟨mb,mo,none⟩) a b)).alloc shZ).heap.size w1 L l):=st1;have S1:Hid (ShBox w1 (w.heap.size+1) #[.int .i64 0,.int .i64 0,.int .i64 0,.slice none 0 0,.int .i64 0,.int .i64 0]):=⟨(b1.block _ (lt_some HS.out.blk)).trans HS.out.blk⟩;have BW1:Hid (Bl w w1):=bw;clear y0 y1 y2 y3 y4 y5 y6 y7 bw b1 f1 hp1 st1)
  | (go_at_call 26;refine (HR.out p L lc _ w1 HP1.out ST1.out hlc).mono ?_;rintro e w2 ⟨rfl,h2,f2⟩;have F2:Hid (Fr w.heap.size 74 w1 w2):=f2;have hb2:=h2.base;obtain ⟨vo,vx,hv,HX⟩:=h2.old ((Bl.refl w2).alloc (vaO RR.2));obtain ⟨xa,xn,xc,rfl⟩:∃xa xn xc,vx=.slice xa xn xc:=(by rcases HX.out.2 with ⟨e,-⟩|⟨gb,cp,cur,e,-⟩;exact ⟨_,_,_,e⟩;exact ⟨_,_,_,e⟩);have HXA:Hid (HpAt w ⟨A,a,some ⟨mb,mo,none⟩,b,I,i,74⟩ (w2.alloc (vaO RR.2)) p RR.1 vo (.slice xa xn xc) hv):=HX;clear HX h2 f2)
  | (go_at_call 27;refine (done_any w ⟨A,a,some ⟨mb,mo,none⟩,b,I,i,74⟩ tk_heap (show (74:TypeId)≠28 from by decide) p RR.1 RR.2 _ vo (.slice xa xn xc) hv HXA.out HKEPT.out.gh.thr.2).mono ?_;rintro e w3 ⟨rfl,h3,f3⟩;have F3:Hid (Fr w.heap.size 74 w1 w3):=(F2.out.trans (Fr.old hb2 ((Bl.refl w2).alloc _))).trans f3;have S3:Hid (ShBox w3 (w.heap.size+1) #[.int .i64 0,.int .i64 0,.int .i64 0,.slice none 0 0,.int .i64 0,.int .i64 0]):=⟨F3.out.keep _ _ _ _ S1.out.blk not_shown⟩;have s0:=cell_blk (i:=0) S3.out.blk;have s1:=cell_blk (i:=1) S3.out.blk;have s2:=cell_blk (i:=2) S3.out.blk;have s3:=cell_blk (i:=3) S3.out.blk;have s4:=cell_blk (i:=4) S3.out.blk;have s5:=cell_blk (i:=5) S3.out.blk;have sf:=free_blk S3.out.blk;have H3:Hid (HpAt w ⟨A,a,some ⟨mb,mo,none⟩,b,I,i,74⟩ w3 p (RR.1.doneH RR.2) vo (.slice xa xn xc) hv):=h3;clear h3 f3))
 refine bodyPost_ret (results_cell_tmp rfl _ _ (w.heap.size+1) _ _ _ _ (.int .i64 0) rfl rfl (S3.out.six (RR.1.doneH RR.2).sh (.slice xa xn xc)).blk Tryz.underlying28 rfl info_sh) rfl ?_
 have hle:w.heap.size≤w.heap.size+1:=by omega
 have hcf:=S3.out.cf (B:=w.heap.size) not_shown hle (.int .i64 (RR.1.doneH RR.2).sh.fin) (.int .i64 (RR.1.doneH RR.2).sh.value) (.int .i64 (RR.1.doneH RR.2).sh.cls) (.slice xa xn xc) (.int .i64 (RR.1.doneH RR.2).sh.used) (.int .i64 (RR.1.doneH RR.2).sh.steps)
 refine HEND.out _ _ ⟨_,rfl,hcf.row (.inr (.inr (.inr rfl))) H3.out.out,?_⟩
 exact Below.trans (Below.trans BW1.out F3.out.bl) hcf.bl
end Go.Proofs.YtgiiapenmjollaaGreat
