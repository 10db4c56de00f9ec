import Derived.Test.YtgiiapenmjollabGreatRsbe
import Derived.Test.YtgiiapenmjollabGreatRsbp
namespace Go.Proofs.YtgiiapenmjollabGreat
set_option linter.all false
set_option maxHeartbeats 40000000
set_option maxRecDepth 100000
open Go.RowKit
theorem run_all (w0:World) (g:Ad) (p:Nat):∀N,RunOk w0 g p N:=by
 intro N
 induction N using Nat.strongRecOn with
 | ind N IH =>
  intro h m P CC K pp cc kk A ac lb l w hH E ho hth gh kd hme hsm hok hl hg hA hac hN
  unfold runP
  cases hb:h.enterB m l
  ·rw [if_neg (by decide)]
   exact run_no w0 g p h m P CC K pp cc kk A ac lb l w hH E ho gh hme hl hg hA hb
  ·rw [if_pos rfl]
   exact run_yes w0 g p h m P CC K pp cc kk A ac lb l w hH E ho gh hme hl hg hA kd hsm hok hac hb hth N hN IH
def sh0:Sh:=⟨0,0,0,[],0,0⟩
def playR (f:Fi) (entry:Int) (args input:List Int) (fuel:Int):Hp×Va:=runP (loopP fuel.toNat) (heap0 f input fuel) (nth me0 f.methods entry.toNat) (parsV (nth me0 f.methods entry.toNat).params args)
def playS (f:Fi) (entry:Int) (args input:List Int) (fuel:Int):Sh:=((playR f entry args input fuel).1.doneH (playR f entry args input fuel).2).sh
theorem may_flds {l:List Cl} (h:mayB l=true):∀d,d<l.length→(nth cl0 l d).fields.length≤6:=by
 intro d hd
 unfold mayB at h
 rw [Bool.and_eq_true,List.all_eq_true] at h
 have:=h.2 d (by simpa using hd)
 unfold clB at this
 rw [Bool.and_eq_true] at this
 have:=of_decide_eq_true this.1
 omega
theorem rmay_six {l:List Cl} (h:mayB l=true) {d:Nat} (hd:d<l.length):l.length≤12∧(nth cl0 l d).fields.length≤6∧∀t∈(nth cl0 l d).fields,tyB l.length t=true:=by
 unfold mayB at h
 rw [Bool.and_eq_true,List.all_eq_true] at h
 have h1:=of_decide_eq_true h.1
 have h2:=h.2 d (by simpa using hd)
 unfold clB at h2
 rw [Bool.and_eq_true,List.all_eq_true] at h2
 have h3:=of_decide_eq_true h2.1
 exact ⟨h1.2.1,h3.2,h2.2⟩
theorem rfieldT_nat (cs:List Cl) (c k:Nat):fieldT cs (c:Int) (k:Int)=nth ty0 (nth cl0 cs c).fields k:=by unfold fieldT;rw [Int.toNat_natCast,Int.toNat_natCast]
theorem rfield_kind {l:List Cl} (h:mayB l=true) {c k:Nat} (hc:c<l.length) (hk:k<(nth cl0 l c).fields.length):1≤(fieldT l (c:Int) (k:Int)).kind∧(fieldT l (c:Int) (k:Int)).kind≤3:=by
 rw [rfieldT_nat]
 exact ty_kind ((rmay_six h hc).2.2 _ (nth_mem hk))
theorem tk_heap7:Tk 80:=by constructor<;>decide
theorem rmay_f {f:Fi} (h:rfmayB f=true):mayB f.classes=true∧(1≤f.methods.length∧f.methods.length≤8)∧∀m∈f.methods,rmeB f.classes f.methods m=true:=by
 unfold rfmayB at h
 rw [Bool.and_eq_true,Bool.and_eq_true,List.all_eq_true] at h
 exact ⟨h.1.1,of_decide_eq_true h.1.2,h.2⟩
theorem rmayC {cs:List Cl} (h:mayB cs=true):MayC cs:=by
 intro c k hc hk
 have:=rfield_kind h (c:=c.toNat) (k:=k.toNat) (by omega) (by omega)
 rw [Int.toNat_of_nonneg hc.1,Int.toNat_of_nonneg hk.1] at this
 omega
theorem env0 {w:World} {f:Fi} {A B I:Option Addr} {a b i:Nat} {input:List Int} {fuel:Int} (hA:ClsAt w A f.classes) (hM:MesAt w B f.methods) (hI:IntsAt w I input) (hmay:rfmayB f=true):Env w ⟨A,a,B,b,I,i,80⟩ (heap0 f input fuel):=by
 obtain ⟨m1,m2,m3⟩:=rmay_f hmay
 obtain ⟨ht,h4,h12⟩:=may_tree m1
 exact ⟨⟨⟨tk_heap7,hA,ht,h4,h12,may_flds m1⟩,rfl⟩,⟨rmayC m1,fun m hm=>⟨m3 m hm,mes_ok hM m hm⟩⟩,hM,hI⟩
theorem gh0 {f:Fi} {input:List Int} {fuel:Int} (hI:∀n∈input,I64 n) (hf:0≤fuel∧fuel≤60000):Gh 0 (heap0 f input fuel) :=
 ⟨fun o ho=>by simp [heap0] at ho,by simp [heap0],by simp [heap0],by simp [heap0];exact hf.1,hf,by simp [heap0],by simp [heap0],hI,by simp [heap0]⟩
theorem pars_gd (h:Hp):∀(l:List Ty) (k:List Int),(∀t∈l,t.kind≠3)→(∀n∈k,I64 n)→∀v∈parsV l k,GdV h v
 | [],_,_,_,v,hv=>by simp [parsV] at hv
 | _::_,[],_,_,v,hv=>by simp [parsV] at hv
 | t::l,a::k,h1,h2,v,hv=>by
  simp only [parsV,List.mem_cons] at hv
  rcases hv with rfl|hv
  ·refine ⟨fun e=>absurd e (h1 t (List.mem_cons_self ..)),?_⟩
   show I64 (if t.kind=1 then wrap32 a else a)
   split
   ·exact i64_w32 _
   ·exact h2 a (List.mem_cons_self ..)
  ·exact pars_gd h l k (fun x hx=>h1 x (List.mem_cons_of_mem _ hx)) (fun x hx=>h2 x (List.mem_cons_of_mem _ hx)) v hv
theorem results_cell_tmp {P:Program} {fn:Func} {p s:Tmp} {ty:TypeId} (h:fn.results=#[.cell p ty,.tmp s]) (tmps:Array Value) (w:World) (g:Nat) (t:TypeId) (cs:Array Value) (fr:Nat×Nat) (d:TypeDesc) (v:Value)
  (hp:tmps.getD p undef=.pointer (some ⟨g,0,none⟩)) (hs:tmps.getD s undef=v) (hg:w.heap[g]?=some (.cells cs t fr))
  (hu:P.underlying ty=some d) (hd:(match d with | .struct _ | .array _ _=>true|_=>false)=true) (hi:(P.info? ty).map (·.size)=some cs.size) :
  (results fn tmps).run P w=.ok (.tuple #[.agg cs,v]) w:=by
 have hp':tmps[p]?.getD undef=.pointer (some ⟨g,0,none⟩):=by simpa using hp
 have hs':tmps[s]?.getD undef=v:=by simpa using hs
 simp [results,h,hp',hs',asAddr,run_loadVar_row w g t ty cs fr d hg hu hd hi]
theorem begin_bad (f:Fi) (A B I R:Option Addr) (a b i r:Nat) (entry fuel:Int) (args input:List Int) (W0 w:World) (hW:Bl W0 w) (hM:MesAt w B f.methods) (hi:input.length≤maxLen) (hR:IntsAt w R args) (hmay:rfmayB f=true) (hE:beginE f entry args input fuel≠0) :
  Calls Tryz.prog 40 #[fiV f.classes.length f.methods.length A B a b,.int .i64 entry,.slice R args.length r,.slice I input.length i,.int .i64 fuel] w fun e w'=>e=.returned (.tuple #[.pointer none,.slice none 0 0,.int .i64 (beginE f entry args input fuel)])∧Bl w w':=by
 unfold beginE at hE ⊢
 split at hE
 ·rename_i h1
  rw [if_pos h1]
  exact begin_range f A B I R a b i r entry fuel args input w hM.1 h1
 ·rename_i h1
  rw [if_neg h1]
  have h1':(0≤entry∧entry≤(f.methods.length:Int)-1)∧(0≤fuel∧fuel≤60000):=by
   refine ⟨?_,?_⟩
   ·exact Classical.byContradiction fun hc=>h1 (Or.inl hc)
   ·exact Classical.byContradiction fun hc=>h1 (Or.inr hc)
  split at hE
  ·rename_i h2
   rw [if_pos h2]
   exact begin_size f A B I R a b i r entry fuel args input w hM.1 hi h1'.1 h1'.2 h2
  ·rename_i h2
   rw [if_neg h2]
   split at hE
   ·rename_i h3
    rw [if_pos h3]
    exact begin_len f A B I R a b i r entry fuel args input w hM hi hR.1 h1'.1 h1'.2 h2 h3
   ·rename_i h3
    rw [if_neg h3]
    split at hE
    ·rename_i h4
     rw [if_pos h4]
     have hp:(nth me0 f.methods entry.toNat).params.length≤4:=by
      exact (smeP ((rmay_f hmay).2.2 _ (nth_mem (by omega)))).2.2.2.1
     refine (begin_go W0 f A B I R a b i r entry fuel args input w hW hM hi hR h1'.1 h1'.2 h2 (by omega) hp).mono fun e w' hh=>?_
     unfold BeginPost at hh
     rw [if_pos h4] at hh
     exact hh
    ·exact absurd rfl hE
theorem begin_fine (f:Fi) (A B I R:Option Addr) (a b i r:Nat) (entry fuel:Int) (args input:List Int) (W0 w:World) (hW:Bl W0 w) (hM:MesAt w B f.methods) (hi:input.length≤maxLen) (hR:IntsAt w R args) (hmay:rfmayB f=true) (hE:beginE f entry args input fuel=0) :
  (Calls Tryz.prog 40 #[fiV f.classes.length f.methods.length A B a b,.int .i64 entry,.slice R args.length r,.slice I input.length i,.int .i64 fuel] w fun e w'=>BeginEnd W0 f A B I a b i fuel input (parsV (nth me0 f.methods entry.toNat).params args) w e w')
  ∧ (0≤entry∧entry≤(f.methods.length:Int)-1)∧(0≤fuel∧fuel≤60000)∧args.length=(nth me0 f.methods entry.toNat).params.length∧anyRef (nth me0 f.methods entry.toNat).params=false:=by
 unfold beginE at hE
 split at hE
 ·exact absurd hE (by decide)
 rename_i h1
 have h1':(0≤entry∧entry≤(f.methods.length:Int)-1)∧(0≤fuel∧fuel≤60000):=by
  refine ⟨?_,?_⟩
  ·exact Classical.byContradiction fun hc=>h1 (Or.inl hc)
  ·exact Classical.byContradiction fun hc=>h1 (Or.inr hc)
 split at hE
 ·exact absurd hE (by decide)
 rename_i h2
 split at hE
 ·exact absurd hE (by decide)
 rename_i h3
 split at hE
 ·exact absurd hE (by decide)
 rename_i h4
 have hp:(nth me0 f.methods entry.toNat).params.length≤4:=by
  exact (smeP ((rmay_f hmay).2.2 _ (nth_mem (by omega)))).2.2.2.1
 refine ⟨(begin_go W0 f A B I R a b i r entry fuel args input w hW hM hi hR h1'.1 h1'.2 h2 (by omega) hp).mono fun e w' hh=>?_,h1'.1,h1'.2,by omega,by simpa using h4⟩
 unfold BeginPost at hh
 rw [if_neg h4] at hh
 exact hh
theorem play_bad (f:Fi) (A B I R:Option Addr) (a b i r:Nat) (entry fuel:Int) (args input:List Int) (w:World) (hM:MesAt w B f.methods) (hi:input.length≤maxLen) (hR:IntsAt w R args) (hmay:rfmayB f=true) (hE:beginE f entry args input fuel≠0) :
  Calls Tryz.prog 18 #[fiV f.classes.length f.methods.length A B a b,.int .i64 entry,.slice R args.length r,.slice I input.length i,.int .i64 fuel] w fun e w'=>e=.returned (.tuple #[shV sh0 (.slice none 0 0),.int .i64 (beginE f entry args input fuel)])∧Bl w w':=by
 have bl0:Bl w ((w.alloc (fiB f A B a b)).alloc shZ):=((Bl.refl w).alloc _).alloc _
 have HB:Hid (Bl w ((w.alloc (fiB f A B a b)).alloc shZ)):=bl0
 have HC:Hid (Calls Tryz.prog 40 #[fiV f.classes.length f.methods.length A B a b,.int .i64 entry,.slice R args.length r,.slice I input.length i,.int .i64 fuel] ((w.alloc (fiB f A B a b)).alloc shZ) fun e w'=>e=.returned (.tuple #[.pointer none,.slice none 0 0,.int .i64 (beginE f entry args input fuel)])∧Bl ((w.alloc (fiB f A B a b)).alloc shZ) w') :=
  begin_bad f A B I R a b i r entry fuel args input w _ bl0 (hM.bl bl0) hi (hR.bl bl0) hmay hE
 have HS:Hid (ShBox ((w.alloc (fiB f A B a b)).alloc shZ) (w.heap.size+1) #[.int .i64 0,.int .i64 0,.int .i64 0,.slice none 0 0,.int .i64 0,.int .i64 0]):=⟨blk_at (by simp)⟩
 have hz:(beginE f entry args input fuel !=0)=true:=by simpa using hE
 clear hM hi hR hmay hE bl0
 generalize beginE f entry args input fuel=E at *
 go_enter Tryz.func18,Tryz.ntmps18
 go_wp2_with (go_at_call 40;refine HC.out.mono ?_;rintro e w1 ⟨rfl,b1⟩;have B1:Hid (Bl ((w.alloc (fiB f A B a b)).alloc shZ) w1):=b1;have S1:Hid (ShBox w1 (w.heap.size+1) #[.int .i64 0,.int .i64 0,.int .i64 0,.slice none 0 0,.int .i64 0,.int .i64 0]):=⟨(b1.block _ (lt_some HS.out.blk)).trans HS.out.blk⟩;have s0:=cell_blk (i:=0) S1.out.blk;have s1:=cell_blk (i:=1) S1.out.blk;have s2:=cell_blk (i:=2) S1.out.blk;have s3:=cell_blk (i:=3) S1.out.blk;have s4:=cell_blk (i:=4) S1.out.blk;have s5:=cell_blk (i:=5) S1.out.blk;have sf:=free_blk S1.out.blk;clear b1)
 refine bodyPost_ret (results_cell_tmp rfl _ _ (w.heap.size+1) _ _ _ _ (.int .i64 E) rfl rfl (S1.out.six sh0 (.slice none 0 0)).blk Tryz.underlying28 rfl info_sh) rfl ?_
 have hb:=HB.out.trans B1.out
 have hle:w.heap.size≤w.heap.size+1:=by omega
 exact ⟨rfl,(((((hb.setCell hle _).setCell hle _).setCell hle _).setCell hle _).setCell hle _).setCell hle _⟩
theorem not_shown7:¬heapT 80 28:=by rintro (e|e|e|e)<;>exact absurd e (by decide)
def PlayEnd (f:Fi) (entry:Int) (args input:List Int) (fuel:Int) (w:World) (e:Ending) (w':World):Prop :=
 ∃vx,e=.returned (.tuple #[shV (playS f entry args input fuel) vx,.int .i64 0])∧w'.ownsRow w.heap.size 2 1 vx (playS f entry args input fuel).out.length ((playS f entry args input fuel).out.map (Value.int .i64))∧Bl w w'
theorem play_ok (f:Fi) (A B I R:Option Addr) (a b i r:Nat) (entry fuel:Int) (args input:List Int) (w:World) (hA:ClsAt w A f.classes) (hM:MesAt w B f.methods) (hI:IntsAt w I input) (hR:IntsAt w R args) (hmay:rfmayB f=true) (hE:beginE f entry args input fuel=0) :
  Calls Tryz.prog 18 #[fiV f.classes.length f.methods.length A B a b,.int .i64 entry,.slice R args.length r,.slice I input.length i,.int .i64 fuel] w fun e w'=>PlayEnd f entry args input fuel w e w':=by
 have bl0:Bl w ((w.alloc (fiB f A B a b)).alloc shZ):=((Bl.refl w).alloc _).alloc _
 have HB:Hid (Bl w ((w.alloc (fiB f A B a b)).alloc shZ)):=bl0
 obtain ⟨hc,h1,h2,h3,h4⟩:=begin_fine f A B I R a b i r entry fuel args input w _ bl0 (hM.bl bl0) hI.1 (hR.bl bl0) hmay hE
 have HC:Hid (Calls Tryz.prog 40 #[fiV f.classes.length f.methods.length A B a b,.int .i64 entry,.slice R args.length r,.slice I input.length i,.int .i64 fuel] ((w.alloc (fiB f A B a b)).alloc shZ) fun e w'=>BeginEnd w f A B I a b i fuel input (parsV (nth me0 f.methods entry.toNat).params args) ((w.alloc (fiB f A B a b)).alloc shZ) e w'):=hc
 have HS:Hid (ShBox ((w.alloc (fiB f A B a b)).alloc shZ) (w.heap.size+1) #[.int .i64 0,.int .i64 0,.int .i64 0,.slice none 0 0,.int .i64 0,.int .i64 0]):=⟨blk_at (by simp)⟩
 have HFB:Hid (((w.alloc (fiB f A B a b)).alloc shZ).heap[w.heap.size]?=some (fiB f A B a b)):=blk_up (by simp) (blk_at rfl)
 obtain ⟨n,rfl⟩:∃n:Nat,entry=n:=⟨entry.toNat,by omega⟩
 have hnl:n<f.methods.length:=by omega
 obtain ⟨mb,mo,P,CC,K,pp,cc,kk,hB,HZ,hme⟩:=mes_cells hM hnl
 subst hB
 have HZH:Hid (_):=HZ
 have hsm:rmeB f.classes f.methods (nth me0 f.methods n)=true∧∀i∈(nth me0 f.methods n).code,i.ok:=⟨(rmay_f hmay).2.2 _ (nth_mem hnl),mes_ok hM _ (nth_mem hnl)⟩
 have KD0:Kd (heap0 f input fuel):=fun o ho=>by simp [heap0] at ho
 have hgd:∀v∈parsV (nth me0 f.methods n).params args,GdV (heap0 f input fuel) v:=pars_gd _ _ _ (fun t ht e=>by
  rw [Int.toNat_natCast] at h4
  unfold anyRef at h4
  rw [List.any_eq_false] at h4
  exact absurd (decide_eq_true e) (h4 t ht)) (ints_ok hR)
 have EV:=env0 (a:=a) (b:=b) (i:=i) (fuel:=fuel) hA hM hI hmay
 have GH:=gh0 (f:=f) (ints_ok hI) h2
 have hpl:(parsV (nth me0 f.methods n).params args).length=(nth me0 f.methods n).params.length:=parsV_length _ _ (by rw [Int.toNat_natCast] at h3;omega)
 have HR:Hid (∀(p:Nat) (L:Option Addr) (lc lb:Nat) (w1:World),Hs w ⟨A,a,some ⟨mb,mo,none⟩,b,I,i,80⟩ w1 p (heap0 f input fuel)→StkAt lb w1 L (parsV (nth me0 f.methods n).params args)→(parsV (nth me0 f.methods n).params args).length≤lc→Calls Tryz.prog 41 #[.pointer (some ⟨p,0,none⟩),meV (nth me0 f.methods n) P CC K pp cc kk,.slice L (parsV (nth me0 f.methods n).params args).length lc] w1 fun e w' =>
   e=.returned (vaV (playR f (n:Int) args input fuel).2)∧Hs w ⟨A,a,some ⟨mb,mo,none⟩,b,I,i,80⟩ w' p (playR f (n:Int) args input fuel).1∧Fr w.heap.size 80 w1 w'):=fun p L lc lb w1 hs1 st1 hlc =>
  run_all w ⟨A,a,some ⟨mb,mo,none⟩,b,I,i,80⟩ p fuel.toNat (heap0 f input fuel) (nth me0 f.methods n) P CC K pp cc kk L lc lb _ w1 hs1 EV rfl rfl GH KD0 hme hsm.1 hsm.2 hpl hgd st1 hlc (by show (fuel-0).toNat≤fuel.toNat;simp)
 have HKEPT:Hid (Left' (heap0 f input fuel) (playR f (n:Int) args input fuel) 0):=run_kept (loop_kept f EV.may fuel.toNat) rfl GH KD0 rfl rfl hsm.1 hsm.2 hpl hgd
 have hmm:=hM.1
 unfold maxLen at hmm
 have hn0:(0:Int)≤(n:Int):=by omega
 have hn1:(n:Int)<(f.methods.length:Int):=by omega
 rw [Int.toNat_natCast] at *
 have HPD:Hid (playS f (n:Int) args input fuel=((playR f (n:Int) args input fuel).1.doneH (playR f (n:Int) args input fuel).2).sh):=rfl
 have HEND:Hid (∀e w',(∃vx,e=Ending.returned (.tuple #[shV ((playR f (n:Int) args input fuel).1.doneH (playR f (n:Int) args input fuel).2).sh vx,.int .i64 0])∧w'.ownsRow w.heap.size 2 1 vx ((playR f (n:Int) args input fuel).1.doneH (playR f (n:Int) args input fuel).2).sh.out.length (((playR f (n:Int) args input fuel).1.doneH (playR f (n:Int) args input fuel).2).sh.out.map (Value.int .i64))∧Bl w w')→PlayEnd f (n:Int) args input fuel w e w'):=fun e w' hh=>hh
 clear hA hM hI hR hmay hE hc h1 h2 h3 h4 hsm hgd EV GH KD0 hpl hme bl0 HZ HPD
 generalize (parsV (nth me0 f.methods n).params args)=l at *
 generalize nth me0 f.methods n=M at *
 generalize hR1:(playR f (n:Int) args input fuel)=RR at *
 clear hR1
 go_enter Tryz.func18,Tryz.ntmps18
 repeat (first|(go_big_may;go_says (first|(go_at_call 40;refine HC.out.mono ?_;rintro e w1 ⟨p,L,lc,rfl,hp1,st1,hlc,b1⟩;have f1:=(b1.block _ (lt_some HFB.out)).trans HFB.out;have fc1:w1.cell? ⟨w.heap.size,1,none⟩=some (.slice (some ⟨mb,mo,none⟩) f.methods.length b):=(cell_blk (i:=1) f1).trans rfl;have hfl:=lt_some f1;obtain ⟨y0,y1,y2,y3,y4,y5,y6,y7⟩:=HZH.out;have bw:=HB.out.trans b1;have x0:=bw.cell y0;have x1:=bw.cell y1;have x2:=bw.cell y2;have x3:=bw.cell y3;have x4:=bw.cell y4;have x5:=bw.cell y5;have x6:=bw.cell y6;have x7:=bw.cell y7;have hxl:=cell_lt x0;have e0:w1.cell? ⟨p,0,none⟩=some (.slice A f.classes.length a):=hp1.cells.c0;have e1:w1.cell? ⟨p,1,none⟩=some (.slice (some ⟨mb,mo,none⟩) f.methods.length b):=hp1.cells.c1;have e2:w1.cell? ⟨p,2,none⟩=some (.slice none 0 0):=hp1.cells.c2;have e3:w1.cell? ⟨p,3,none⟩=some (.slice I input.length i):=hp1.cells.c3;have e4:w1.cell? ⟨p,4,none⟩=some (.int .i64 0):=hp1.cells.c4;have e5:w1.cell? ⟨p,5,none⟩=some (.int .i64 fuel):=hp1.cells.c5;have e6:w1.cell? ⟨p,6,none⟩=some (.int .i64 0):=hp1.cells.c6;have e7:w1.cell? ⟨p,7,none⟩=some (.int .i64 0):=hp1.cells.c7;have e8:w1.cell? ⟨p,8,none⟩=some (.int .i64 0):=hp1.cells.c8;have e9:w1.cell? ⟨p,9,none⟩=some (.slice none 0 0):=hp1.cells.c9;have e10:w1.cell? ⟨p,10,none⟩=some (.int .i64 0):=hp1.cells.c10;have e11:w1.cell? ⟨p,11,none⟩=some (.int .i64 0):=hp1.cells.c11;have e12:w1.cell? ⟨p,12,none⟩=some (.bool false):=hp1.cells.c12;have e13:w1.cell? ⟨p,13,none⟩=some (.int .i64 (-1)):=hp1.cells.c13;have ST1:=hid st1;have S1:Hid (ShBox w1 (w.heap.size+1) #[.int .i64 0,.int .i64 0,.int .i64 0,.slice none 0 0,.int .i64 0,.int .i64 0]):=⟨(b1.block _ (lt_some HS.out.blk)).trans HS.out.blk⟩;have BW1:Hid (Bl w w1):=bw;clear y0 y1 y2 y3 y4 y5 y6 y7 bw b1 f1 hp1 st1)|(go_at_call 41;refine (HR.out w1.heap.size L lc ((w.alloc (fiB f A (some ⟨mb,mo,none⟩) a b)).alloc shZ).heap.size (w1.alloc (.cells #[.slice A f.classes.length a,.slice (some ⟨mb,mo,none⟩) f.methods.length b,.slice none 0 0,.slice I input.length i,.int .i64 0,.int .i64 fuel,.int .i64 0,.int .i64 0,.int .i64 0,.slice none 0 0,.int .i64 0,.int .i64 0,.bool false,.int .i64 (-1)] 80)) ⟨.slice none 0 0,.slice none 0 0,[],BW1.out.size,blk_at rfl,BW1.out.alloc _,⟨rfl,Or.inl ⟨rfl,rfl⟩⟩,⟨rfl,⟨rfl,Or.inl ⟨rfl,rfl⟩⟩,fun i hi=>absurd hi (by simp [heap0]),fun i j hi=>absurd hi (by simp [heap0])⟩⟩ (ST1.out.keep fun b cs f e _=>blk_up (lt_some e) e) hlc).mono ?_;rintro e w2 ⟨rfl,h2,f2⟩;have F2:=hid f2;have H2:=hid h2;have hb2:=h2.base;clear h2 f2 e0 e1 e2 e3 e4 e5 e6 e7 e8 e9 e10 e11 e12 e13 x0 x1 x2 x3 x4 x5 x6 x7)))|go_values|go_skip|go_guarded|go_step|go_upon|(simp only [Int.not_lt,Int.not_le] at *;go_simp)|(go_values<;>(try go_simp))|(go_ite<;>go_prune<;>(try go_simp)))
 obtain ⟨vo,vx,hv,HX⟩:=H2.out.old ((Bl.refl w2).alloc (vaO RR.2))
 obtain ⟨xa,xn,xc,rfl⟩:∃xa xn xc,vx=.slice xa xn xc:=by
  rcases HX.out.2 with ⟨e,-⟩|⟨gb,cp,cur,e,-⟩
  ·exact ⟨_,_,_,e⟩
  ·exact ⟨_,_,_,e⟩
 have HXA:=hid HX
 have U2:Hid (VaBox (w2.alloc (vaO RR.2)) w2.heap.size RR.2):=VaBox.new w2 RR.2
 have z6:=hid (And.intro U2.out.c0 U2.out.c1)
 clear HX
 refine wp_region_held_drew (S:=fun w'=>w'.cell? ⟨w2.heap.size,0,none⟩=some (.int .i64 RR.2.kind)∧w'.cell? ⟨w2.heap.size,1,none⟩=some (.int .i64 RR.2.n)) (by kernel_rfl) ?_ (fun hHeld0=>?_)
 ·exact z6.out
 iterate 4 (refine tn rfl (by kernel_rfl) (fun _ _ _ h=>h) (by intro _ h;go_split_ands;go_simp<;>with_reducible rfl) hHeld0 ?_;try simp only [aS,aN,aT,a0,a1])
 refine rd1 (i:=4) (by kernel_rfl) rfl fun K hK=>?_
 go_simp
 go_at_call 42
 refine (done_any w ⟨A,a,some ⟨mb,mo,none⟩,b,I,i,80⟩ tk_heap7 (show (80:TypeId)≠28 from by decide) w1.heap.size RR.1 RR.2 _ vo (.slice xa xn xc) hv (HXA.out.drewN 1) HKEPT.out.gh.thr.2).mono ?_
 rintro e w3 ⟨rfl,h3,f3⟩
 have F3:Hid (Fr w.heap.size 80 (w1.alloc (.cells #[.slice A f.classes.length a,.slice (some ⟨mb,mo,none⟩) f.methods.length b,.slice none 0 0,.slice I input.length i,.int .i64 0,.int .i64 fuel,.int .i64 0,.int .i64 0,.int .i64 0,.slice none 0 0,.int .i64 0,.int .i64 0,.bool false,.int .i64 (-1)] 80)) w3):=(F2.out.trans ((Fr.old hb2 ((Bl.refl w2).alloc (vaO RR.2))).drewN 1)).trans f3
 have U3:=hid ((U2.out.drewN 1).keep tk_heap7 f3)
 have S3:Hid (ShBox w3 (w.heap.size+1) #[.int .i64 0,.int .i64 0,.int .i64 0,.slice none 0 0,.int .i64 0,.int .i64 0]):=⟨F3.out.keep _ _ _ _ (blk_up (lt_some S1.out.blk) S1.out.blk) not_shown7⟩
 have d6:=hid (And.intro U3.out.c0 U3.out.c1)
 have H3:Hid (HpAt w ⟨A,a,some ⟨mb,mo,none⟩,b,I,i,80⟩ w3 w1.heap.size (RR.1.doneH RR.2) vo (.slice xa xn xc) hv):=h3
 have s0:=cell_blk (i:=0) S3.out.blk
 have s1:=cell_blk (i:=1) S3.out.blk
 have s2:=cell_blk (i:=2) S3.out.blk
 have s3:=cell_blk (i:=3) S3.out.blk
 have s4:=cell_blk (i:=4) S3.out.blk
 have s5:=cell_blk (i:=5) S3.out.blk
 have sf:=free_blk S3.out.blk
 have hne6:w2.heap.size≠w.heap.size+1:=by have h1:=F2.out.bl.size;rw [World.size_alloc] at h1;have:=lt_some S1.out.blk;omega
 clear h3 f3
 go_wp2_with fail
 refine hK.out _ _ (d6.out) (fun hHeld1=>?_)
 try simp only [aS,aN,aT,a0,a1]
 refine rd1 (i:=5) (by kernel_rfl) rfl fun K hK=>?_
 go_simp
 have dd6:(fun w'=>w'.cell? ⟨w2.heap.size,0,none⟩=some (.int .i64 RR.2.kind)∧w'.cell? ⟨w2.heap.size,1,none⟩=some (.int .i64 RR.2.n)) ((((((w3.setCell ⟨w.heap.size+1,0,none⟩ (.int .i64 (RR.1.doneH RR.2).sh.fin)).setCell ⟨w.heap.size+1,1,none⟩ (.int .i64 (RR.1.doneH RR.2).sh.value)).setCell ⟨w.heap.size+1,2,none⟩ (.int .i64 (RR.1.doneH RR.2).sh.cls)).setCell ⟨w.heap.size+1,3,none⟩ (.slice xa xn xc)).setCell ⟨w.heap.size+1,4,none⟩ (.int .i64 (RR.1.doneH RR.2).sh.used)).setCell ⟨w.heap.size+1,5,none⟩ (.int .i64 (RR.1.doneH RR.2).sh.steps)):=⟨by rw [World.cell?_of_block (block_far hne6 _),World.cell?_of_block (block_far hne6 _),World.cell?_of_block (block_far hne6 _),World.cell?_of_block (block_far hne6 _),World.cell?_of_block (block_far hne6 _),World.cell?_of_block (block_far hne6 _)];exact d6.out.1,by rw [World.cell?_of_block (block_far hne6 _),World.cell?_of_block (block_far hne6 _),World.cell?_of_block (block_far hne6 _),World.cell?_of_block (block_far hne6 _),World.cell?_of_block (block_far hne6 _),World.cell?_of_block (block_far hne6 _)];exact d6.out.2⟩
 refine hK.out _ _ (dd6) (fun hHeld2=>?_)
 try simp only [aS,aN,aT,a0,a1]
 refine tn rfl (by kernel_rfl) (fun _ _ _ h=>h) (by intro _ h;go_split_ands;go_simp<;>with_reducible rfl) hHeld2 ?_
 try simp only [aS,aN,aT,a0,a1]
 refine wpAnyH_done (by kernel_rfl) ?_ _
 repeat (first|go_values|go_skip|go_guarded|go_step|go_upon|(simp only [Int.not_lt,Int.not_le] at *;go_simp)|(go_values<;>(try go_simp))|(go_ite<;>go_prune<;>(try go_simp)))
 (try simp only [Exit.inBlock,Exit.then])
 refine bodyPost_ret (results_cell_tmp rfl _ _ (w.heap.size+1) _ _ _ _ (.int .i64 0) rfl rfl (S3.out.six (RR.1.doneH RR.2).sh (.slice xa xn xc)).blk Tryz.underlying28 rfl info_sh) rfl ?_
 have hle:w.heap.size≤w.heap.size+1:=by omega
 have hcf:=S3.out.cf (B:=w.heap.size) not_shown7 hle (.int .i64 (RR.1.doneH RR.2).sh.fin) (.int .i64 (RR.1.doneH RR.2).sh.value) (.int .i64 (RR.1.doneH RR.2).sh.cls) (.slice xa xn xc) (.int .i64 (RR.1.doneH RR.2).sh.used) (.int .i64 (RR.1.doneH RR.2).sh.steps)
 refine HEND.out _ _ ⟨_,rfl,hcf.row (.inr (.inr (.inr rfl))) H3.out.out,?_⟩
 exact Below.trans (Below.trans (BW1.out.alloc _) F3.out.bl) hcf.bl
theorem pars_fit (h:Hp) (n:Nat):∀(ps:List Ty) (args:List Int),args.length=ps.length→(∀t∈ps,tyB n t=true)→anyRef ps=false→FitL h ps (parsV ps args)
 | [],[],_,_,_=>FitL.nil h
 | [],_::_,e,_,_=>by simp at e
 | _::_,[],e,_,_=>by simp at e
 | t::ps,a::args,e,ht,hr=>by
  have hr':t.kind≠3∧anyRef ps=false:=by
   unfold anyRef at hr ⊢
   rw [List.any_cons,Bool.or_eq_false_iff] at hr
   exact ⟨of_decide_eq_false hr.1,hr.2⟩
  have ih:=pars_fit h n ps args (by simpa using e) (fun x hx=>ht x (List.mem_cons_of_mem _ hx)) hr'.2
  have h0:=of_decide_eq_true (ht t (List.mem_cons_self ..))
  refine ⟨by show ps.length+1=(parsV ps args).length+1;rw [←ih.1],fun j hj=>?_⟩
  cases j with
  | zero =>
   show FitV h t (parV t a)
   exact ⟨fun k=>k,fun k=>k,fun k=>absurd k hr'.1,fun k=>by omega⟩
  | succ j=>exact ih.2 j (by simpa using hj)
theorem play_safe (f:Fi) (ck:Checked f) (entry fuel:Int) (args input:List Int) (he:0≤entry∧entry≤(f.methods.length:Int)-1) (hf:0≤fuel) (hl:args.length=(nth me0 f.methods entry.toNat).params.length) (hr:anyRef (nth me0 f.methods entry.toNat).params=false):(playS f entry args input fuel).fin≠6:=by
 have hm:nth me0 f.methods entry.toNat∈f.methods:=nth_mem (by omega)
 have hg:Hg (heap0 f input fuel):=⟨ck.may,⟨fun n hn=>by simp [heap0] at hn,fun n hn=>by simp [heap0] at hn,fun n hn=>by simp [heap0] at hn⟩,rfl,rfl⟩
 have L:=run_safe (loop_safe f ck fuel.toNat) ck (h:=heap0 f input fuel) rfl hg hm (pars_fit _ f.classes.length _ args hl (smeP (ck.me _ hm)).2.2.2.2.2.2.2.1 hr) (by show fuel-0≤fuel.toNat;omega)
 have L:LeftS (heap0 f input fuel) _ (playR f entry args input fuel):=L
 have ok:=L.ok
 unfold playS
 generalize playR f entry args input fuel=R at ok ⊢
 unfold Hp.doneH
 split
 ·rename_i ho;exact ok ho
 ·split
  ·show (2:Int)≠6;decide
  ·split<;>(show (1:Int)≠6;decide)
theorem rmay_checked {f:Fi} (h:rfmayB f=true) (so:∀m∈f.methods,SoundM f m):Checked f:=by
 unfold rfmayB at h
 rw [Bool.and_eq_true,Bool.and_eq_true,List.all_eq_true] at h
 exact ⟨h.1.1,h.2,so⟩
theorem ss_walk (f:Fi) (A B R I:Option Addr) (a b r i:Nat) (entry fuel:Int) (args input:List Int) (w:World) (hA:ClsAt w A f.classes) (hB:MesAt w B f.methods) (hI:IntsAt w I input) (hR:IntsAt w R args) :
  Calls Tryz.prog 5 #[fiV f.classes.length f.methods.length A B a b,.int .i64 entry,.slice R args.length r,.slice I input.length i,.int .i64 fuel] w fun e w'=>e=.returned (.bool true)∧Bl w w':=by
 have BW:Hid (Bl w (w.alloc (.cells #[.slice A f.classes.length a,.slice B f.methods.length b] 25))):=(Bl.refl w).alloc _
 have ZF:Hid ((w.alloc (.cells #[.slice A f.classes.length a,.slice B f.methods.length b] 25)).heap[w.heap.size]?=some (.cells #[.slice A f.classes.length a,.slice B f.methods.length b] 25 (0,0))):=mblk rfl
 have HC:=hid (rcheck_any f A B a b _ (hA.bl BW.out) (hB.bl BW.out))
 have HM:Hid (∀w',Bl w w'→rfmayB f=true→Calls Tryz.prog 17 #[fiV f.classes.length f.methods.length A B a b] w' fun e w2=>e=.returned (.bool true)∧Bl w' w2):=fun w' hb hm=>by
  have:=rfmay_any f A B a b w' (hA.bl hb) (hB.bl hb)
  rw [hm] at this
  exact this
 have HP:Hid (∀w',Bl w w'→rfmayB f=true→(∀m∈f.methods,SoundM f m)→Calls Tryz.prog 18 #[fiV f.classes.length f.methods.length A B a b,.int .i64 entry,.slice R args.length r,.slice I input.length i,.int .i64 fuel] w' fun e w2=>∃(s:Sh) (S:Option Addr) (n k:Nat) (E:Int),e=.returned (.tuple #[shV s (.slice S n k),.int .i64 E])∧s.fin≠6∧Bl w' w2):=fun w' hb hm so=>by
  by_cases hE:beginE f entry args input fuel=0
  ·refine (play_ok f A B I R a b i r entry fuel args input w' (hA.bl hb) (hB.bl hb) (hI.bl hb) (hR.bl hb) hm hE).mono ?_
   rintro e w2 ⟨vx,rfl,ow,b2⟩
   obtain ⟨xa,xc,hv,-,-⟩:=own_formT ow
   obtain ⟨-,e1,e2,e3,e4⟩:=begin_fine f A B I R a b i r entry fuel args input w' w' (Bl.refl w') (hB.bl hb) hI.1 (hR.bl hb) hm hE
   exact ⟨_,_,_,_,_,by rw [hv],play_safe f (rmay_checked hm so) entry fuel args input e1 e2.1 e3 e4,b2⟩
  ·refine (play_bad f A B I R a b i r entry fuel args input w' (hB.bl hb) hI.1 (hR.bl hb) hm hE).mono ?_
   rintro e w2 ⟨rfl,b2⟩
   exact ⟨sh0,none,0,0,_,rfl,by decide,b2⟩
 clear hA hB hI hR
 by_cases h1:3000<fuel
 all_goals
  go_enter Tryz.func5,Tryz.ntmps5
  go_wp2_with (first
   | (go_at_call 15;refine HC.out.mono ?_;rintro e w2 ⟨c,k,rfl,q2,b2⟩;have F2:=hid (bl_blk b2 ZF.out);have z0:=(cell_blk (i:=0) F2.out).trans rfl;have z1:=(cell_blk (i:=1) F2.out).trans rfl;have hz:=lt_some F2.out;have B2:=hid (BW.out.trans b2);rcases q2 with ⟨q3,rfl⟩|rfl|⟨rfl,hm,so⟩;all_goals (try (have SM:=hid hm;have SO:=hid so;clear hm so));all_goals (clear b2))
   | (go_at_call 17;refine (HM.out _ (B2.out.alloc _) SM.out).mono ?_;rintro e w3 ⟨rfl,b3⟩;have F3:=hid (bl_blk b3 (bl_blk ((Bl.refl w2).alloc _) F2.out));have y0:=(cell_blk (i:=0) F3.out).trans rfl;have y1:=(cell_blk (i:=1) F3.out).trans rfl;have hy:=lt_some F3.out;have B3:=hid ((B2.out.alloc _).trans b3);clear b3)
   | (go_at_call 18;refine (HP.out _ B3.out SM.out SO.out).mono ?_;rintro e w4 ⟨s,S,n,kk,E,rfl,h6,b4⟩;have hs6:(s.fin !=6)=true:=(by simpa using h6);have B4:=hid (B3.out.trans b4);clear b4 h6))
 all_goals go_ret
 all_goals first
  | exact ⟨rfl,B4.out.alloc _⟩
  | exact ⟨rfl,B2.out.alloc _⟩
end Go.Proofs.YtgiiapenmjollabGreat
