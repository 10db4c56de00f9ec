import Derived.Test.YtgiiapenmjollaaSlbs
namespace Go.Proofs.Ytgiiapenmjollaa
set_option linter.all false
set_option maxHeartbeats 40000000
open Go.RowKit
theorem stk_cases (l:List Va):l=[]∨∃(l':List Va) (v:Va),l=l'++[v]:=by
 rcases List.eq_nil_or_concat l with h|⟨l',v,h⟩
 ·exact Or.inl h
 ·exact Or.inr ⟨l',v,by simpa using h⟩
theorem mdo_any (X:Nat→Prop) (wx w0:World) (g:Mg) (h:Hp) (qs:List Nat) (a:Mc) (c:Cal) (i:In) (hin:nth in0 c.m.code c.pc.toNat=i) (hp:0≤c.pc∧c.pc<c.m.code.length) (w:World) (H:RX 1 X wx w0 g w h qs a c) (ho:h.over=false) (ht:h.thrown=-1) (gh:Gh 1 h) (gc:Gc h c) (F:Fix w0 g h) (hil:h.input.length≤1000000)
  (n19:i.op≠19) (n20:i.op≠20):doC w a.q fun e w'=>DoQ X wx w0 g qs a c (doesP h c i) e w':=by
 have hs:h.stops=false:=by unfold Hp.stops;rw [ho,ht];rfl
 obtain ⟨ok,iok⟩:=code_ok gc hp
 have hsin:=(smeP gc.me).2.2.2.2.2.2.2.1 _ (nth_mem (d:=in0) (i:=c.pc.toNat) (by omega))
 obtain ⟨cb,co,Q,q,A⟩:=H.ati hp
 rw [hin] at ok iok A hsin
 have m1:∀b,h.must b=if b=true then h else h.fin 6:=fun b=>rfl
 have mb:∀b,h.mustB b=b:=fun b=>by unfold Hp.mustB;rw [ho];simp
 have ff:∀b,(h.fin 6).must b=h.fin 6:=fun b=>by
  have e:h.fin 6={ h with over:=true,sh:={ h.sh with fin:=6 } }:=by unfold Hp.fin;rw [if_neg (by rw [ho];decide)]
  unfold Hp.must
  split
  ·rfl
  ·rw [e];unfold Hp.fin;rw [if_pos rfl]
 obtain ⟨op,ia,ib,ic,ii,args⟩:=i
 by_cases h11:op=11
 ·exact do_goto X wx w0 g h qs a c w H hs op ia ib ic ii args cb co Q q _ A h11
 by_cases h12:op=12
 ·subst h12
  have hd:doesP h c ⟨12,ia,ib,ic,ii,args⟩=ifP h c ⟨12,ia,ib,ic,ii,args⟩:=rfl
  rw [hd]
  rcases stk_cases c.stk with e|⟨l,v,e⟩
  ·refine do_if_no X wx w0 g h qs a c w H hs 12 ia ib ic ii args cb co Q q _ A rfl _ ?_ (Or.inl e)
   unfold ifP;dsimp only;rw [has_nil e,m1,if_neg (by decide),ff]
  ·obtain ⟨b1,b2,b3⟩:=has_one e
   by_cases hk:v.kind=1
   ·have eh:(ifP h c ⟨12,ia,ib,ic,ii,args⟩).h=h:=by unfold ifP;dsimp only;rw [b1,b2];simp [m1,hk]
    cases hb:hldB ib v.n with
    | true =>
     refine do_if_go X wx w0 g h qs a c w H hs 12 ia ib ic ii args cb co Q q _ A rfl _ l v e hk hb eh ?_
     unfold ifP;dsimp only;rw [b1,b2,b3];simp [m1,mb,hk,hb]
    | false =>
     refine do_if_on X wx w0 g h qs a c w H hs 12 ia ib ic ii args cb co Q q _ A rfl _ l v e hk hb eh ?_
     unfold ifP;dsimp only;rw [b1,b2,b3];simp [m1,mb,hk,hb]
   ·refine do_if_no X wx w0 g h qs a c w H hs 12 ia ib ic ii args cb co Q q _ A rfl _ ?_ (Or.inr ⟨l,v,e,hk⟩)
    unfold ifP;dsimp only;rw [b1,b2];simp [m1,hk]
 by_cases h13:op=13
 ·subst h13
  have hd:doesP h c ⟨13,ia,ib,ic,ii,args⟩=ifnP h c ⟨13,ia,ib,ic,ii,args⟩:=rfl
  rw [hd]
  rcases stk_cases c.stk with e|⟨l,v,e⟩
  ·refine do_ifnull_no X wx w0 g h qs a c w H hs 13 ia ib ic ii args cb co Q q _ A rfl _ ?_ (Or.inl e)
   unfold ifnP;dsimp only;rw [has_nil e,m1,if_neg (by decide),ff]
  ·obtain ⟨b1,b2,b3⟩:=has_one e
   by_cases hk:v.kind=3
   ·have hr:isRef v=true:=by unfold isRef;simpa using hk
    have eh:(ifnP h c ⟨13,ia,ib,ic,ii,args⟩).h=h:=by unfold ifnP;dsimp only;rw [b1,b2];simp [m1,hr]
    have hv:=(gc.stk v (by rw [e];simp)).ref hk
    by_cases hn:v.n<0
    ·refine do_ifnull_go X wx w0 g h qs a c w H hs 13 ia ib ic ii args cb co Q q _ A rfl _ l v e hk (isN_yes hk (by omega)) eh ?_
     unfold ifnP;dsimp only;rw [b1,b2,b3];simp [m1,mb,hr,hn]
    ·refine do_ifnull_on X wx w0 g h qs a c w H hs 13 ia ib ic ii args cb co Q q _ A rfl _ l v e hk (isN_no hk (by omega)) eh ?_
     unfold ifnP;dsimp only;rw [b1,b2,b3];simp [m1,mb,hr,hn]
   ·have hr:isRef v=false:=by unfold isRef;simpa using hk
    refine do_ifnull_no X wx w0 g h qs a c w H hs 13 ia ib ic ii args cb co Q q _ A rfl _ ?_ (Or.inr ⟨l,v,e,hk⟩)
    unfold ifnP;dsimp only;rw [b1,b2];simp [m1,hr]
 ·exact do_work X wx w0 g h qs a c w H hs op ia ib ic ii args cb co Q q _ A h11 h12 h13 n19 n20 (fun w' hb=>works_all X wx w0 g h qs a c ⟨op,ia,ib,ic,ii,args⟩ Q args.length q w' (H.bl hb) hs gh gc F hil ok (fun e=>sin24 hsin e) h11 h12 h13 n19 n20)
theorem ret_kind11 {nc:Nat} {t:Ty} (h:retB nc t=true):0≤t.kind∧t.kind≤3:=by
 unfold retB tyB at h;rw [Bool.or_eq_true,decide_eq_true_eq,decide_eq_true_eq] at h;omega
theorem do_step (f:Fi) (inp:List Int) (w0:World) (g:Mg) (h:Hp) (k:Kl) (L:List Kl) (hf:h.file=f) (hmay:MayF f) (hmm:f.methods.length≤8) (gh:Gh 1 h) (ho:h.over=false) (ht:h.thrown=-1) (hcl:h.calls=((k::L).length:Int)) (gc:Gc h k.c) (hp:0≤k.c.pc∧k.c.pc≤k.c.m.code.length) (hI:IC h (L.map (·.c))) (F:Fix w0 g h) (hil:h.input.length≤1000000) :
  DrA w0 g h k L (stepM h k.c (L.map (·.c)))∨DrB w0 g h k L (stepM h k.c (L.map (·.c)))∨DrC w0 g h k L (stepM h k.c (L.map (·.c))):=by
 have hlen:L.length≤100:=by have:=gh.calls;rw [hcl] at this;simp at this;omega
 unfold stepM
 by_cases hlt:k.c.pc<k.c.m.code.length
 ·rw [if_neg (by simpa using hlt)]
  obtain ⟨ok,iok⟩:=code_ok gc ⟨hp.1,hlt⟩
  generalize hin:nth in0 k.c.m.code k.c.pc.toNat=i at *
  by_cases h20:i.op=20
  ·rw [if_pos h20]
   have hop:(nth in0 k.c.m.code k.c.pc.toNat).op=20:=by rw [hin];exact h20
   unfold retM
   by_cases hr0:k.c.m.ret.kind=0
   ·rw [if_pos hr0]
    exact (retv_rr w0 g h k L va0 k.c hop ⟨hp.1,hlt⟩ hI hlen (Or.inl rfl) (fun X wx w H=>result_void 1 X wx w0 g h _ k.a k.c w H hr0)).elim Or.inl (fun z=>Or.inr (Or.inl z))
   ·rw [if_neg hr0]
    have hno:(k.c.stk=[]∨∃(l:List Va) (v:Va),k.c.stk=l++[v]∧(v.kind=3→-1≤v.n∧v.n<h.objs.length)∧h.of v k.c.m.ret=false)→DrB w0 g h k L (endM 6 va0 h):=fun hn=>by
     refine ⟨⟨rfl,(by show (6:Int)≠2;decide)⟩,fun Z wx w H=>?_⟩
     obtain ⟨cb,co,Q,q,A⟩:=H.top.ati ⟨hp.1,hlt⟩
     refine (do_ret_no _ _ w0 g h _ k.a k.c w H.top _ _ _ _ _ _ cb co Q q _ A hop (fun X wx w H=>result_no 1 X wx w0 g h _ k.a k.c w H F gh.len hr0 hn)).mono ?_
     rintro e w' ⟨rfl,c',d1,d2,H'⟩
     obtain ⟨vs',l',H2⟩:=H.of H'
     exact ⟨rfl,_,trivial,H2.less⟩
    rcases stk_cases k.c.stk with e|⟨l,v,e⟩
    ·rw [if_pos (has_nil e)]
     exact Or.inr (Or.inl (hno (Or.inl e)))
    ·obtain ⟨b1,b2,b3⟩:=has_one e
     rw [if_neg (by rw [b1];decide),b2]
     have hv:=(gc.stk v (by rw [e];simp)).ref
     by_cases hof:h.of v k.c.m.ret=true
     ·rw [if_pos hof]
      have hvk:1≤v.kind∧v.kind≤3:=by
       have p11:=(smeP gc.me).2.2.2.2.2.2.2.2.2.2
       have:=ret_kind11 p11
       unfold Hp.of at hof
       rw [Bool.and_eq_true,decide_eq_true_eq] at hof
       omega
      exact (retv_rr w0 g h k L v { k.c with stk:=l } hop ⟨hp.1,hlt⟩ hI hlen (Or.inr hvk) (fun X wx w H=>result_yes 1 X wx w0 g h _ k.a k.c l v w H F gh.len hr0 e hv hof)).elim Or.inl (fun z=>Or.inr (Or.inl z))
     ·rw [if_neg hof]
      exact Or.inr (Or.inl (hno (Or.inr ⟨l,v,e,hv,by simpa using hof⟩)))
  ·rw [if_neg h20]
   by_cases h19:i.op=19
   ·rw [if_pos h19]
    exact (call_step w0 g h k L i hin h19 (by have:=ok.call h19;exact this) (hf▸hmay) (by rw [hf];exact hmm) gh gc ⟨hp.1,hlt⟩ hI hcl F).elim Or.inl (fun z=>Or.inr (Or.inl z))
   ·rw [if_neg h19]
    exact doq_rr w0 g h k L i ho ht hI hcl ⟨hp.1,hlt⟩ (does_kept gh gc ho ht ok iok ⟨hp.1,hlt⟩) (fun X wx w H=>mdo_any X wx w0 g h _ k.a k.c i hin ⟨hp.1,hlt⟩ w H ho ht gh gc F hil h19 h20)
 ·rw [if_pos hlt]
  exact Or.inr (Or.inl (end_rr w0 g h k L ho ht gc hlt))
def IMn (f:Fi) (inp:List Int) (n:Nat) (h:Hp) (cs:List Cal):Prop:=IM f inp h cs∧Enough n h
theorem step_ok (f:Fi) (inp:List Int) (w0:World) (g:Mg) (hmm:f.methods.length≤8) (hil:inp.length≤1000000) (hF:∀h:Hp,h.file=f→h.input=inp→Fix w0 g h):StepOk (IMn f inp) w0 g:=by
 rintro n h L ⟨im,en⟩
 obtain ⟨c,cs,e,gc,hp0,hp1,hI⟩:=im.ex
 cases L with
 | nil=>cases e
 | cons k L2 =>
  simp only [List.map_cons,List.cons.injEq] at e
  obtain ⟨rfl,rfl⟩:=e
  have hcl:=im.calls
  rw [List.length_map] at hcl
  cases hb:h.stepB with
  | false =>
   have hle:h.fuel≤h.sh.steps:=by unfold Hp.stepB at hb;rw [im.over] at hb;simpa using hb
   refine Or.inr (Or.inl ⟨0,va0,h,?_,by decide,fun Z wx w H=>(step_fuel 0 Z wx w0 g h _ w H hle).mono ?_⟩)
   ·cases n with
    | zero=>rfl
    | succ n=>show (if h.stepB=false then _ else _)=_;rw [if_pos hb]
   ·rintro e w' ⟨rfl,H'⟩
    exact ⟨rfl,_,trivial,H'⟩
  | true =>
   obtain ⟨q1,q2,q3,q4,q5,q6⟩:=stepB_steps hb
   have hst:h.sh.steps<h.fuel:=by unfold Hp.stepB at hb;simp at hb;exact hb.2
   cases n with
   | zero=>unfold Enough at en;omega
   | succ n =>
    have en1:Enough n h.step:=enough_step en hb
    have sl:=step_le h
    have gh1:=im.gh.step hb
    have gc1:=gc.le sl
    have hI1:=hI.le sl
    have hf1:h.step.file=f:=q5.trans im.file
    have hi1:h.step.input=inp:=sl.input.trans im.input
    have ht1:h.step.thrown=-1:=q4.trans im.thr
    have hc1:h.step.calls=((k::L2).length:Int):=q6.trans hcl
    have F1:=hF h.step hf1 hi1
    have hlim:0≤h.sh.steps∧h.sh.steps<1000000:=by have:=im.gh.out;have:=im.gh.fuel;omega
    have D:=do_step f inp w0 g h.step k L2 hf1 im.may hmm gh1 q3 ht1 hc1 gc1 ⟨hp0,hp1⟩ hI1 F1 (by rw [hi1];exact hil)
    have hinv:(stepM h.step k.c (L2.map (·.c))).fin=false→IM f inp (stepM h.step k.c (L2.map (·.c))).h (stepM h.step k.c (L2.map (·.c))).cs:=fun hfin=>step_inv hf1 hi1 im.may gh1 q3 ht1 (by rw [hc1];simp) gc1 ⟨hp0,hp1⟩ hI1 hfin
    have hlf:=step_lf h.step k.c (L2.map (·.c))
    have hrun:runM (n+1) h (k.c::L2.map (·.c))=if (stepM h.step k.c (L2.map (·.c))).fin=true then stepM h.step k.c (L2.map (·.c)) else runM n (stepM h.step k.c (L2.map (·.c))).h (stepM h.step k.c (L2.map (·.c))).cs:=by
     show (if h.stepB=false then _ else _)=_
     rw [if_neg (by rw [hb];decide)]
    generalize stepM h.step k.c (L2.map (·.c))=o at *
    have hmeas:(o.h.fuel-o.h.sh.steps).toNat<(h.fuel-h.sh.steps).toNat:=by have:=hlf.fuel;have:=hlf.steps;omega
    have heno:Enough n o.h:=by unfold Enough at en1 ⊢;have:=hlf.fuel;have:=hlf.steps;omega
    rcases D with ⟨a1,a2⟩|⟨⟨b1,b2⟩,b3⟩|⟨h1,cs1,c1,c2,c3,c4,c5,c6,c7,c8⟩
    ·refine Or.inl ⟨n,o.h,o.cs,?_,⟨hinv a1,heno⟩,hmeas,fun Z wx w H=>step_go 0 Z wx w0 g h k L2 w H hb hlim _ _ (Or.inl rfl) (a2 Z wx)⟩
     show runM (n+1) h (k.c::L2.map (·.c))=_
     rw [hrun,a1,if_neg (by decide)]
    ·refine Or.inr (Or.inl ⟨o.how,o.v,o.h,?_,b2,fun Z wx w H=>step_go 0 Z wx w0 g h k L2 w H hb hlim _ _ (Or.inr ⟨_,rfl⟩) (b3 Z wx)⟩)
     have hfi:o.fin=true:=by rw [b1];rfl
     show runM (n+1) h (k.c::L2.map (·.c))=_
     rw [hrun,if_pos hfi]
     exact b1
    ·refine Or.inr (Or.inr ⟨n,h1,o,⟨3,h1.thrown⟩,hrun,fun hfin=>⟨⟨hinv hfin,heno⟩,hmeas⟩,⟨rfl,c2,c4.thr.2,rfl⟩,hF h1 (c5.file.trans hf1) (c5.input.trans hi1),c4.len,fun Z wx w H=>step_go 0 Z wx w0 g h k L2 w H hb hlim _ _ (Or.inr ⟨_,rfl⟩) (c8 Z wx)⟩)
theorem mes_ok {w:World} {B:Option Addr} {l:List Me} (h:MesAt w B l):∀m∈l,∀i∈m.code,i.ok:=by
 intro m hm i hi
 obtain ⟨j,hj,rfl⟩:=List.getElem_of_mem hm
 rcases h.2 with h0|⟨mb,mo,-,hcell⟩
 ·omega
 obtain ⟨P,C,J,p,c,k,-,-,-,-,-,-,-,-,hme⟩:=hcell j hj
 rw [nth_get hj] at hme
 obtain ⟨q,hq,rfl⟩:=List.getElem_of_mem hi
 rcases hme.2.1.2 with h0|⟨xb,xo,-,hc⟩
 ·omega
 ·have:=(hc q hq).2.2.2.2.2.1
  rw [nth_get hq] at this
  exact this
theorem ints_ok {w:World} {I:Option Addr} {l:List Int} (h:IntsAt w I l):∀n∈l,I64 n:=by
 intro n hn
 obtain ⟨j,hj,rfl⟩:=List.getElem_of_mem hn
 rcases h.2 with h0|⟨b,off,-,hc⟩
 ·omega
 ·have:=(hc j hj).2
  rw [nth_get hj] at this
  exact this
theorem pvL_nth {ts:List Ty} {args:List Int} {q:Nat} (hq:q<ts.length):nth va0 (pvL ts args ts.length) q=pvM ts args q:=by
 rw [nth_get (by rw [pvL_length];exact hq)]
 simp [pvL,hq]
theorem pvL_mem {ts:List Ty} {args:List Int} {v:Va} (hv:v∈pvL ts args ts.length):∃q,q<ts.length∧v=pvM ts args q:=by
 obtain ⟨q,hq,rfl⟩:=List.getElem_of_mem hv
 have hq':q<ts.length:=by rw [pvL_length] at hq;exact hq
 exact ⟨q,hq',by rw [←nth_get (d:=va0) hq,pvL_nth hq']⟩
theorem anyR_no {ts:List Ty} (h:anyR ts=false):∀q,q<ts.length→(nth ty0 ts q).kind≠3:=by
 intro q hq e
 rw [anyR_hit hq e] at h
 cases h
theorem pvL_im {ts:List Ty} {args:List Int} (h:∀q,q<ts.length→(nth ty0 ts q).kind≠3):(pvL ts args ts.length).map im=pvL ts args ts.length:=by
 rw [List.map_congr_left (g:=id)]
 ·exact List.map_id _
 ·intro v hv
  obtain ⟨q,hq,rfl⟩:=pvL_mem hv
  exact im_num (h q hq)
theorem pvL_enter {h:Hp} {ts:List Ty} {args:List Int} (hk:∀q,q<ts.length→(nth ty0 ts q).kind≠3):h.enterL (pvL ts args ts.length) ts=true:=by
 refine (enter_all h _ ts (pvL_length ts args _)).2 fun q hq=>?_
 rw [pvL_nth hq]
 unfold Hp.of
 have:=hk q hq
 simp [pvM,this]
theorem pvL_gd {h:Hp} {ts:List Ty} {args:List Int} (hk:∀q,q<ts.length→(nth ty0 ts q).kind≠3) (hl:args.length=ts.length) (ha:∀n∈args,I64 n):∀v∈pvL ts args ts.length,GdV h v:=by
 intro v hv
 obtain ⟨q,hq,rfl⟩:=pvL_mem hv
 refine ⟨fun e=>absurd e (hk q hq),?_⟩
 show I64 (if (nth ty0 ts q).kind=1 then wrap32 (nth (0:Int) args q) else nth (0:Int) args q)
 split
 ·exact i64_w32 _
 ·exact ha _ (nth_mem (by omega))
theorem refE_ok {B:Bool} {ms:List Me} {entry fuel:Int} {na ni:Nat} (h:refE B ms entry fuel na ni=0):B=true∧(0≤entry∧entry<(ms.length:Int))∧(0≤fuel∧fuel≤60000)∧ni≤1000∧anyR (nth me0 ms entry.toNat).params=false∧na=(nth me0 ms entry.toNat).params.length:=by
 unfold refE at h
 split at h
 ·cases h
 ·rename_i h1
  split at h
  ·cases h
  ·rename_i h2
   split at h
   ·cases h
   ·rename_i h3
    split at h
    ·rename_i h4
     rw [Bool.and_eq_true] at h4
     have h5:anyR (nth me0 ms entry.toNat).params=false:=by simpa using h4.1
     have h6:na=(nth me0 ms entry.toNat).params.length:=of_decide_eq_true h4.2
     have h7:(0≤entry∧entry<(ms.length:Int))∧(0≤fuel∧fuel≤60000):=by omega
     exact ⟨by simpa using h1,h7.1,h7.2,by omega,h5,h6⟩
    ·cases h
def heapC (f:Fi) (input:List Int) (fuel:Int):Hp:={ heapS f input fuel with calls:=1 }
theorem smay_f {f:Fi} (h:smayB f=true):mayB f.classes=true∧(1≤f.methods.length∧f.methods.length≤8)∧∀m∈f.methods,smeB f.classes f.methods.length m=true:=by
 unfold smayB at h
 rw [Bool.and_eq_true,Bool.and_eq_true,List.all_eq_true] at h
 exact ⟨h.1.1,of_decide_eq_true h.1.2,h.2⟩
theorem start_im (f:Fi) (input args:List Int) (fuel:Int) (n:Nat) (hmay:smayB f=true) (hok:∀m∈f.methods,∀i∈m.code,i.ok) (hI:∀x∈input,I64 x) (hA:∀x∈args,I64 x) (hf:0≤fuel∧fuel≤60000) (hn:n<f.methods.length) (hr:anyR (nth me0 f.methods n).params=false) (hl:args.length=(nth me0 f.methods n).params.length) :
  IMn f input fuel.toNat (heapC f input fuel) [newCal (nth me0 f.methods n) (pvL (nth me0 f.methods n).params args (nth me0 f.methods n).params.length)]:=by
 obtain ⟨m1,m2,m3⟩:=smay_f hmay
 have hm:=nth_mem (d:=me0) hn
 have hk:=anyR_no hr
 have gc:Gc (heapC f input fuel) (newCal (nth me0 f.methods n) (pvL (nth me0 f.methods n).params args (nth me0 f.methods n).params.length)) :=
  new_kept (m3 _ hm) (hok _ hm) (pvL_length _ _ _) (pvL_gd hk hl hA) (pvL_enter hk)
 refine ⟨⟨rfl,rfl,fun m h=>⟨m3 m h,hok m h⟩,⟨fun o ho=>by simp [heapC,heapS] at ho,by simp [heapC,heapS],by simp [heapC,heapS],by simp [heapC,heapS];exact hf.1,hf,by simp [heapC,heapS],by simp [heapC,heapS],hI,by simp [heapC,heapS]⟩,rfl,rfl,rfl,_,[],rfl,gc,Int.le_refl _,?_,fun c hc=>by cases hc⟩,?_⟩
 ·show (0:Int)≤_
  omega
 ·unfold Enough
  show fuel-0≤_
  omega
end Go.Proofs.Ytgiiapenmjollaa
