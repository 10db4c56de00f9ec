import Derived.Test.YtgiiapenmjollabGreatRlbb
import Derived.Test.YtgiiapenmjollabGreatRlbq
import Derived.WalkSmall
namespace Go.Proofs.YtgiiapenmjollabGreat
set_option linter.all false
set_option maxHeartbeats 40000000
set_option maxRecDepth 100000
open Go.RowKit
theorem ret_kind11 {nc:Nat} {t:Ty} (h:retB nc t=true):0≤t.kind∧t.kind≤3:=by
 unfold retB tyB at h;rw [Bool.or_eq_true,decide_eq_true_eq,decide_eq_true_eq] at h;omega
theorem do_step (f:Fi) (inp:List Int) (w0:World) (g:Mg) (h:Hp) (k:Kl) (L:List Kl) (hf:h.file=f) (hmay:MayF f) (hmm:f.methods.length≤8) (gh:Gh 1 h) (kd:Kd h) (ho:h.over=false) (ht:h.thrown=-1) (hcl:h.calls=((k::L).length:Int)) (gc:Gc h k.c) (hp:0≤k.c.pc∧k.c.pc≤k.c.m.code.length) (hI:IC h (L.map (·.c))) (F:Fix w0 g h) (hil:h.input.length≤1000000) :
  DrA w0 g h k L (stepM h k.c (L.map (·.c)))∨DrB w0 g h k L (stepM h k.c (L.map (·.c)))∨DrC w0 g h k L (stepM h k.c (L.map (·.c))):=by
 have hlen:L.length≤100:=by have:=gh.calls;rw [hcl] at this;simp at this;omega
 have hs:h.stops=false:=by unfold Hp.stops;rw [ho,ht];rfl
 unfold stepM
 by_cases hlt:k.c.pc<k.c.m.code.length
 ·rw [if_neg (by simpa using hlt)]
  obtain ⟨ok,iok⟩:=code_ok gc ⟨hp.1,hlt⟩
  have tw:InTwo h.file.classes h.file.methods k.c.m.regs k.c.m.ret.kind (nth in0 k.c.m.code k.c.pc.toNat):=rin_two ((smeP gc.me).2.2.2.2.2.2.1 _ (nth_mem (d:=in0) (by omega)))
  have hcl':=gc.len
  by_cases h20:(nth in0 k.c.m.code k.c.pc.toNat).op=20
  ·rw [if_pos h20]
   have hrk:=ret_kind11 (smeP gc.me).2.2.2.2.2.2.2.2.2
   unfold retM
   by_cases hr0:k.c.m.ret.kind=0
   ·rw [if_pos hr0]
    exact (retv_rr w0 g h k L va0 h20 ⟨hp.1,hlt⟩ hI hlen (by decide) (fun X wx w H=>result_void 1 X wx w0 g h _ k.a k.c _ w H hr0)).elim Or.inl (fun z=>Or.inr (Or.inl z))
   ·rw [if_neg hr0]
    have hra:=ok.ret h20 hr0
    have hr2:=tw.r2 h20
    have hv:=(gc.rd hra).ref
    by_cases hof:h.of (k.c.rd (nth in0 k.c.m.code k.c.pc.toNat).a) k.c.m.ret=true
    ·rw [if_pos hof]
     exact (retv_rr w0 g h k L _ h20 ⟨hp.1,hlt⟩ hI hlen (by rw [of_kind hof];exact hrk) (fun X wx w H=>result_yes 1 X wx w0 g h _ k.a k.c _ w H F gh.len (by omega) (by omega) (fun e=>by have:=hr2 e;omega) hv hof)).elim Or.inl (fun z=>Or.inr (Or.inl z))
    ·rw [if_neg hof]
     refine Or.inr (Or.inl ⟨⟨rfl,(by show (6:Int)≠2;decide)⟩,fun Z wx w H=>?_⟩)
     obtain ⟨cb,co,Q,q,A⟩:=H.top.ati ⟨hp.1,hlt⟩
     refine (do_ret_no (fun e w'=>e=stopE 6 0 0∧Bl w w') _ _ w0 g h _ k.a k.c w H.top (nth in0 k.c.m.code k.c.pc.toNat).op (nth in0 k.c.m.code k.c.pc.toNat).a (nth in0 k.c.m.code k.c.pc.toNat).b (nth in0 k.c.m.code k.c.pc.toNat).c (nth in0 k.c.m.code k.c.pc.toNat).n (nth in0 k.c.m.code k.c.pc.toNat).args cb co Q q _ A h20 (fun w' hb=>result_no 1 _ _ w0 g h _ k.a k.c (nth in0 k.c.m.code k.c.pc.toNat).a w' (H.top.bl hb) F gh.len (by omega) (by omega) (fun e=>by have:=hr2 e;omega) hv (by simpa using hof)) (fun w2 hb=>⟨rfl,hb⟩)).mono ?_
     rintro e w' ⟨rfl,hb⟩
     exact ⟨rfl,_,trivial,(H.bl hb).less⟩
  ·rw [if_neg h20]
   by_cases h18:(nth in0 k.c.m.code k.c.pc.toNat).op=18
   ·rw [if_pos h18]
    exact (call_step w0 g h k L _ rfl h18 ok tw (hf▸hmay) (by rw [hf];exact hmm) gh gc ⟨hp.1,hlt⟩ hI hcl F).elim Or.inl (fun z=>Or.inr (Or.inl z))
   ·rw [if_neg h18]
    exact doq_rr w0 g h k L _ ho ht hI hcl ⟨hp.1,hlt⟩ (does_kept gh kd gc ho ht (hf▸hmay:MayF h.file).1 ok iok h18 h20 ⟨hp.1,hlt⟩) (fun X wx w H=>mdo_any X wx w0 g h _ k.a k.c _ h.file.methods k.c.m.ret.kind rfl ⟨hp.1,hlt⟩ w H ⟨F,gh,kd,gc,hs,ok,tw,iok,(hf▸hmay:MayF h.file).1,hil⟩ h18 h20)
 ·rw [if_pos hlt]
  exact Or.inr (Or.inl (end_rr w0 g h k L ho ht gc hlt))
def IMn (f:Fi) (inp:List Int) (n:Nat) (h:Hp) (cs:List Cal):Prop:=IM f inp h cs∧Enough n h
theorem step_ok (f:Fi) (inp:List Int) (w0:World) (g:Mg) (hmm:f.methods.length≤8) (hil:inp.length≤1000000) (hF:∀h:Hp,h.file=f→h.input=inp→Fix w0 g h):StepOk (IMn f inp) w0 g:=by
 rintro n h L ⟨im,en⟩
 obtain ⟨c,cs,e,gc,hp0,hp1,hI⟩:=im.ex
 cases L with
 | nil=>cases e
 | cons k L2 =>
  simp only [List.map_cons,List.cons.injEq] at e
  obtain ⟨rfl,rfl⟩:=e
  have hcl:=im.calls
  rw [List.length_map] at hcl
  cases hb:h.stepB with
  | false =>
   have hle:h.fuel≤h.sh.steps:=by unfold Hp.stepB at hb;rw [im.over] at hb;simpa using hb
   refine Or.inr (Or.inl ⟨0,va0,h,?_,by decide,fun Z wx w H=>(step_fuel 0 Z wx w0 g h _ w H hle).mono ?_⟩)
   ·cases n with
    | zero=>rfl
    | succ n=>show (if h.stepB=false then _ else _)=_;rw [if_pos hb]
   ·rintro e w' ⟨rfl,H'⟩
    exact ⟨rfl,_,trivial,H'⟩
  | true =>
   obtain ⟨q1,q2,q3,q4,q5,q6⟩:=stepB_steps hb
   have hst:h.sh.steps<h.fuel:=by unfold Hp.stepB at hb;simp at hb;exact hb.2
   cases n with
   | zero=>unfold Enough at en;omega
   | succ n =>
    have en1:Enough n h.step:=enough_step en hb
    have sl:=step_le h
    have gh1:=im.gh.step hb
    have gc1:=gc.le sl
    have hI1:=hI.le sl
    have hf1:h.step.file=f:=q5.trans im.file
    have hi1:h.step.input=inp:=sl.input.trans im.input
    have ht1:h.step.thrown=-1:=q4.trans im.thr
    have hc1:h.step.calls=((k::L2).length:Int):=q6.trans hcl
    have F1:=hF h.step hf1 hi1
    have hlim:0≤h.sh.steps∧h.sh.steps<1000000:=by have:=im.gh.out;have:=im.gh.fuel;omega
    have D:=do_step f inp w0 g h.step k L2 hf1 im.may hmm gh1 im.kd.step q3 ht1 hc1 gc1 ⟨hp0,hp1⟩ hI1 F1 (by rw [hi1];exact hil)
    have hinv:(stepM h.step k.c (L2.map (·.c))).fin=false→IM f inp (stepM h.step k.c (L2.map (·.c))).h (stepM h.step k.c (L2.map (·.c))).cs:=fun hfin=>step_inv hf1 hi1 im.may gh1 im.kd.step q3 ht1 (by rw [hc1];simp) gc1 ⟨hp0,hp1⟩ hI1 hfin
    have hlf:=step_lf h.step k.c (L2.map (·.c))
    have hrun:runM (n+1) h (k.c::L2.map (·.c))=if (stepM h.step k.c (L2.map (·.c))).fin=true then stepM h.step k.c (L2.map (·.c)) else runM n (stepM h.step k.c (L2.map (·.c))).h (stepM h.step k.c (L2.map (·.c))).cs:=by
     show (if h.stepB=false then _ else _)=_
     rw [if_neg (by rw [hb];decide)]
    generalize stepM h.step k.c (L2.map (·.c))=o at *
    have hmeas:(o.h.fuel-o.h.sh.steps).toNat<(h.fuel-h.sh.steps).toNat:=by have:=hlf.fuel;have:=hlf.steps;omega
    have heno:Enough n o.h:=by unfold Enough at en1 ⊢;have:=hlf.fuel;have:=hlf.steps;omega
    rcases D with ⟨a1,a2⟩|⟨⟨b1,b2⟩,b3⟩|⟨h1,cs1,c1,c2,c3,c4,ckd,c5,c6,c7,c8⟩
    ·refine Or.inl ⟨n,o.h,o.cs,?_,⟨hinv a1,heno⟩,hmeas,fun Z wx w H=>step_go 0 Z wx w0 g h k L2 w H hb hlim _ _ (Or.inl rfl) (a2 Z wx)⟩
     show runM (n+1) h (k.c::L2.map (·.c))=_
     rw [hrun,a1,if_neg (by decide)]
    ·refine Or.inr (Or.inl ⟨o.how,o.v,o.h,?_,b2,fun Z wx w H=>step_go 0 Z wx w0 g h k L2 w H hb hlim _ _ (Or.inr ⟨_,rfl⟩) (b3 Z wx)⟩)
     have hfi:o.fin=true:=by rw [b1];rfl
     show runM (n+1) h (k.c::L2.map (·.c))=_
     rw [hrun,if_pos hfi]
     exact b1
    ·refine Or.inr (Or.inr ⟨n,h1,o,⟨3,h1.thrown⟩,hrun,fun hfin=>⟨⟨hinv hfin,heno⟩,hmeas⟩,⟨rfl,c2,c4.thr.2,rfl⟩,hF h1 (c5.file.trans hf1) (c5.input.trans hi1),c4.len,fun Z wx w H=>step_go 0 Z wx w0 g h k L2 w H hb hlim _ _ (Or.inr ⟨_,rfl⟩) (c8 Z wx)⟩)
theorem pvL_nth {ts:List Ty} {args:List Int} {q:Nat} (hq:q<ts.length):nth va0 (pvL ts args ts.length) q=pvM ts args q:=by
 rw [nth_get (by rw [pvL_length];exact hq)]
 simp [pvL,hq]
theorem pvL_mem {ts:List Ty} {args:List Int} {v:Va} (hv:v∈pvL ts args ts.length):∃q,q<ts.length∧v=pvM ts args q:=by
 obtain ⟨q,hq,rfl⟩:=List.getElem_of_mem hv
 have hq':q<ts.length:=by rw [pvL_length] at hq;exact hq
 exact ⟨q,hq',by rw [←nth_get (d:=va0) hq,pvL_nth hq']⟩
theorem anyR_no {ts:List Ty} (h:anyR ts=false):∀q,q<ts.length→(nth ty0 ts q).kind≠3:=by
 intro q hq e
 rw [anyR_hit hq e] at h
 cases h
theorem pvL_im {ts:List Ty} {args:List Int} (h:∀q,q<ts.length→(nth ty0 ts q).kind≠3):(pvL ts args ts.length).map im=pvL ts args ts.length:=by
 rw [List.map_congr_left (g:=id)]
 ·exact List.map_id _
 ·intro v hv
  obtain ⟨q,hq,rfl⟩:=pvL_mem hv
  exact im_num (h q hq)
theorem pvL_enter {h:Hp} {ts:List Ty} {args:List Int} (hk:∀q,q<ts.length→(nth ty0 ts q).kind≠3):h.enterL (pvL ts args ts.length) ts=true:=by
 refine (enter_all h _ ts (pvL_length ts args _)).2 fun q hq=>?_
 rw [pvL_nth hq]
 unfold Hp.of
 have:=hk q hq
 simp [pvM,this]
theorem pvL_gd {h:Hp} {ts:List Ty} {args:List Int} (hk:∀q,q<ts.length→(nth ty0 ts q).kind≠3) (hl:args.length=ts.length) (ha:∀n∈args,I64 n):∀v∈pvL ts args ts.length,GdV h v:=by
 intro v hv
 obtain ⟨q,hq,rfl⟩:=pvL_mem hv
 refine ⟨fun e=>absurd e (hk q hq),?_⟩
 show I64 (if (nth ty0 ts q).kind=1 then wrap32 (nth (0:Int) args q) else nth (0:Int) args q)
 split
 ·exact i64_w32 _
 ·exact ha _ (nth_mem (by omega))
theorem refE_ok {B:Bool} {ms:List Me} {entry fuel:Int} {na ni:Nat} (h:refE B ms entry fuel na ni=0):B=true∧(0≤entry∧entry<(ms.length:Int))∧(0≤fuel∧fuel≤60000)∧ni≤1000∧anyR (nth me0 ms entry.toNat).params=false∧na=(nth me0 ms entry.toNat).params.length:=by
 unfold refE at h
 split at h
 ·cases h
 ·rename_i h1
  split at h
  ·cases h
  ·rename_i h2
   split at h
   ·cases h
   ·rename_i h3
    split at h
    ·rename_i h4
     rw [Bool.and_eq_true] at h4
     have h5:anyR (nth me0 ms entry.toNat).params=false:=by simpa using h4.1
     have h6:na=(nth me0 ms entry.toNat).params.length:=of_decide_eq_true h4.2
     have h7:(0≤entry∧entry<(ms.length:Int))∧(0≤fuel∧fuel≤60000):=by omega
     exact ⟨by simpa using h1,h7.1,h7.2,by omega,h5,h6⟩
    ·cases h
def heapC (f:Fi) (input:List Int) (fuel:Int):Hp:={ heapS f input fuel with calls:=1 }
theorem smay_f {f:Fi} (h:rfmayB f=true):mayB f.classes=true∧(1≤f.methods.length∧f.methods.length≤8)∧∀m∈f.methods,rmeB f.classes f.methods m=true:=by
 unfold rfmayB at h
 rw [Bool.and_eq_true,Bool.and_eq_true,List.all_eq_true] at h
 exact ⟨h.1.1,of_decide_eq_true h.1.2,h.2⟩
theorem mayC_of {cs:List Cl} (h:mayB cs=true):MayC cs:=by
 intro c k hc hk
 have:=field_kind h (c:=c.toNat) (k:=k.toNat) (by omega) (by omega)
 rw [Int.toNat_of_nonneg hc.1,Int.toNat_of_nonneg hk.1] at this
 omega
theorem start_im (f:Fi) (input args:List Int) (fuel:Int) (n:Nat) (hmay:rfmayB f=true) (hok:∀m∈f.methods,∀i∈m.code,i.ok) (hI:∀x∈input,I64 x) (hA:∀x∈args,I64 x) (hf:0≤fuel∧fuel≤60000) (hn:n<f.methods.length) (hr:anyR (nth me0 f.methods n).params=false) (hl:args.length=(nth me0 f.methods n).params.length) :
  IMn f input fuel.toNat (heapC f input fuel) [newCal (nth me0 f.methods n) (pvL (nth me0 f.methods n).params args (nth me0 f.methods n).params.length)]:=by
 obtain ⟨m1,m2,m3⟩:=smay_f hmay
 have hm:=nth_mem (d:=me0) hn
 have hk:=anyR_no hr
 have gc:Gc (heapC f input fuel) (newCal (nth me0 f.methods n) (pvL (nth me0 f.methods n).params args (nth me0 f.methods n).params.length)) :=
  new_kept (m3 _ hm) (hok _ hm) (pvL_length _ _ _) (pvL_gd hk hl hA) (pvL_enter hk)
 refine ⟨⟨rfl,rfl,⟨mayC_of m1,fun m h=>⟨m3 m h,hok m h⟩⟩,⟨fun o ho=>by simp [heapC,heapS] at ho,by simp [heapC,heapS],by simp [heapC,heapS],by simp [heapC,heapS];exact hf.1,hf,by simp [heapC,heapS],by simp [heapC,heapS],hI,by simp [heapC,heapS]⟩,fun o ho=>by simp [heapC,heapS] at ho,rfl,rfl,rfl,_,[],rfl,gc,Int.le_refl _,?_,fun c hc=>by cases hc⟩,?_⟩
 ·show (0:Int)≤_
  omega
 ·unfold Enough
  show fuel-0≤_
  omega
theorem row_six {w:World} {base:Nat} {v:Value} {n:Nat} {xs:List Value} (ho:w.ownsRow base 2 1 v n xs) {b:Nat} {cs:Array Value} (hb:w.heap[b]?=some (.cells cs 28 (0,0))) (v0 v1 v2 v3 v4 v5:Value) :
  ((((((w.setCell ⟨b,0,none⟩ v0).setCell ⟨b,1,none⟩ v1).setCell ⟨b,2,none⟩ v2).setCell ⟨b,3,none⟩ v3).setCell ⟨b,4,none⟩ v4).setCell ⟨b,5,none⟩ v5).ownsRow base 2 1 v n xs:=by
 have h0:=block_set (i:=0) hb v0
 have h1:=block_set (i:=1) h0 v1
 have h2:=block_set (i:=2) h1 v2
 have h3:=block_set (i:=3) h2 v3
 have h4:=block_set (i:=4) h3 v4
 exact row_far (row_far (row_far (row_far (row_far (row_far ho hb (by decide) _) h0 (by decide) _) h1 (by decide) _) h2 (by decide) _) h3 (by decide) _) h4 (by decide) _
theorem RR.z {s:Nat} {Z:Nat→Prop} {wx w0 w:World} {g:Mg} {h:Hp} {L:List Kl} (H:RR s Z wx w0 g w h L) {b:Nat} (hb:Z b):w.heap[b]?=wx.heap[b]?:=by
 obtain ⟨vc,vo,vx,-,-,-,-,K⟩:=H
 exact (K.blk b hb).2
theorem RR.bl0 {s:Nat} {Z:Nat→Prop} {wx w0 w:World} {g:Mg} {h:Hp} {L:List Kl} (H:RR s Z wx w0 g w h L):Bl w0 w:=by
 obtain ⟨vc,vo,vx,R,-⟩:=H
 exact R.bl
theorem start_rz (f:Fi) (input:List Int) (fuel:Int) (w0 w:World) (g:Mg) (Z:Nat→Prop) (hb:Bl w0 w) (h1:w0.heap.size≤g.r) (h2:w0.heap.size≤g.hb) (h3:w0.heap.size≤g.mp)
  (hr:w.heap[g.r]?=some (.cells (runRow g (heapS f input fuel) (.slice none 0 0) (.slice none 0 0)) 112 (0,0))) (hh:w.heap[g.hb]?=some (.cells (heapRow g (heapS f input fuel) (.slice none 0 0)) 217 (0,0)))
  (hm:w.ownsMap Tryz.prog 303 mvElem g.mp 0 (.map [])) (hz:∀b,Z b→b≠g.r∧b≠g.hb∧b≠g.mp) (hzl:∀b,Z b→b<w.heap.size):RR 0 Z w w0 g w (heapS f input fuel) []:=by
 obtain ⟨vc,vo,vx,R,K,-⟩:=start_rr f input fuel w0 w g hb h1 h2 h3 hr hh hm
 have e1:=R.run.symm.trans hr
 have e2:=R.hp.symm.trans hh
 unfold runRow at e1
 unfold heapRow at e2
 simp only [Option.some.injEq,Obj.cells.injEq,Array.mk.injEq,List.cons.injEq,true_and,and_true] at e1 e2
 obtain ⟨rfl,rfl⟩:=e1
 subst e2
 exact ⟨_,_,_,R,K,fun b hb=>⟨(hz b hb).1,(hz b hb).2.1,(hz b hb).2.2,(fun e=>by cases e),(fun e=>by cases e),(fun e=>by cases e)⟩,(fun b _ k hk=>by cases hk),Nat.le_refl _,fun b hb=>⟨hzl b hb,rfl⟩⟩
def RunEnd (w:World) (s:Sh) (e:Ending) (w':World):Prop :=
 ∃vx,e=.returned (.tuple #[.agg #[.int .i64 s.fin,.int .i64 s.value,.int .i64 s.cls,vx,.int .i64 s.used,.int .i64 s.steps],.int .i64 0])∧w'.ownsRow w.heap.size 2 1 vx s.out.length (s.out.map (Value.int .i64))∧Bl w w'
def ShownQ (w0 w:World) (s:Sh) (e:Ending) (w':World):Prop :=
 ∃vx,e=.returned (.agg #[.int .i64 s.fin,.int .i64 s.value,.int .i64 s.cls,vx,.int .i64 s.used,.int .i64 s.steps])∧w'.ownsRow w0.heap.size 2 1 vx s.out.length (s.out.map (Value.int .i64))∧Bl w w'
theorem shown_any (f:Fi) (inp:List Int) (Z:Nat→Prop) (wx w0:World) (g:Mg) (o:Mo) (L:List Kl) (w:World) (H:RR 0 Z wx w0 g w o.h L) (ed:Ed f inp o) (F:Fix w0 g o.h) :
  Calls Tryz.prog 73 #[.pointer (some ⟨g.r,0,none⟩),.agg #[.int .i64 o.how,.int .i64 (im o.v).kind,.int .i64 (im o.v).n]] w fun e w'=>ShownQ w0 w (finS o) e w':=by
 obtain ⟨vc,vo,vx,R,-⟩:=H
 obtain ⟨r0,-,-,-,-,-,r6,r7,r8⟩:=R.runCells
 obtain ⟨Ax,cx,rfl,-,-⟩:=own_form R.out
 have hrow:∀w',Bl w w'→w'.ownsRow w0.heap.size 2 1 (.slice Ax o.h.sh.out.length cx) o.h.sh.out.length (o.h.sh.out.map (Value.int .i64)):=fun w' hb=>(R.kept (grown_bl hb none) (fun b e=>by cases e)).out
 by_cases h2:o.how=2
 ·obtain ⟨k3,n0,n1⟩:=ed.thr h2
  obtain ⟨n,hn⟩:∃n:Nat,o.v.n=n:=⟨o.v.n.toNat,by omega⟩
  have hfs:finS o=⟨2,0,(o.h.obj o.v.n).cls,o.h.sh.out,o.h.sh.used,o.h.sh.steps⟩:=by unfold finS;rw [if_pos h2]
  have hc:=shown_thr n (o.h.obj o.v.n).cls g o.h Ax o.h.sh.out.length cx w (R.rd F ed.len) (by omega) (by unfold Hp.obj;rw [hn,Int.toNat_natCast]) r0 r6 r7 r8
  rw [im_ref k3,h2,hn]
  rw [hfs]
  refine hc.mono ?_
  rintro e w' ⟨rfl,hb⟩
  exact ⟨_,rfl,hrow w' hb,hb⟩
 ·have hfs:finS o=⟨o.how,if o.v.kind=3 then 0 else o.v.n,0,o.h.sh.out,o.h.sh.used,o.h.sh.steps⟩:=by unfold finS;rw [if_neg h2]
  rw [hfs]
  by_cases k3:o.v.kind=3
  ·rw [if_pos k3]
   refine (shown_ref o.how (im o.v).kind (im o.v).n g o.h Ax o.h.sh.out.length cx w r0 r6 r7 r8 h2 k3).mono ?_
   rintro e w' ⟨rfl,hb⟩
   exact ⟨_,rfl,hrow w' hb,hb⟩
  ·rw [if_neg k3]
   have hc:=shown_num o.how (im o.v).kind (im o.v).n g o.h Ax o.h.sh.out.length cx w r0 r6 r7 r8 h2 k3
   have e:(im o.v).n=o.v.n:=by rw [im_num k3]
   refine hc.mono ?_
   rintro e' w' ⟨rfl,hb⟩
   exact ⟨_,by rw [e],hrow w' hb,hb⟩
theorem call_start (f:Fi) (n:Nat) (args input:List Int) (fuel:Int) (w:World) (hmay:rfmayB f=true) (hn:n<f.methods.length) (hr:anyR (nth me0 f.methods n).params=false)
  (Z:Nat→Prop) (V:World) (g:Mg) (hM:MesAt w g.M f.methods) (w4:World) (b cap:Nat) (H:RR 0 Z V w g w4 (heapS f input fuel) []) (B:LBox w4 b (pvL (nth me0 f.methods n).params args (nth me0 f.methods n).params.length)) :
  Calls Tryz.prog 71 #[.pointer (some ⟨g.r,0,none⟩),.int .i64 (n:Int),.slice (some ⟨b,0,none⟩) (nth me0 f.methods n).params.length cap] w4 fun e w'=>e=.returned (.tuple #[])∧∃k2:Kl,k2.c=newCal (nth me0 f.methods n) (pvL (nth me0 f.methods n).params args (nth me0 f.methods n).params.length)∧RR 0 Z V w g w' (heapC f input fuel) [k2]:=by
 obtain ⟨m1,m2,m3⟩:=smay_f hmay
 obtain ⟨p1,p2,p3,p5,p6,p7,p8,p9,p10,p11⟩:=smeP (m3 _ (nth_mem (d:=me0) hn))
 have hk:=anyR_no hr
 have s12:=enter_sizes (heapS f input fuel) f.classes.length _ _ (pvL_length (nth me0 f.methods n).params args (nth me0 f.methods n).params.length) (pvL_enter hk) p9
 have hc:=call_rr 0 Z V w g (heapS f input fuel) [] w4 H n (nth me0 f.methods n) (nth me0 f.methods n).regs.toNat b cap (pvL (nth me0 f.methods n).params args (nth me0 f.methods n).params.length) (by decide) hn rfl hM (by omega) (by omega) (by rw [pvL_im hk];exact B) (by omega) s12.2
 rw [pvL_length] at hc
 refine hc.mono ?_
 rintro e w' ⟨rfl,k2,hk2,H2⟩
 exact ⟨rfl,k2,hk2,H2.heap 1 (-1)⟩
theorem formRun_bad (f:Fi) (A B R I:Option Addr) (a b rc ic:Nat) (entry fuel:Int) (args input:List Int) (w:World) (hB:MesAt w B f.methods) (hI:input.length≤maxLen) (hR:args.length≤maxLen)
  (hM:∀w',Bl w w'→Calls Tryz.prog 30 #[filV f.classes.length f.methods.length A B a b] w' fun e w2=>e=.returned (.bool (rfmayB f))∧Bl w' w2) (hE:refE (rfmayB f) f.methods entry fuel args.length input.length≠0) :
  Calls Tryz.prog 32 #[formV,filV f.classes.length f.methods.length A B a b,.int .i64 entry,.slice R args.length rc,.slice I input.length ic,.int .i64 fuel] w fun e w'=>e=.returned (.tuple #[.agg #[.int .i64 0,.int .i64 0,.int .i64 0,.slice none 0 0,.int .i64 0,.int .i64 0],.int .i64 (refE (rfmayB f) f.methods entry fuel args.length input.length)])∧Bl w w':=by
 have HAL:Hid (Bl w (((w.alloc formO).alloc (filO f.classes.length f.methods.length A B a b)).alloc shMZ)):=(((Bl.refl w).alloc _).alloc _).alloc _
 have HREF:Hid (∀w',Bl w w'→Calls Tryz.prog 69 #[formV,filV f.classes.length f.methods.length A B a b,.int .i64 entry,.slice R args.length rc,.slice I input.length ic,.int .i64 fuel] w' fun e w2=>e=.returned (.int .i64 (refE (rfmayB f) f.methods entry fuel args.length input.length))∧Bl w' w2) :=
  fun w' hb=>refuses_any (rfmayB f) f.classes.length f.methods A B R I a b rc ic args.length input.length entry fuel w' (hB.bl hb) hR hI (fun w2 hb2=>hM w2 (hb.trans hb2))
 have hz:(refE (rfmayB f) f.methods entry fuel args.length input.length !=0)=true:=by simpa using hE
 have HL2:Hid ((((w.alloc formO).alloc (filO f.classes.length f.methods.length A B a b)).alloc shMZ).heap[w.heap.size+1+1]?=some (.cells #[.int .i64 0,.int .i64 0,.int .i64 0,.slice none 0 0,.int .i64 0,.int .i64 0] 28 (0,0))):=by
  have:=blk_new ((w.alloc formO).alloc (filO f.classes.length f.methods.length A B a b)) #[.int .i64 0,.int .i64 0,.int .i64 0,.slice none 0 0,.int .i64 0,.int .i64 0] 28
  rw [World.size_alloc,World.size_alloc] at this
  exact this
 clear hB hI hR hM hE
 generalize refE (rfmayB f) f.methods entry fuel args.length input.length=E at *
 go_enter Tryz.func32,Tryz.ntmps32
 go_wp2_with (go_at_call 69;refine (HREF.out _ HAL.out).mono ?_;rintro e w1 ⟨rfl,b1⟩;have q1:=bl_blk b1 HL2.out;have z0:w1.cell? ⟨w.heap.size+1+1,0,none⟩=some (.int .i64 0):=(cell_blk q1).trans rfl;have z1:w1.cell? ⟨w.heap.size+1+1,1,none⟩=some (.int .i64 0):=(cell_blk q1).trans rfl;have z2:w1.cell? ⟨w.heap.size+1+1,2,none⟩=some (.int .i64 0):=(cell_blk q1).trans rfl;have z3:w1.cell? ⟨w.heap.size+1+1,3,none⟩=some (.slice none 0 0):=(cell_blk q1).trans rfl;have z4:w1.cell? ⟨w.heap.size+1+1,4,none⟩=some (.int .i64 0):=(cell_blk q1).trans rfl;have z5:w1.cell? ⟨w.heap.size+1+1,5,none⟩=some (.int .i64 0):=(cell_blk q1).trans rfl;have fr:=free_blk q1;replace q1:=hid q1;have B1:=hid b1;clear b1)
 refine bodyPost_ret (results_cell_tmpm rfl _ _ (w.heap.size+1+1) _ _ (.int .i64 E) _ _ rfl rfl (set_six6 q1.out _ _ _ _ _ _) Tryz.underlying28 rfl info_shm) rfl ?_
 exact ⟨rfl,bl_six6 (HAL.out.trans B1.out) (by omega) _ _ _ _ _ _⟩
theorem formRun_ok (f:Fi) (A B R I:Option Addr) (a b rc ic:Nat) (n:Nat) (fuel:Int) (args input:List Int) (w:World) (hA:ClsAt w A f.classes) (hB:MesAt w B f.methods) (hI:IntsAt w I input) (hR:IntsAt w R args)
  (hM:∀w',Bl w w'→Calls Tryz.prog 30 #[filV f.classes.length f.methods.length A B a b] w' fun e w2=>e=.returned (.bool (rfmayB f))∧Bl w' w2) (hE:refE (rfmayB f) f.methods (n:Int) fuel args.length input.length=0) :
  Calls Tryz.prog 32 #[formV,filV f.classes.length f.methods.length A B a b,.int .i64 (n:Int),.slice R args.length rc,.slice I input.length ic,.int .i64 fuel] w fun e w'=>RunEnd w (finS (runM fuel.toNat (heapC f input fuel) [newCal (nth me0 f.methods n) (pvL (nth me0 f.methods n).params args (nth me0 f.methods n).params.length)])) e w':=by
 have HAL:Hid (Bl w (((w.alloc formO).alloc (filO f.classes.length f.methods.length A B a b)).alloc shMZ)):=(((Bl.refl w).alloc _).alloc _).alloc _
 have HREF:Hid (∀w',Bl w w'→Calls Tryz.prog 69 #[formV,filV f.classes.length f.methods.length A B a b,.int .i64 (n:Int),.slice R args.length rc,.slice I input.length ic,.int .i64 fuel] w' fun e w2=>e=.returned (.int .i64 0)∧Bl w' w2):=fun w' hb=>by
  have:=refuses_any (rfmayB f) f.classes.length f.methods A B R I a b rc ic args.length input.length (n:Int) fuel w' (hB.bl hb) hR.1 hI.1 (fun w2 hb2=>hM w2 (hb.trans hb2))
  rw [hE] at this
  exact this
 obtain ⟨e1,e2,e3,e4,e5,e6⟩:=refE_ok hE
 rw [Int.toNat_natCast] at e5 e6
 have hn:n<f.methods.length:=by omega
 obtain ⟨m1,m2,m3⟩:=smay_f e1
 obtain ⟨p1,p2,p3,p5,p6,p7,p8,p9,p10,p11⟩:=smeP (m3 _ (nth_mem (d:=me0) hn))
 have hkk:=anyR_no e5
 have HB0:=hid hB
 have hmm:=hB.1
 unfold maxLen at hmm
 rcases hB.2 with z0|⟨mb,mo,rfl,hcell⟩
 ·omega
 obtain ⟨P,C,J,p,c,k,q0,-,-,-,-,-,-,-,hme⟩:=hcell n hn
 have HFIX:Hid (∀g:Mg,g.A=A→g.M=some ⟨mb,mo,none⟩→g.I=I→∀h:Hp,h.file=f→h.input=input→Fix w g h):=fun g ga gm gi h hf hi=>⟨by rw [ga,hf];exact hA,by rw [gm,hf];exact hB,by rw [gi,hi];exact hI,by rw [hf];exact m1⟩
 have HVAL:Hid (∀w',Bl w w'→Calls Tryz.prog 72 #[.slice P (nth me0 f.methods n).params.length p,.slice R args.length rc] w' fun e w2=>e=.returned (.slice (some ⟨w'.heap.size,0,none⟩) (nth me0 f.methods n).params.length (nth me0 f.methods n).params.length)∧LBox w2 w'.heap.size (pvL (nth me0 f.methods n).params args (nth me0 f.methods n).params.length)∧Bl w' w2) :=
  fun w' hb=>values_any P R p n rc (nth me0 f.methods n).params args w' (hme.1.bl hb) (hR.bl hb) e6 p5 (fun q hq=>by
   have h1:=p9 _ (nth_mem (d:=ty0) hq)
   have h2:=hkk q hq
   unfold tyB at h1
   simp at h1
   omega)
 have HCALL:Hid (∀(Z:Nat→Prop) (V:World) (g:Mg) (gm:g.M=some ⟨mb,mo,none⟩) (w4:World) (b cap:Nat) (H:RR 0 Z V w g w4 (heapS f input fuel) []) (B:LBox w4 b (pvL (nth me0 f.methods n).params args (nth me0 f.methods n).params.length)),
   Calls Tryz.prog 71 #[.pointer (some ⟨g.r,0,none⟩),.int .i64 (n:Int),.slice (some ⟨b,0,none⟩) (nth me0 f.methods n).params.length cap] w4 fun e w'=>e=.returned (.tuple #[])∧∃k2:Kl,k2.c=newCal (nth me0 f.methods n) (pvL (nth me0 f.methods n).params args (nth me0 f.methods n).params.length)∧RR 0 Z V w g w' (heapC f input fuel) [k2]) :=
  fun Z V g gm w4 b cap H Bx=>call_start f n args input fuel w e1 hn e5 Z V g (by rw [gm];exact hB) w4 b cap H Bx
 have IM0:=start_im f input args fuel n e1 (mes_ok hB) (ints_ok hI) (ints_ok hR) e3 hn e5 e6
 have ED:=(run_ed fuel.toNat _ _ IM0.1).1
 have HTIL:Hid (∀(Z:Nat→Prop) (V:World) (g:Mg) (ga:g.A=A) (gm:g.M=some ⟨mb,mo,none⟩) (gi:g.I=I) (k2:Kl) (w5:World) (hk2:k2.c=newCal (nth me0 f.methods n) (pvL (nth me0 f.methods n).params args (nth me0 f.methods n).params.length)) (H:RR 0 Z V w g w5 (heapC f input fuel) [k2]),
   Calls Tryz.prog 74 #[.pointer (some ⟨g.r,0,none⟩)] w5 fun e w'=>TilQ Z V w g (runM fuel.toNat (heapC f input fuel) [newCal (nth me0 f.methods n) (pvL (nth me0 f.methods n).params args (nth me0 f.methods n).params.length)]) e w'):=fun Z V g ga gm gi k2 w5 hk2 H=>by
  have h0:=until_any (IMn f input) Z V w g fuel.toNat (heapC f input fuel) [k2] w5 H (by simp only [List.map_cons,List.map_nil,hk2];exact IM0) (step_ok f input w g m2.2 (by omega) (fun h hf hi=>HFIX.out g ga gm gi h hf hi))
  simp only [List.map_cons,List.map_nil,hk2] at h0
  exact h0
 generalize runM fuel.toNat (heapC f input fuel) [newCal (nth me0 f.methods n) (pvL (nth me0 f.methods n).params args (nth me0 f.methods n).params.length)]=o at *
 have HSH:Hid (∀(Z:Nat→Prop) (V:World) (g:Mg) (ga:g.A=A) (gm:g.M=some ⟨mb,mo,none⟩) (gi:g.I=I) (L:List Kl) (w6:World) (H:RR 0 Z V w g w6 o.h L),
   Calls Tryz.prog 73 #[.pointer (some ⟨g.r,0,none⟩),.agg #[.int .i64 o.how,.int .i64 (im o.v).kind,.int .i64 (im o.v).n]] w6 fun e w'=>ShownQ w w6 (finS o) e w') :=
  fun Z V g ga gm gi L w6 H=>shown_any f input Z V w g o L w6 H ED (HFIX.out g ga gm gi o.h ED.file ED.input)
 obtain ⟨s,hs⟩:∃s,finS o=s:=⟨_,rfl⟩
 rw [hs] at HSH ⊢
 have n0:(0:Int)≤(n:Int):=by omega
 have n1:(n:Int)<(f.methods.length:Int):=by omega
 obtain ⟨L0,L1⟩:=two_lie w #[.func (.func 30) #[] #[],.func (.func 31) #[] #[]] #[.slice A f.classes.length a,.slice (some ⟨mb,mo,none⟩) f.methods.length b] 61 25
 have HL0:Hid (_):=bl_blk ((Bl.refl ((w.alloc formO).alloc (filO f.classes.length f.methods.length A (some ⟨mb,mo,none⟩) a b))).alloc shMZ) L0
 have HL1:Hid (_):=bl_blk ((Bl.refl ((w.alloc formO).alloc (filO f.classes.length f.methods.length A (some ⟨mb,mo,none⟩) a b))).alloc shMZ) L1
 have HL2:Hid ((((w.alloc formO).alloc (filO f.classes.length f.methods.length A (some ⟨mb,mo,none⟩) a b)).alloc shMZ).heap[w.heap.size+1+1]?=some (.cells #[.int .i64 0,.int .i64 0,.int .i64 0,.slice none 0 0,.int .i64 0,.int .i64 0] 28 (0,0))):=by
  have:=blk_new ((w.alloc formO).alloc (filO f.classes.length f.methods.length A (some ⟨mb,mo,none⟩) a b)) #[.int .i64 0,.int .i64 0,.int .i64 0,.slice none 0 0,.int .i64 0,.int .i64 0] 28
  rw [World.size_alloc,World.size_alloc] at this
  exact this
 clear hA hB hI hR hM hE e1 e2 e3 e4 e5 e6 m1 m2 m3 p1 p2 p3 p5 p6 p7 p8 p9 p10 p11 hkk hcell hme IM0 ED hs HB0 L0 L1 hn
 go_enter Tryz.func32,Tryz.ntmps32
 go_wp2_with (go_at_call 69;refine (HREF.out _ HAL.out).mono ?_;rintro e w1 ⟨rfl,b1⟩;have B1:=hid b1;have y0:=bl_blk b1 HL0.out;have y1:=bl_blk b1 HL1.out;have HT4:Hid (∀w',Bl w1 w'→(fun w'=>Hid (Bl w1 w')∧w'.cell? ⟨w.heap.size+1,0,none⟩=some (.slice A f.classes.length a)∧w'.cell? ⟨w.heap.size+1,1,none⟩=some (.slice (some ⟨mb,mo,none⟩) f.methods.length b)∧w'.cell? ⟨w.heap.size,1,none⟩=some (.func (.func 31) #[] #[])) w'):=(fun w' hb=>⟨hb,(cell_blk (bl_blk hb y1)).trans rfl,(cell_blk (bl_blk hb y1)).trans rfl,(cell_blk (bl_blk hb y0)).trans rfl⟩);have hHeld0b:=(HT4.out w1 (Bl.refl w1)).2.2.1;clear b1 y0 y1)
 refine wp_region_held_drew (S:=fun w'=>Hid (Bl w1 w')∧w'.cell? ⟨w.heap.size+1,0,none⟩=some (.slice A f.classes.length a)∧w'.cell? ⟨w.heap.size+1,1,none⟩=some (.slice (some ⟨mb,mo,none⟩) f.methods.length b)∧w'.cell? ⟨w.heap.size,1,none⟩=some (.func (.func 31) #[] #[])) (by kernel_rfl) ?_ (fun hHeld0=>?_)
 ·exact HT4.out _ (Bl.refl _).drew
 refine tk (i:=0) (d:=some 27) rfl rfl (by kernel_rfl) (fun _ _ _ h=>h) (by rfl) (by intro _ h;(try dsimp only at h);go_split_ands;go_simp<;>with_reducible rfl) hHeld0 ?_
 try simp only [aS,aN,aT,a0,a1]
 refine tk (i:=1) (d:=some 28) rfl rfl (by kernel_rfl) (fun _ _ _ h=>h) (by rfl) (by intro _ h;(try dsimp only at h);go_split_ands;go_simp<;>with_reducible rfl) hHeld0 ?_
 try simp only [aS,aN,aT,a0,a1]
 refine tk (i:=3) (d:=some 30) rfl rfl (by kernel_rfl) (fun _ _ _ h=>h) (by rfl) (by intro _ h;(try dsimp only at h);go_split_ands;go_simp<;>with_reducible rfl) hHeld0 ?_
 try simp only [aS,aN,aT,a0,a1]
 refine tk (i:=4) (d:=some 31) rfl rfl (by kernel_rfl) (fun _ _ _ h=>h) (by rfl) (by intro _ h;(try dsimp only at h);go_split_ands;go_simp<;>with_reducible rfl) hHeld0 ?_
 try simp only [aS,aN,aT,a0,a1]
 refine tk (i:=5) (d:=some 32) rfl rfl (by kernel_rfl) (fun _ _ _ h=>h) (by rfl) (by intro _ h;(try dsimp only at h);go_split_ands;go_simp<;>with_reducible rfl) hHeld0 ?_
 try simp only [aS,aN,aT,a0,a1]
 refine tk (i:=6) (d:=some 33) rfl rfl (by kernel_rfl) (fun _ _ _ h=>h) (by rfl) (by intro _ h;(try dsimp only at h);go_split_ands;go_simp<;>with_reducible rfl) hHeld0 ?_
 try simp only [aS,aN,aT,a0,a1]
 refine tk (i:=7) (d:=some 34) rfl rfl (by kernel_rfl) (fun _ _ _ h=>h) (by rfl) (by intro _ h;(try dsimp only at h);go_split_ands;go_simp<;>with_reducible rfl) hHeld0 ?_
 try simp only [aS,aN,aT,a0,a1]
 refine tk (i:=8) (d:=some 35) rfl rfl (by kernel_rfl) (fun _ _ _ h=>h) (by rfl) (by intro _ h;(try dsimp only at h);go_split_ands;go_simp<;>with_reducible rfl) hHeld0 ?_
 try simp only [aS,aN,aT,a0,a1]
 refine rd1 (i:=2) (by kernel_rfl) rfl fun K hK=>?_
 go_simp
 go_at_call 70
 refine (newHeap_any A f.classes.length a w1.drew).mono ?_
 rintro e w2 ⟨he,hw2⟩
 have he':e=.returned (.pointer (some ⟨w1.heap.size+1,0,none⟩)):=he
 clear he
 subst he'
 have HW2:Hid (w2=(w1.drew.alloc (.map #[] 0)).alloc (heapZ A f.classes.length a w1.heap.size)):=hw2
 have B2:Hid (Bl w1 w2):=by rw [HW2.out];exact ((Bl.refl w1).drew.alloc _).alloc _
 clear hw2
 go_wp2_with fail
 refine hK.out _ _ (HT4.out _ B2.out) (fun hHeld1=>?_)
 try simp only [aS,aN,aT,a0,a1]
 refine tk (i:=9) (d:=some 36) rfl rfl (by kernel_rfl) (fun _ _ _ h=>h) (by rfl) (by intro _ h;(try dsimp only at h);go_split_ands;go_simp<;>with_reducible rfl) hHeld1 ?_
 try simp only [aS,aN,aT,a0,a1]
 refine rd1 (i:=10) (by kernel_rfl) rfl fun K hK=>?_
 go_simp
 refine hK.out _ _ (HT4.out _ (B2.out.alloc _)) (fun hHeld2=>?_)
 try simp only [aS,aN,aT,a0,a1]
 refine tk (i:=11) (d:=some 15) rfl rfl (by kernel_rfl) (fun _ _ _ h=>h) (by rfl) (by intro _ h;(try dsimp only at h);go_split_ands;go_simp<;>with_reducible rfl) hHeld2 ?_
 try simp only [aS,aN,aT,a0,a1]
 refine wpAnyH_done (by kernel_rfl) ?_ _
 have hs2:w2.heap.size=w1.heap.size+2:=by rw [HW2.out];simp
 obtain ⟨V,hV⟩:∃V,V=w2.alloc (.cells #[.pointer (some ⟨w1.heap.size+1,0,none⟩),.slice (some ⟨mb,mo,none⟩) f.methods.length b,.func (.func 31) #[] #[],.slice none 0 0,.slice I input.length ic,.int .i64 fuel,.int .i64 0,.int .i64 0,.slice none 0 0] 112):=⟨_,rfl⟩
 have HV:Hid (Bl w1 V):=by rw [hV];exact B2.out.alloc _
 have HRR:Hid (RR 0 (fun b=>b<w1.heap.size) V w ⟨w2.heap.size,w1.heap.size+1,w1.heap.size,A,a,some ⟨mb,mo,none⟩,b,I,ic⟩ V (heapS f input fuel) []):=by
  refine start_rz f input fuel w V _ (fun b=>b<w1.heap.size) ((HAL.out.trans B1.out).trans HV.out) ?_ ?_ ?_ ?_ ?_ ?_ ?_ ?_
  ·show w.heap.size≤w2.heap.size
   have:=HAL.out.size;have:=B1.out.size;omega
  ·show w.heap.size≤w1.heap.size+1
   have:=HAL.out.size;have:=B1.out.size;omega
  ·show w.heap.size≤w1.heap.size
   have:=HAL.out.size;have:=B1.out.size;omega
  ·rw [hV];exact blk_new _ _ _
  ·rw [hV]
   refine bl_blk ((Bl.refl w2).alloc _) ?_
   rw [HW2.out]
   have:=blk_new (w1.drew.alloc (.map #[] 0)) #[.slice A f.classes.length a,.slice none 0 0,.map (some w1.heap.size)] 217
   have e:(w1.drew.alloc (.map #[] 0)).heap.size=w1.heap.size+1:=by simp
   rw [e] at this
   exact this
  ·have hm:w2.ownsMap Tryz.prog 303 mvElem w1.heap.size 0 (.map []):=by rw [HW2.out];exact ownsMap_at rfl _
   rw [hV]
   exact hm.alloc _
  ·intro b hb
   show b≠w2.heap.size∧b≠w1.heap.size+1∧b≠w1.heap.size
   omega
  ·intro b hb
   have:=HV.out.size;omega
 have x1:V.cell? ⟨w.heap.size+1,1,none⟩=some (.slice (some ⟨mb,mo,none⟩) f.methods.length b):=HV.out.cell hHeld0b
 have x2:V.cell? ⟨mb,mo+n*8,none⟩=some (.slice P (nth me0 f.methods n).params.length p):=((HAL.out.trans B1.out).trans HV.out).cell q0
 rw [←hV]
 clear hV hs2
 have HZ:Hid (∀w':World,(∀b':Nat,b'<w1.heap.size→w'.heap[b']?=V.heap[b']?)→w'.heap[w.heap.size+1+1]?=some (.cells #[.int .i64 0,.int .i64 0,.int .i64 0,.slice none 0 0,.int .i64 0,.int .i64 0] 28 (0,0))):=fun w' hw'=>by
  have hlt:w.heap.size+1+1<w1.heap.size:=Nat.lt_of_lt_of_le (lt_some HL2.out) B1.out.size
  rw [hw' _ hlt]
  exact bl_blk (B1.out.trans HV.out) HL2.out
 clear hHeld2 hHeld0 hHeld1 hHeld0b q0
 go_wp2_with (first
  | (go_at_call 72;refine (HVAL.out V ((HAL.out.trans B1.out).trans HV.out)).mono ?_;rintro e w4 ⟨rfl,lb4,b4⟩;replace lb4:=hid lb4;replace b4:=hid b4)
  | (go_at_call 71;refine (HCALL.out (fun b=>b<w1.heap.size) V ⟨w2.heap.size,w1.heap.size+1,w1.heap.size,A,a,some ⟨mb,mo,none⟩,b,I,ic⟩ rfl w4 _ _ (HRR.out.bl b4.out) lb4.out).mono ?_;rintro e w5 ⟨rfl,k2,hk2,H5⟩;replace H5:=hid H5;replace hk2:=hid hk2)
  | (go_at_call 74;refine (HTIL.out (fun b=>b<w1.heap.size) V ⟨w2.heap.size,w1.heap.size+1,w1.heap.size,A,a,some ⟨mb,mo,none⟩,b,I,ic⟩ rfl rfl rfl k2 w5 hk2.out H5.out).mono ?_;rintro e w6 ⟨rfl,L6,H6⟩;have Q6:=hid H6;clear H6)
  | (go_at_call 73;refine (HSH.out (fun b=>b<w1.heap.size) V ⟨w2.heap.size,w1.heap.size+1,w1.heap.size,A,a,some ⟨mb,mo,none⟩,b,I,ic⟩ rfl rfl rfl L6 w6 Q6.out).mono ?_;rintro e w7 ⟨vx,rfl,ow,b7⟩;obtain ⟨Ax,cx,rfl,-,-⟩:=own_form ow;have q7:=bl_blk b7 (HZ.out w6 (fun b' hb'=>(Q6.out.z (Z:=fun b=>b<w1.heap.size) hb')));have z0:w7.cell? ⟨w.heap.size+1+1,0,none⟩=some (.int .i64 0):=(cell_blk q7).trans rfl;have z1:w7.cell? ⟨w.heap.size+1+1,1,none⟩=some (.int .i64 0):=(cell_blk q7).trans rfl;have z2:w7.cell? ⟨w.heap.size+1+1,2,none⟩=some (.int .i64 0):=(cell_blk q7).trans rfl;have z3:w7.cell? ⟨w.heap.size+1+1,3,none⟩=some (.slice none 0 0):=(cell_blk q7).trans rfl;have z4:w7.cell? ⟨w.heap.size+1+1,4,none⟩=some (.int .i64 0):=(cell_blk q7).trans rfl;have z5:w7.cell? ⟨w.heap.size+1+1,5,none⟩=some (.int .i64 0):=(cell_blk q7).trans rfl;have fr:=free_blk q7;replace q7:=hid q7;have OW:=hid ow;have B7:=hid b7;clear ow b7))
 refine bodyPost_ret (results_cell_tmpm rfl _ _ (w.heap.size+1+1) _ _ (.int .i64 0) _ _ rfl rfl (set_six6 q7.out _ _ _ _ _ _) Tryz.underlying28 rfl info_shm) rfl ?_
 exact ⟨_,rfl,row_six OW.out q7.out _ _ _ _ _ _,bl_six6 (Q6.out.bl0.trans B7.out) (by omega) _ _ _ _ _ _⟩
abbrev runA (f:Fi) (A B R I:Option Addr) (a b rc ic:Nat) (entry fuel:Int) (args input:List Int):Array Value:=#[filV f.classes.length f.methods.length A B a b,.int .i64 entry,.slice R args.length rc,.slice I input.length ic,.int .i64 fuel]
theorem row_low {w:World} {base base':Nat} {e:TypeId} {size n:Nat} {v:Value} {xs:List Value} (h:w.ownsRow base e size v n xs) (hb:base'≤base):w.ownsRow base' e size v n xs:=by
 refine ⟨h.1,?_⟩
 rcases h.2 with h1|⟨gb,cap,cur,e1,h2,h3⟩
 ·exact Or.inl h1
 ·exact Or.inr ⟨gb,cap,cur,e1,Nat.le_trans hb h2,h3⟩
theorem file_box (f:Fi) (A B:Option Addr) (a b:Nat) (w:World):((w.alloc (filO f.classes.length f.methods.length A B a b)).alloc shMZ).heap[w.heap.size]?=some (.cells #[.slice A f.classes.length a,.slice B f.methods.length b] 25 (0,0))∧((w.alloc (filO f.classes.length f.methods.length A B a b)).alloc shMZ).heap[w.heap.size+1]?=some (.cells #[.int .i64 0,.int .i64 0,.int .i64 0,.slice none 0 0,.int .i64 0,.int .i64 0] 28 (0,0)) :=
 two_lie w _ _ _ _
theorem form_box (f:Fi) (A B:Option Addr) (a b:Nat) (w:World):Bl w (((w.alloc (filO f.classes.length f.methods.length A B a b)).alloc shMZ).alloc formO)∧(((w.alloc (filO f.classes.length f.methods.length A B a b)).alloc shMZ).alloc formO).heap[w.heap.size+1]?=some (.cells #[.int .i64 0,.int .i64 0,.int .i64 0,.slice none 0 0,.int .i64 0,.int .i64 0] 28 (0,0)) :=
 ⟨(((Bl.refl w).alloc _).alloc _).alloc _,bl_blk ((Bl.refl _).alloc _) (file_box f A B a b w).2⟩
theorem rrun_bad (f:Fi) (A B R I:Option Addr) (a b rc ic:Nat) (entry fuel:Int) (args input:List Int) (w:World) (E:Int)
  (hF:∀w',Bl w w'→Calls Tryz.prog 32 #[formV,filV f.classes.length f.methods.length A B a b,.int .i64 entry,.slice R args.length rc,.slice I input.length ic,.int .i64 fuel] w' fun e w2=>e=.returned (.tuple #[.agg #[.int .i64 0,.int .i64 0,.int .i64 0,.slice none 0 0,.int .i64 0,.int .i64 0],.int .i64 E])∧Bl w' w2) :
  Calls Tryz.prog 12 (runA f A B R I a b rc ic entry fuel args input) w fun e w'=>e=.returned (.tuple #[.agg #[.int .i64 0,.int .i64 0,.int .i64 0,.slice none 0 0,.int .i64 0,.int .i64 0],.int .i64 E])∧Bl w w':=by
 have HF:=hid hF
 have HL:=hid (form_box f A B a b w)
 clear hF
 go_enter Tryz.func12,Tryz.ntmps12
 go_wp2_with (go_at_call 32;refine (HF.out _ HL.out.1).mono ?_;rintro e w1 ⟨rfl,b1⟩;have q1:=bl_blk b1 HL.out.2;have z0:w1.cell? ⟨w.heap.size+1,0,none⟩=some (.int .i64 0):=(cell_blk q1).trans rfl;have z1:w1.cell? ⟨w.heap.size+1,1,none⟩=some (.int .i64 0):=(cell_blk q1).trans rfl;have z2:w1.cell? ⟨w.heap.size+1,2,none⟩=some (.int .i64 0):=(cell_blk q1).trans rfl;have z3:w1.cell? ⟨w.heap.size+1,3,none⟩=some (.slice none 0 0):=(cell_blk q1).trans rfl;have z4:w1.cell? ⟨w.heap.size+1,4,none⟩=some (.int .i64 0):=(cell_blk q1).trans rfl;have z5:w1.cell? ⟨w.heap.size+1,5,none⟩=some (.int .i64 0):=(cell_blk q1).trans rfl;have fr:=free_blk q1;replace q1:=hid q1;have B1:=hid b1;clear b1)
 refine bodyPost_ret (results_cell_tmpm rfl _ _ (w.heap.size+1) _ _ (.int .i64 E) _ _ rfl rfl (set_six6 q1.out _ _ _ _ _ _) Tryz.underlying28 rfl info_shm) rfl ?_
 exact ⟨rfl,bl_six6 (HL.out.1.trans B1.out) (Nat.le_succ _) _ _ _ _ _ _⟩
theorem rrun_ok (f:Fi) (A B R I:Option Addr) (a b rc ic:Nat) (entry fuel:Int) (args input:List Int) (w:World) (s:Sh)
  (hF:∀w',Bl w w'→Calls Tryz.prog 32 #[formV,filV f.classes.length f.methods.length A B a b,.int .i64 entry,.slice R args.length rc,.slice I input.length ic,.int .i64 fuel] w' fun e w2=>RunEnd w' s e w2) :
  Calls Tryz.prog 12 (runA f A B R I a b rc ic entry fuel args input) w fun e w'=>RunEnd w s e w':=by
 have HF:=hid hF
 have HL:=hid (form_box f A B a b w)
 clear hF
 go_enter Tryz.func12,Tryz.ntmps12
 go_wp2_with (go_at_call 32;refine (HF.out _ HL.out.1).mono ?_;rintro e w1 ⟨vx,rfl,ow,b1⟩;obtain ⟨Ax,cx,rfl,-,-⟩:=own_form ow;have q1:=bl_blk b1 HL.out.2;have z0:w1.cell? ⟨w.heap.size+1,0,none⟩=some (.int .i64 0):=(cell_blk q1).trans rfl;have z1:w1.cell? ⟨w.heap.size+1,1,none⟩=some (.int .i64 0):=(cell_blk q1).trans rfl;have z2:w1.cell? ⟨w.heap.size+1,2,none⟩=some (.int .i64 0):=(cell_blk q1).trans rfl;have z3:w1.cell? ⟨w.heap.size+1,3,none⟩=some (.slice none 0 0):=(cell_blk q1).trans rfl;have z4:w1.cell? ⟨w.heap.size+1,4,none⟩=some (.int .i64 0):=(cell_blk q1).trans rfl;have z5:w1.cell? ⟨w.heap.size+1,5,none⟩=some (.int .i64 0):=(cell_blk q1).trans rfl;have fr:=free_blk q1;replace q1:=hid q1;have B1:=hid b1;have OW:=hid ow;clear b1 ow)
 refine bodyPost_ret (results_cell_tmpm rfl _ _ (w.heap.size+1) _ _ (.int .i64 0) _ _ rfl rfl (set_six6 q1.out _ _ _ _ _ _) Tryz.underlying28 rfl info_shm) rfl ?_
 exact ⟨_,rfl,row_six (row_low OW.out (HL.out.1.size)) q1.out _ _ _ _ _ _,bl_six6 (HL.out.1.trans B1.out) (Nat.le_succ _) _ _ _ _ _ _⟩
end Go.Proofs.YtgiiapenmjollabGreat
