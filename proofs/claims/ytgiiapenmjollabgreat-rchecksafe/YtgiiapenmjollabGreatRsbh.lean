import Derived.Test.YtgiiapenmjollabGreatRsbg
namespace Go.Proofs.YtgiiapenmjollabGreat
set_option linter.all false
set_option maxHeartbeats 40000000
set_option maxRecDepth 100000
open Go.RowKit
section
abbrev insV (op a b c n:Int) (v:Value):Value:=.agg #[.int .i64 op,.int .i64 a,.int .i64 b,.int .i64 c,.int .i64 n,v]
abbrev insO (op a b c n:Int) (v:Value):Obj:=.cells #[.int .i64 op,.int .i64 a,.int .i64 b,.int .i64 c,.int .i64 n,v] 58
theorem info_type:(Tryz.prog.info? 46).map (·.size)=some 2:=by kernel_rfl
def rdE:Option Ty→Ending
 | none=>upE
 | some _=>.returned (.tuple #[])
def vlE:Option Ty→Ending
 | none=>upE
 | some v=>.returned (fvV v)
structure Rc (w:World) (g:Gf) (f:Fi) (s:As) (hv:Value):Prop where
 q0:w.cell? ⟨g.q,0,none⟩=some (.pointer (some ⟨g.p,0,none⟩))
 q2:w.cell? ⟨g.q,2,none⟩=some hv
 hd:RV w hv s.stk
 sl:∃gb cap base,Sl w g.p gb cap base s.slots
 j14:w.cell? ⟨g.p,14,none⟩=some g.c14
 jn:JnAt w g.c14 f.classes
 cl:∃A c,w.cell? ⟨g.p,2,none⟩=some (.slice A f.classes.length c)∧ClsAt w A f.classes
 rf:∀t∈s.slots,refOk f.classes.length t
theorem JnAt.bl2 {w w':World} {v:Value} {cs:List Cl} (h:JnAt w v cs) (b:Bl w w'):JnAt w' v cs:=by
 obtain ⟨jb,jo,jc,h1,h2⟩:=h
 refine ⟨jb,jo,jc,h1,fun i hi=>?_⟩
 obtain ⟨rb,ro,rc,a1,a2⟩:=h2 i hi
 exact ⟨rb,ro,rc,b.cell a1,fun j hj=>b.cell (a2 j hj)⟩
theorem Rc.bl {w w':World} {g:Gf} {f:Fi} {s:As} {hv:Value} (R:Rc w g f s hv) (b:Bl w w'):Rc w' g f s hv:=by
 obtain ⟨gb,cap,base,hs⟩:=R.sl
 obtain ⟨A,c,h1,h2⟩:=R.cl
 exact ⟨b.cell R.q0,b.cell R.q2,R.hd.bl b,⟨gb,cap,base,hs.bl b⟩,b.cell R.j14,R.jn.bl2 b,⟨A,c,b.cell h1,h2.bl b⟩,R.rf⟩
section
variable {w:World} {g:Gf} {f:Fi} {s:As} {hv:Value}
theorem qread_any (R:Rc w g f s hv) (a:Nat) (k:Int) (ha:a<s.slots.length) :
  Calls Tryz.prog 220 #[.pointer (some ⟨g.p,0,none⟩),.int .i64 (a:Int),.int .i64 k] w fun e w'=>e=vlE (rdT k a s)∧Bl w w':=by
 obtain ⟨gb,cap,base,hs⟩:=R.sl
 refine (fread_any g.p gb cap base s.slots a k w hs ha).mono ?_
 rintro e w' ⟨rfl,b⟩
 refine ⟨?_,b⟩
 unfold rdT
 rw [Int.toNat_natCast]
 split<;>rfl
theorem qtype_any (R:Rc w g f s hv) (a:Nat) (t:Ty) (ha:a<s.slots.length) (ht:t.kind=3→0≤t.cls∧t.cls<f.classes.length) :
  Calls Tryz.prog 280 #[.pointer (some ⟨g.q,0,none⟩),.int .i64 (a:Int),.agg #[.int .i64 t.kind,.int .i64 t.cls]] w fun e w'=>e=rdE (rdY f.classes t a s)∧Bl w w':=by
 have HB:Hid (Bl w (w.alloc (.cells #[.int .i64 t.kind,.int .i64 t.cls] 46))):=(Bl.refl w).alloc _
 have ZB:=hid (mblk (w:=w) (cs:=#[.int .i64 t.kind,.int .i64 t.cls]) (t:=46) rfl)
 have HR:=hid (R.bl HB.out)
 have HA:=hid ha
 have HT:=hid ht
 have hq:=cell_lt HR.out.q0
 have hwl:=lt_some ZB.out
 clear R ha ht
 go_enter Tryz.func280,Tryz.ntmps280
 go_wp2
 generalize w.alloc (.cells #[.int .i64 t.kind,.int .i64 t.cls] 46)=V at *
 refine wp_region_held_drew (S:=fun w'=>w'.cell? ⟨g.q,0,none⟩=some (.pointer (some ⟨g.p,0,none⟩))∧w'.cell? ⟨w.heap.size,0,none⟩=some (.int .i64 t.kind)∧w'.cell? ⟨w.heap.size,1,none⟩=some (.int .i64 t.cls)) (by kernel_rfl) ?_ (fun hHeld0=>?_)
 ·exact ⟨HR.out.q0,c0_of ZB.out,c1_of ZB.out⟩
 iterate 14 (refine tn rfl (by kernel_rfl) (fun _ _ _ h=>h) (by intro _ h;go_split_ands;go_simp<;>with_reducible rfl) hHeld0 ?_;try simp only [aZ])
 refine rd1 (i:=13) (by kernel_rfl) rfl fun K hK=>?_
 go_simp
 go_at_call 220
 have R1:=hid (HR.out.bl (Bl.refl V).drew)
 refine (qread_any R1.out a t.kind HA.out).mono ?_
 rintro e w2 ⟨he,b2⟩
 have B2:=hid (HB.out.trans ((Bl.refl V).drew.trans b2))
 have R2:=hid (R1.out.bl b2)
 have Z2:=hid (bl_blk ((Bl.refl V).drew.trans b2) ZB.out)
 clear b2
 cases hv1:rdT t.kind a s with
 | none =>
  rw [hv1] at he
  subst he
  refine ⟨rfl,?_,B2.out⟩
  unfold rdY
  rw [hv1]
  rfl
 | some v =>
  rw [hv1] at he
  subst he
  have e1:=(rdT_eq hv1).1
  rw [Int.toNat_natCast] at e1
  have hrf:refOk f.classes.length v:=by rw [e1];exact R2.out.rf _ (nth_mem HA.out)
  have HY:Hid (rdY f.classes t a s=if fitB f.classes v t=true then some v else none):=by show _=_;unfold rdY;rw [hv1];rfl
  have HRF:=hid hrf
  clear hv1 e1 hrf
  refine hK.out _ _ ⟨R2.out.q0,c0_of Z2.out,c1_of Z2.out⟩ (fun hHeld1=>?_)
  try simp only [aZ]
  clear hK
  refine rd1 (i:=15) (by kernel_rfl) rfl fun K hK=>?_
  go_simp
  go_at_call 307
  refine (mustfit_any f.classes g.p g.c14 v t w2 R2.out.j14 R2.out.jn HRF.out HT.out).mono ?_
  rintro e w3 ⟨he,b3⟩
  have R3:=hid (R2.out.bl b3)
  have Z3:=hid (bl_blk b3 Z2.out)
  have B3:=hid (B2.out.trans b3)
  clear b3
  cases hf:fitB f.classes v t with
  | false =>
   have:e=upE:=by rw [he];unfold fitE;rw [hf];rfl
   subst this
   refine ⟨rfl,?_,B3.out⟩
   rw [HY.out,hf]
   rfl
  | true =>
   have:e=.returned (fvV v):=by rw [he];unfold fitE;rw [hf];rfl
   subst this
   have HF:=hid hf
   clear hf he
   refine hK.out _ _ ⟨R3.out.q0,c0_of Z3.out,c1_of Z3.out⟩ (fun hHeld2=>?_)
   try simp only [aZ]
   clear hK hHeld0 hHeld1 hHeld2
   refine wpAnyH_done (by kernel_rfl) ?_ _
   go_wp2
   go_end0
   refine ⟨?_,B3.out⟩
   rw [HY.out,HF.out]
   rfl
theorem qref_any (R:Rc w g f s hv) (a:Nat) (c:Int) (ha:a<s.slots.length) (hc:0≤c∧c<f.classes.length) :
  Calls Tryz.prog 281 #[.pointer (some ⟨g.q,0,none⟩),.int .i64 (a:Int),.int .i64 c] w fun e w'=>e=rdE (rdY f.classes ⟨3,c⟩ a s)∧Bl w w':=by
 have K:=hid (qtype_any R a ⟨3,c⟩ ha (fun _=>hc))
 clear R ha hc
 cases hr:rdY f.classes ⟨3,c⟩ a s with
 | none =>
  rw [hr] at K
  clear hr
  go_enter Tryz.func281,Tryz.ntmps281
  go_wp2_with (go_at_call 280;refine K.out.mono ?_;rintro e w2 ⟨he,b2⟩;have he:e=upE:=he;subst he)
  exact ⟨rfl,rfl,b2⟩
 | some v =>
  rw [hr] at K
  clear hr
  go_enter Tryz.func281,Tryz.ntmps281
  go_wp2_with (go_at_call 280;refine K.out.mono ?_;rintro e w2 ⟨he,b2⟩;have he:e=.returned (.tuple #[]):=he;subst he)
  go_end0
  exact ⟨rfl,b2⟩
theorem qfield_any (R:Rc w g f s hv) (op ia ib:Int) (ic ii:Nat) (A0:Option Addr) (n0 k0:Nat) (ha:ic<f.classes.length) (hb:ii<(nth cl0 f.classes ic).fields.length) :
  Calls Tryz.prog 282 #[.pointer (some ⟨g.q,0,none⟩),insV op ia ib ic ii (.slice A0 n0 k0)] w fun e w'=>e=.returned (fvV (nth ty0 (nth cl0 f.classes ic).fields ii))∧Bl w w':=by
 have q0:=R.q0
 have hq:=cell_lt q0
 obtain ⟨A,c,p2,hA⟩:=R.cl
 have hp:=cell_lt p2
 rcases hA.2 with h0|⟨cb,co,rfl,hc⟩
 ·omega
 obtain ⟨-,-,A',c',x1,hT⟩:=hc ic ha
 rcases hT.2 with h0|⟨tb,to,rfl,ht⟩
 ·omega
 obtain ⟨y0,y1,-,-⟩:=ht ii hb
 have hx:=cell_lt x1
 have hy:=cell_lt y0
 have ia0:¬(ic:Int)<0:=by omega
 have ia1:(ic:Int)<(f.classes.length:Int):=by omega
 have ib0:¬(ii:Int)<0:=by omega
 have ib1:(ii:Int)<((nth cl0 f.classes ic).fields.length:Int):=by omega
 clear R hA hc hT ht
 go_enter Tryz.func282,Tryz.ntmps282
 go_wp2
 go_region
 go_wp2
 refine bodyPost_ret (results_cell_row rfl _ _ (w.heap.size+1) _ _ _ _ rfl (bl_blk (Bl.refl _).drew (mblk (by simp))) Tryz.underlying46 rfl info_type) rfl ?_
 exact ⟨rfl,(((Bl.refl w).alloc _).alloc _).drew⟩
theorem qfetch_any (R:Rc w g f s hv) (k:Int) :
  Calls Tryz.prog 308 #[.pointer (some ⟨g.q,0,none⟩),.int .i64 k] w fun e w'=>e=vlE (fetchT k s)∧Bl w w':=by
 have q2:=R.q2
 have hq:=cell_lt q2
 have BA:Hid (Bl w (w.alloc fvZ)):=(Bl.refl w).alloc _
 have ZB:=hid (mblk (w:=w) (cs:=#[.int .i64 0,.int .i64 0]) (t:=243) rfl)
 obtain ⟨A,c,rfl,hl,h2⟩:=R.hd
 clear R
 rcases h2 with h0|⟨ob,rfl,hR⟩
 ·have e1:fetchT k s=none:=by unfold fetchT;rw [if_pos h0]
  rw [e1]
  rw [h0] at q2
  clear h0 hl e1
  go_enter Tryz.func308,Tryz.ntmps308
  go_wp2_with (go_at_call 286;refine (up_any _).mono ?_;rintro e w2 ⟨rfl,hw⟩;rw [hw];clear hw w2)
  exact ⟨rfl,rfl,BA.out⟩
 ·by_cases h0:s.stk.length=0
  ·have e1:fetchT k s=none:=by unfold fetchT;rw [if_pos h0]
   rw [e1]
   rw [h0] at q2
   clear h0 hl e1 hR
   go_enter Tryz.func308,Tryz.ntmps308
   go_wp2_with (go_at_call 286;refine (up_any _).mono ?_;rintro e w2 ⟨rfl,hw⟩;rw [hw];clear hw w2)
   exact ⟨rfl,rfl,BA.out⟩
  ·obtain ⟨x0,x1⟩:=hR.c 0 (by omega)
   have x0:w.cell? ⟨ob,0,none⟩=some (.int .i64 (nth ty0 s.stk 0).kind):=by simpa using x0
   have x1:w.cell? ⟨ob,1,none⟩=some (.int .i64 (nth ty0 s.stk 0).cls):=by simpa using x1
   have hx:=cell_lt x0
   have hn:(s.stk.length==0)=false:=by simpa using h0
   have hz:((s.stk.length:Int)==0)=false:=by simpa using h0
   have hlt:(0:Int)<(s.stk.length:Int):=by omega
   have e1:fetchT k s=if (nth ty0 s.stk 0).kind=k then some (nth ty0 s.stk 0) else none:=by unfold fetchT;rw [if_neg h0]
   rw [e1]
   clear hR e1 h0 hl
   generalize nth ty0 s.stk 0=v at *
   by_cases hk:v.kind=k
   ·rw [if_pos hk]
    have HK:=hid hk
    clear hk
    go_enter Tryz.func308,Tryz.ntmps308
    go_wp2_with (go_at_call 279;refine (fmust_yes _ _ _ HK.out).mono ?_;rintro e w2 ⟨rfl,b2⟩;have B2:=hid (BA.out.trans b2);have Z2:=hid (bl_blk b2 ZB.out);have r0:=c0_of Z2.out;have r1:=c1_of Z2.out;have rf:=free_blk Z2.out;have rl:=lt_some Z2.out;clear b2)
    refine bodyPost_ret (results_cell_row rfl _ _ w.heap.size _ _ _ _ rfl (block_set (block_set Z2.out _) _) Tryz.underlying243 rfl info_fv) rfl ?_
    exact ⟨rfl,(B2.out.setCell (Nat.le_refl _) _).setCell (Nat.le_refl _) _⟩
   ·rw [if_neg hk]
    have HK:=hid hk
    clear hk
    go_enter Tryz.func308,Tryz.ntmps308
    go_wp2_with (go_at_call 279;refine (fmust_no _ _ _ HK.out).mono ?_;rintro e w2 ⟨rfl,b2⟩)
    exact ⟨rfl,rfl,BA.out.trans b2⟩
theorem qtwo_any (R:Rc w g f s hv) (k op ia:Int) (ib ic:Nat) (ii:Int) (A0:Option Addr) (n0 k0:Nat) (hb:ib<s.slots.length) (hc:ic<s.slots.length) (t:Ty) :
  Calls Tryz.prog 321 #[.pointer (some ⟨g.q,0,none⟩),.int .i64 k,insV op ia ib ic ii (.slice A0 n0 k0)] w fun e w'=>e=rdE (two k ib ic s t)∧Bl w w':=by
 have HB:Hid (Bl w (w.alloc (insO op ia ib ic ii (.slice A0 n0 k0)))):=(Bl.refl w).alloc _
 have ZB:=hid (mblk (w:=w) (cs:=#[.int .i64 op,.int .i64 ia,.int .i64 ib,.int .i64 ic,.int .i64 ii,.slice A0 n0 k0]) (t:=58) rfl)
 have HR:=hid (R.bl HB.out)
 have HBB:=hid hb
 have HCC:=hid hc
 have hq:=cell_lt HR.out.q0
 have hwl:=lt_some ZB.out
 obtain ⟨r,hr⟩:∃r,r=two k ib ic s t:=⟨_,rfl⟩
 rw [←hr]
 replace hr:=hid hr
 clear R hb hc
 go_enter Tryz.func321,Tryz.ntmps321
 go_wp2
 generalize w.alloc (insO op ia ib ic ii (.slice A0 n0 k0))=V at *
 refine wp_region_held_drew (S:=fun w'=>w'.cell? ⟨g.q,0,none⟩=some (.pointer (some ⟨g.p,0,none⟩))∧w'.cell? ⟨w.heap.size,2,none⟩=some (.int .i64 ib)) (by kernel_rfl) ?_ (fun hHeld0=>?_)
 ·exact ⟨HR.out.q0,(cell_blk ZB.out).trans rfl⟩
 iterate 9 (refine tn rfl (by kernel_rfl) (fun _ _ _ h=>h) (by intro _ h;go_split_ands;go_simp<;>with_reducible rfl) hHeld0 ?_;try simp only [aZ])
 refine rd1 (i:=9) (by kernel_rfl) rfl fun K hK=>?_
 go_simp
 go_at_call 220
 have R1:=hid (HR.out.bl (Bl.refl V).drew)
 refine (qread_any R1.out ib k HBB.out).mono ?_
 rintro e w2 ⟨he,b2⟩
 have B2:=hid (HB.out.trans ((Bl.refl V).drew.trans b2))
 have R2:=hid (R1.out.bl b2)
 have Z2:=hid (bl_blk ((Bl.refl V).drew.trans b2) ZB.out)
 clear b2
 cases hv1:rdT k ib s with
 | none =>
  rw [hv1] at he
  subst he
  refine ⟨rfl,?_,B2.out⟩
  rw [hr.out]
  unfold two
  rw [hv1]
  rfl
 | some v =>
  rw [hv1] at he
  subst he
  have HV1:=hid hv1
  clear hv1
  refine hK.out _ _ ⟨R2.out.q0,(cell_blk Z2.out).trans rfl⟩ (fun hHeld1=>?_)
  try simp only [aZ]
  clear hK hHeld0 hHeld1
  refine wpAnyH_done (by kernel_rfl) ?_ _
  go_wp2
  refine wp_region_held_drew (S:=fun w'=>w'.cell? ⟨g.q,0,none⟩=some (.pointer (some ⟨g.p,0,none⟩))∧w'.cell? ⟨w.heap.size,3,none⟩=some (.int .i64 ic)) (by kernel_rfl) ?_ (fun hHeld0=>?_)
  ·exact ⟨R2.out.q0,(cell_blk Z2.out).trans rfl⟩
  have hq2:=cell_lt R2.out.q0
  have hwl2:=lt_some Z2.out
  iterate 9 (refine tn rfl (by kernel_rfl) (fun _ _ _ h=>h) (by intro _ h;go_split_ands;go_simp<;>with_reducible rfl) hHeld0 ?_;try simp only [aZ])
  refine rd1 (i:=9) (by kernel_rfl) rfl fun K hK=>?_
  go_simp
  go_at_call 220
  have R3:=hid (R2.out.bl (Bl.refl w2).drew)
  refine (qread_any R3.out ic k HCC.out).mono ?_
  rintro e w4 ⟨he,b4⟩
  have B4:=hid (B2.out.trans ((Bl.refl w2).drew.trans b4))
  have R4:=hid (R3.out.bl b4)
  have Z4:=hid (bl_blk ((Bl.refl w2).drew.trans b4) Z2.out)
  clear b4
  cases hv2:rdT k ic s with
  | none =>
   rw [hv2] at he
   subst he
   refine ⟨rfl,?_,B4.out⟩
   rw [hr.out]
   unfold two
   rw [HV1.out,Option.bind_some,hv2]
   rfl
  | some v2 =>
   rw [hv2] at he
   subst he
   have HV2:=hid hv2
   clear hv2
   refine hK.out _ _ ⟨R4.out.q0,(cell_blk Z4.out).trans rfl⟩ (fun hHeld1=>?_)
   try simp only [aZ]
   clear hK hHeld0 hHeld1
   refine wpAnyH_done (by kernel_rfl) ?_ _
   go_wp2
   go_end0
   refine ⟨?_,B4.out⟩
   rw [hr.out]
   unfold two
   rw [HV1.out,Option.bind_some,HV2.out]
   rfl
end
end
section
section
variable {w:World} {g:Gf} {f:Fi} {s:As} {hv:Value}
theorem qnum5 (R:Rc w g f s hv) (ia:Int) (ib ic:Nat) (ii:Int) (hb:ib<s.slots.length) (hc:ic<s.slots.length) (A0:Option Addr) (n0 k0:Nat) :
  Calls Tryz.prog 309 #[.pointer (some ⟨g.q,0,none⟩),insV 5 ia ib ic ii (.slice A0 n0 k0)] w fun e w'=>e=vlE (two 1 ib ic s ⟨1,0⟩)∧Bl w w':=by
 have HB:Hid (Bl w ((w.alloc (insO 5 ia ib ic ii (.slice A0 n0 k0))).alloc fvZ)):=((Bl.refl w).alloc _).alloc _
 have ZB:Hid (((w.alloc (insO 5 ia ib ic ii (.slice A0 n0 k0))).alloc fvZ).heap[w.heap.size]?=some (.cells #[.int .i64 5,.int .i64 ia,.int .i64 ib,.int .i64 ic,.int .i64 ii,.slice A0 n0 k0] 58 (0,0))):=bl_blk ((Bl.refl _).alloc _) (mblk rfl)
 have ZV:Hid (((w.alloc (insO 5 ia ib ic ii (.slice A0 n0 k0))).alloc fvZ).heap[w.heap.size+1]?=some (.cells #[.int .i64 0,.int .i64 0] 243 (0,0))):=mblk (by simp)
 have R0:=hid (R.bl HB.out)
 have hq:=cell_lt R0.out.q0
 have hwl:=lt_some ZB.out
 have BV:=HB
 have YV:=ZV
 have RV0:=R0
 have K:=hid (fun (V:World) (RR:Rc V g f s hv)=>qtwo_any RR 1 5 ia ib ic ii A0 n0 k0 hb hc ⟨1,0⟩)
 have z0:((w.alloc (insO 5 ia ib ic ii (.slice A0 n0 k0))).alloc fvZ).cell? ⟨w.heap.size,0,none⟩=some (.int .i64 5):=(cell_blk ZB.out).trans rfl
 clear R hb hc
 cases hr:two 1 ib ic s ⟨1,0⟩ with
 | none =>
  rw [hr] at K
  clear hr z0
  go_enter Tryz.func309,Tryz.ntmps309
  go_wp2_with (go_at_call 321;refine (K.out _ R0.out).mono ?_;rintro e w2 ⟨he,b2⟩;have he:e=upE:=he;subst he)
  exact ⟨rfl,rfl,HB.out.trans b2⟩
 | some v =>
  have ev:=(two_eq hr).2.2
  subst ev
  rw [hr] at K
  clear hr z0
  go_enter Tryz.func309,Tryz.ntmps309
  go_wp2_with (first
   | (have:=Bw2;go_at_call 290;refine (fint_any _).mono ?_;rintro e w3 ⟨rfl,b⟩;have Bw3:=hid (Bw2.out.trans b);have Rw3:=hid (Rw2.out.bl b);have Zw3:=hid (bl_blk b Zw2.out);have Yw3:=hid (bl_blk b Yw2.out);have cw3_0:w3.cell? ⟨w.heap.size,0,none⟩=some (.int .i64 5):=(cell_blk Zw3.out).trans rfl;have cw3_1:w3.cell? ⟨w.heap.size,1,none⟩=some (.int .i64 ia):=(cell_blk Zw3.out).trans rfl;have cw3_2:w3.cell? ⟨w.heap.size,2,none⟩=some (.int .i64 ib):=(cell_blk Zw3.out).trans rfl;have cw3_3:w3.cell? ⟨w.heap.size,3,none⟩=some (.int .i64 ic):=(cell_blk Zw3.out).trans rfl;have cw3_4:w3.cell? ⟨w.heap.size,4,none⟩=some (.int .i64 ii):=(cell_blk Zw3.out).trans rfl;have cw3_5:w3.cell? ⟨w.heap.size,5,none⟩=some (.slice A0 n0 k0):=(cell_blk Zw3.out).trans rfl;have lw3:=lt_some Zw3.out;have rw30:=c0_of Yw3.out;have rw31:=c1_of Yw3.out;have rfw3:=free_blk Yw3.out;have mw3:=lt_some Yw3.out;have hqw3:=cell_lt Rw3.out.q0;clear b)
   | (go_at_call 321;refine (K.out _ R0.out).mono ?_;rintro e w2 ⟨he,b2⟩;have he:e=.returned (.tuple #[]):=he;subst he;have Bw2:=hid (HB.out.trans b2);have Rw2:=hid (R0.out.bl b2);have Zw2:=hid (bl_blk b2 ZB.out);have Yw2:=hid (bl_blk b2 ZV.out);have cw2_0:w2.cell? ⟨w.heap.size,0,none⟩=some (.int .i64 5):=(cell_blk Zw2.out).trans rfl;have cw2_1:w2.cell? ⟨w.heap.size,1,none⟩=some (.int .i64 ia):=(cell_blk Zw2.out).trans rfl;have cw2_2:w2.cell? ⟨w.heap.size,2,none⟩=some (.int .i64 ib):=(cell_blk Zw2.out).trans rfl;have cw2_3:w2.cell? ⟨w.heap.size,3,none⟩=some (.int .i64 ic):=(cell_blk Zw2.out).trans rfl;have cw2_4:w2.cell? ⟨w.heap.size,4,none⟩=some (.int .i64 ii):=(cell_blk Zw2.out).trans rfl;have cw2_5:w2.cell? ⟨w.heap.size,5,none⟩=some (.slice A0 n0 k0):=(cell_blk Zw2.out).trans rfl;have lw2:=lt_some Zw2.out;have rw20:=c0_of Yw2.out;have rw21:=c1_of Yw2.out;have rfw2:=free_blk Yw2.out;have mw2:=lt_some Yw2.out;have hqw2:=cell_lt Rw2.out.q0;clear b2))
  refine bodyPost_ret (results_cell_row rfl _ _ (w.heap.size+1) _ _ _ _ rfl (block_set (block_set Yw3.out _) _) Tryz.underlying243 rfl info_fv) rfl ?_
  exact ⟨rfl,(Bw3.out.setCell (Nat.le_succ _) _).setCell (Nat.le_succ _) _⟩
theorem qnum9 (R:Rc w g f s hv) (ia:Int) (ib ic:Nat) (ii:Int) (hb:ib<s.slots.length) (hc:ic<s.slots.length) (A0:Option Addr) (n0 k0:Nat) :
  Calls Tryz.prog 309 #[.pointer (some ⟨g.q,0,none⟩),insV 9 ia ib ic ii (.slice A0 n0 k0)] w fun e w'=>e=vlE (two 2 ib ic s ⟨1,0⟩)∧Bl w w':=by
 have HB:Hid (Bl w ((w.alloc (insO 9 ia ib ic ii (.slice A0 n0 k0))).alloc fvZ)):=((Bl.refl w).alloc _).alloc _
 have ZB:Hid (((w.alloc (insO 9 ia ib ic ii (.slice A0 n0 k0))).alloc fvZ).heap[w.heap.size]?=some (.cells #[.int .i64 9,.int .i64 ia,.int .i64 ib,.int .i64 ic,.int .i64 ii,.slice A0 n0 k0] 58 (0,0))):=bl_blk ((Bl.refl _).alloc _) (mblk rfl)
 have ZV:Hid (((w.alloc (insO 9 ia ib ic ii (.slice A0 n0 k0))).alloc fvZ).heap[w.heap.size+1]?=some (.cells #[.int .i64 0,.int .i64 0] 243 (0,0))):=mblk (by simp)
 have R0:=hid (R.bl HB.out)
 have hq:=cell_lt R0.out.q0
 have hwl:=lt_some ZB.out
 have BV:=HB
 have YV:=ZV
 have RV0:=R0
 have K:=hid (fun (V:World) (RR:Rc V g f s hv)=>qtwo_any RR 2 9 ia ib ic ii A0 n0 k0 hb hc ⟨1,0⟩)
 have z0:((w.alloc (insO 9 ia ib ic ii (.slice A0 n0 k0))).alloc fvZ).cell? ⟨w.heap.size,0,none⟩=some (.int .i64 9):=(cell_blk ZB.out).trans rfl
 clear R hb hc
 cases hr:two 2 ib ic s ⟨1,0⟩ with
 | none =>
  rw [hr] at K
  clear hr z0
  go_enter Tryz.func309,Tryz.ntmps309
  go_wp2_with (go_at_call 321;refine (K.out _ R0.out).mono ?_;rintro e w2 ⟨he,b2⟩;have he:e=upE:=he;subst he)
  exact ⟨rfl,rfl,HB.out.trans b2⟩
 | some v =>
  have ev:=(two_eq hr).2.2
  subst ev
  rw [hr] at K
  clear hr z0
  go_enter Tryz.func309,Tryz.ntmps309
  go_wp2_with (first
   | (have:=Bw2;go_at_call 290;refine (fint_any _).mono ?_;rintro e w3 ⟨rfl,b⟩;have Bw3:=hid (Bw2.out.trans b);have Rw3:=hid (Rw2.out.bl b);have Zw3:=hid (bl_blk b Zw2.out);have Yw3:=hid (bl_blk b Yw2.out);have cw3_0:w3.cell? ⟨w.heap.size,0,none⟩=some (.int .i64 9):=(cell_blk Zw3.out).trans rfl;have cw3_1:w3.cell? ⟨w.heap.size,1,none⟩=some (.int .i64 ia):=(cell_blk Zw3.out).trans rfl;have cw3_2:w3.cell? ⟨w.heap.size,2,none⟩=some (.int .i64 ib):=(cell_blk Zw3.out).trans rfl;have cw3_3:w3.cell? ⟨w.heap.size,3,none⟩=some (.int .i64 ic):=(cell_blk Zw3.out).trans rfl;have cw3_4:w3.cell? ⟨w.heap.size,4,none⟩=some (.int .i64 ii):=(cell_blk Zw3.out).trans rfl;have cw3_5:w3.cell? ⟨w.heap.size,5,none⟩=some (.slice A0 n0 k0):=(cell_blk Zw3.out).trans rfl;have lw3:=lt_some Zw3.out;have rw30:=c0_of Yw3.out;have rw31:=c1_of Yw3.out;have rfw3:=free_blk Yw3.out;have mw3:=lt_some Yw3.out;have hqw3:=cell_lt Rw3.out.q0;clear b)
   | (go_at_call 321;refine (K.out _ R0.out).mono ?_;rintro e w2 ⟨he,b2⟩;have he:e=.returned (.tuple #[]):=he;subst he;have Bw2:=hid (HB.out.trans b2);have Rw2:=hid (R0.out.bl b2);have Zw2:=hid (bl_blk b2 ZB.out);have Yw2:=hid (bl_blk b2 ZV.out);have cw2_0:w2.cell? ⟨w.heap.size,0,none⟩=some (.int .i64 9):=(cell_blk Zw2.out).trans rfl;have cw2_1:w2.cell? ⟨w.heap.size,1,none⟩=some (.int .i64 ia):=(cell_blk Zw2.out).trans rfl;have cw2_2:w2.cell? ⟨w.heap.size,2,none⟩=some (.int .i64 ib):=(cell_blk Zw2.out).trans rfl;have cw2_3:w2.cell? ⟨w.heap.size,3,none⟩=some (.int .i64 ic):=(cell_blk Zw2.out).trans rfl;have cw2_4:w2.cell? ⟨w.heap.size,4,none⟩=some (.int .i64 ii):=(cell_blk Zw2.out).trans rfl;have cw2_5:w2.cell? ⟨w.heap.size,5,none⟩=some (.slice A0 n0 k0):=(cell_blk Zw2.out).trans rfl;have lw2:=lt_some Zw2.out;have rw20:=c0_of Yw2.out;have rw21:=c1_of Yw2.out;have rfw2:=free_blk Yw2.out;have mw2:=lt_some Yw2.out;have hqw2:=cell_lt Rw2.out.q0;clear b2))
  refine bodyPost_ret (results_cell_row rfl _ _ (w.heap.size+1) _ _ _ _ rfl (block_set (block_set Yw3.out _) _) Tryz.underlying243 rfl info_fv) rfl ?_
  exact ⟨rfl,(Bw3.out.setCell (Nat.le_succ _) _).setCell (Nat.le_succ _) _⟩
theorem qnum6 (R:Rc w g f s hv) (ia:Int) (ib ic:Nat) (ii:Int) (hb:ib<s.slots.length) (hc:ic<s.slots.length) (A0:Option Addr) (n0 k0:Nat) :
  Calls Tryz.prog 309 #[.pointer (some ⟨g.q,0,none⟩),insV 6 ia ib ic ii (.slice A0 n0 k0)] w fun e w'=>e=vlE (two 2 ib ic s ⟨2,0⟩)∧Bl w w':=by
 have HB:Hid (Bl w ((w.alloc (insO 6 ia ib ic ii (.slice A0 n0 k0))).alloc fvZ)):=((Bl.refl w).alloc _).alloc _
 have ZB:Hid (((w.alloc (insO 6 ia ib ic ii (.slice A0 n0 k0))).alloc fvZ).heap[w.heap.size]?=some (.cells #[.int .i64 6,.int .i64 ia,.int .i64 ib,.int .i64 ic,.int .i64 ii,.slice A0 n0 k0] 58 (0,0))):=bl_blk ((Bl.refl _).alloc _) (mblk rfl)
 have ZV:Hid (((w.alloc (insO 6 ia ib ic ii (.slice A0 n0 k0))).alloc fvZ).heap[w.heap.size+1]?=some (.cells #[.int .i64 0,.int .i64 0] 243 (0,0))):=mblk (by simp)
 have R0:=hid (R.bl HB.out)
 have hq:=cell_lt R0.out.q0
 have hwl:=lt_some ZB.out
 have BV:=HB
 have YV:=ZV
 have RV0:=R0
 have K:=hid (fun (V:World) (RR:Rc V g f s hv)=>qtwo_any RR 2 6 ia ib ic ii A0 n0 k0 hb hc ⟨2,0⟩)
 have z0:((w.alloc (insO 6 ia ib ic ii (.slice A0 n0 k0))).alloc fvZ).cell? ⟨w.heap.size,0,none⟩=some (.int .i64 6):=(cell_blk ZB.out).trans rfl
 clear R hb hc
 cases hr:two 2 ib ic s ⟨2,0⟩ with
 | none =>
  rw [hr] at K
  clear hr z0
  go_enter Tryz.func309,Tryz.ntmps309
  go_wp2_with (go_at_call 321;refine (K.out _ R0.out).mono ?_;rintro e w2 ⟨he,b2⟩;have he:e=upE:=he;subst he)
  exact ⟨rfl,rfl,HB.out.trans b2⟩
 | some v =>
  have ev:=(two_eq hr).2.2
  subst ev
  rw [hr] at K
  clear hr z0
  go_enter Tryz.func309,Tryz.ntmps309
  go_wp2_with (first
   | (have:=Bw2;go_at_call 291;refine (flong_any _).mono ?_;rintro e w3 ⟨rfl,b⟩;have Bw3:=hid (Bw2.out.trans b);have Rw3:=hid (Rw2.out.bl b);have Zw3:=hid (bl_blk b Zw2.out);have Yw3:=hid (bl_blk b Yw2.out);have cw3_0:w3.cell? ⟨w.heap.size,0,none⟩=some (.int .i64 6):=(cell_blk Zw3.out).trans rfl;have cw3_1:w3.cell? ⟨w.heap.size,1,none⟩=some (.int .i64 ia):=(cell_blk Zw3.out).trans rfl;have cw3_2:w3.cell? ⟨w.heap.size,2,none⟩=some (.int .i64 ib):=(cell_blk Zw3.out).trans rfl;have cw3_3:w3.cell? ⟨w.heap.size,3,none⟩=some (.int .i64 ic):=(cell_blk Zw3.out).trans rfl;have cw3_4:w3.cell? ⟨w.heap.size,4,none⟩=some (.int .i64 ii):=(cell_blk Zw3.out).trans rfl;have cw3_5:w3.cell? ⟨w.heap.size,5,none⟩=some (.slice A0 n0 k0):=(cell_blk Zw3.out).trans rfl;have lw3:=lt_some Zw3.out;have rw30:=c0_of Yw3.out;have rw31:=c1_of Yw3.out;have rfw3:=free_blk Yw3.out;have mw3:=lt_some Yw3.out;have hqw3:=cell_lt Rw3.out.q0;clear b)
   | (go_at_call 321;refine (K.out _ R0.out).mono ?_;rintro e w2 ⟨he,b2⟩;have he:e=.returned (.tuple #[]):=he;subst he;have Bw2:=hid (HB.out.trans b2);have Rw2:=hid (R0.out.bl b2);have Zw2:=hid (bl_blk b2 ZB.out);have Yw2:=hid (bl_blk b2 ZV.out);have cw2_0:w2.cell? ⟨w.heap.size,0,none⟩=some (.int .i64 6):=(cell_blk Zw2.out).trans rfl;have cw2_1:w2.cell? ⟨w.heap.size,1,none⟩=some (.int .i64 ia):=(cell_blk Zw2.out).trans rfl;have cw2_2:w2.cell? ⟨w.heap.size,2,none⟩=some (.int .i64 ib):=(cell_blk Zw2.out).trans rfl;have cw2_3:w2.cell? ⟨w.heap.size,3,none⟩=some (.int .i64 ic):=(cell_blk Zw2.out).trans rfl;have cw2_4:w2.cell? ⟨w.heap.size,4,none⟩=some (.int .i64 ii):=(cell_blk Zw2.out).trans rfl;have cw2_5:w2.cell? ⟨w.heap.size,5,none⟩=some (.slice A0 n0 k0):=(cell_blk Zw2.out).trans rfl;have lw2:=lt_some Zw2.out;have rw20:=c0_of Yw2.out;have rw21:=c1_of Yw2.out;have rfw2:=free_blk Yw2.out;have mw2:=lt_some Yw2.out;have hqw2:=cell_lt Rw2.out.q0;clear b2))
  refine bodyPost_ret (results_cell_row rfl _ _ (w.heap.size+1) _ _ _ _ rfl (block_set (block_set Yw3.out _) _) Tryz.underlying243 rfl info_fv) rfl ?_
  exact ⟨rfl,(Bw3.out.setCell (Nat.le_succ _) _).setCell (Nat.le_succ _) _⟩
theorem qnum8 (R:Rc w g f s hv) (ia:Int) (ib:Nat) (ic ii:Int) (hreg:ib<s.slots.length) (A0:Option Addr) (n0 k0:Nat) :
  Calls Tryz.prog 309 #[.pointer (some ⟨g.q,0,none⟩),insV 8 ia ib ic ii (.slice A0 n0 k0)] w fun e w'=>e=vlE ((rdT 2 ib s).bind fun _=>some ⟨1,0⟩)∧Bl w w':=by
 have HB:Hid (Bl w ((w.alloc (insO 8 ia ib ic ii (.slice A0 n0 k0))).alloc fvZ)):=((Bl.refl w).alloc _).alloc _
 have ZB:Hid (((w.alloc (insO 8 ia ib ic ii (.slice A0 n0 k0))).alloc fvZ).heap[w.heap.size]?=some (.cells #[.int .i64 8,.int .i64 ia,.int .i64 ib,.int .i64 ic,.int .i64 ii,.slice A0 n0 k0] 58 (0,0))):=bl_blk ((Bl.refl _).alloc _) (mblk rfl)
 have ZV:Hid (((w.alloc (insO 8 ia ib ic ii (.slice A0 n0 k0))).alloc fvZ).heap[w.heap.size+1]?=some (.cells #[.int .i64 0,.int .i64 0] 243 (0,0))):=mblk (by simp)
 have R0:=hid (R.bl HB.out)
 have hq:=cell_lt R0.out.q0
 have hwl:=lt_some ZB.out
 have HREG:=hid hreg
 clear R hreg
 go_enter Tryz.func309,Tryz.ntmps309
 go_wp2
 generalize (w.alloc (insO 8 ia ib ic ii (.slice A0 n0 k0))).alloc fvZ=V at *
 refine wp_region_held_drew (S:=fun w'=>w'.cell? ⟨g.q,0,none⟩=some (.pointer (some ⟨g.p,0,none⟩))∧w'.cell? ⟨w.heap.size,2,none⟩=some (.int .i64 ib)) (by kernel_rfl) ?_ (fun hHeld0=>?_)
 ·exact ⟨R0.out.q0,(cell_blk ZB.out).trans rfl⟩
 iterate 8 (refine tn rfl (by kernel_rfl) (fun _ _ _ h=>h) (by intro _ h;go_split_ands;go_simp<;>with_reducible rfl) hHeld0 ?_;try simp only [aZ])
 refine rd1 (i:=8) (by kernel_rfl) rfl fun K hK=>?_
 go_simp
 go_at_call 220
 have R1:=hid (R0.out.bl (Bl.refl V).drew)
 refine (qread_any R1.out ib 2 HREG.out).mono ?_
 rintro e w2 ⟨he,b2⟩
 have Bw2:=hid (HB.out.trans ((Bl.refl V).drew.trans b2))
 have Rw2:=hid (R1.out.bl b2)
 have Zw2:=hid (bl_blk ((Bl.refl V).drew.trans b2) ZB.out)
 have Yw2:=hid (bl_blk ((Bl.refl V).drew.trans b2) ZV.out)
 clear b2
 cases hv1:rdT 2 ib s with
 | none =>
  rw [hv1] at he
  have he:e=upE:=he
  subst he
  exact ⟨rfl,by rw [hv1];rfl,Bw2.out⟩
 | some v =>
  rw [hv1] at he
  have he:e=.returned (fvV v):=he
  subst he
  have HV1:=hid hv1
  clear hv1
  refine hK.out _ _ ⟨Rw2.out.q0,(cell_blk Zw2.out).trans rfl⟩ (fun hHeld1=>?_)
  try simp only [aZ]
  clear hK
  clear hHeld0 hHeld1
  refine wpAnyH_done (by kernel_rfl) ?_ _
  have cw2_0:w2.cell? ⟨w.heap.size,0,none⟩=some (.int .i64 8):=(cell_blk Zw2.out).trans rfl
  have cw2_1:w2.cell? ⟨w.heap.size,1,none⟩=some (.int .i64 ia):=(cell_blk Zw2.out).trans rfl
  have cw2_2:w2.cell? ⟨w.heap.size,2,none⟩=some (.int .i64 ib):=(cell_blk Zw2.out).trans rfl
  have cw2_3:w2.cell? ⟨w.heap.size,3,none⟩=some (.int .i64 ic):=(cell_blk Zw2.out).trans rfl
  have cw2_4:w2.cell? ⟨w.heap.size,4,none⟩=some (.int .i64 ii):=(cell_blk Zw2.out).trans rfl
  have cw2_5:w2.cell? ⟨w.heap.size,5,none⟩=some (.slice A0 n0 k0):=(cell_blk Zw2.out).trans rfl
  have lw2:=lt_some Zw2.out
  have rw20:=c0_of Yw2.out
  have rw21:=c1_of Yw2.out
  have rfw2:=free_blk Yw2.out
  have mw2:=lt_some Yw2.out
  have hqw2:=cell_lt Rw2.out.q0
  go_wp2_with ((have:=Bw2;go_at_call 290;refine (fint_any _).mono ?_;rintro e w3 ⟨rfl,b⟩;have Bw3:=hid (Bw2.out.trans b);have Rw3:=hid (Rw2.out.bl b);have Zw3:=hid (bl_blk b Zw2.out);have Yw3:=hid (bl_blk b Yw2.out);have cw3_0:w3.cell? ⟨w.heap.size,0,none⟩=some (.int .i64 8):=(cell_blk Zw3.out).trans rfl;have cw3_1:w3.cell? ⟨w.heap.size,1,none⟩=some (.int .i64 ia):=(cell_blk Zw3.out).trans rfl;have cw3_2:w3.cell? ⟨w.heap.size,2,none⟩=some (.int .i64 ib):=(cell_blk Zw3.out).trans rfl;have cw3_3:w3.cell? ⟨w.heap.size,3,none⟩=some (.int .i64 ic):=(cell_blk Zw3.out).trans rfl;have cw3_4:w3.cell? ⟨w.heap.size,4,none⟩=some (.int .i64 ii):=(cell_blk Zw3.out).trans rfl;have cw3_5:w3.cell? ⟨w.heap.size,5,none⟩=some (.slice A0 n0 k0):=(cell_blk Zw3.out).trans rfl;have lw3:=lt_some Zw3.out;have rw30:=c0_of Yw3.out;have rw31:=c1_of Yw3.out;have rfw3:=free_blk Yw3.out;have mw3:=lt_some Yw3.out;have hqw3:=cell_lt Rw3.out.q0;clear b))
  refine bodyPost_ret (results_cell_row rfl _ _ (w.heap.size+1) _ _ _ _ rfl (block_set (block_set Yw3.out _) _) Tryz.underlying243 rfl info_fv) rfl ?_
  exact ⟨by rw [HV1.out];rfl,(Bw3.out.setCell (Nat.le_succ _) _).setCell (Nat.le_succ _) _⟩
theorem qnum17 (R:Rc w g f s hv) (ia:Int) (ib:Nat) (ic ii:Int) (hreg:ib<s.slots.length) (A0:Option Addr) (n0 k0:Nat) :
  Calls Tryz.prog 309 #[.pointer (some ⟨g.q,0,none⟩),insV 17 ia ib ic ii (.slice A0 n0 k0)] w fun e w'=>e=vlE ((rdT 3 ib s).bind fun _=>some ⟨1,0⟩)∧Bl w w':=by
 have HB:Hid (Bl w ((w.alloc (insO 17 ia ib ic ii (.slice A0 n0 k0))).alloc fvZ)):=((Bl.refl w).alloc _).alloc _
 have ZB:Hid (((w.alloc (insO 17 ia ib ic ii (.slice A0 n0 k0))).alloc fvZ).heap[w.heap.size]?=some (.cells #[.int .i64 17,.int .i64 ia,.int .i64 ib,.int .i64 ic,.int .i64 ii,.slice A0 n0 k0] 58 (0,0))):=bl_blk ((Bl.refl _).alloc _) (mblk rfl)
 have ZV:Hid (((w.alloc (insO 17 ia ib ic ii (.slice A0 n0 k0))).alloc fvZ).heap[w.heap.size+1]?=some (.cells #[.int .i64 0,.int .i64 0] 243 (0,0))):=mblk (by simp)
 have R0:=hid (R.bl HB.out)
 have hq:=cell_lt R0.out.q0
 have hwl:=lt_some ZB.out
 have HREG:=hid hreg
 clear R hreg
 go_enter Tryz.func309,Tryz.ntmps309
 go_wp2
 generalize (w.alloc (insO 17 ia ib ic ii (.slice A0 n0 k0))).alloc fvZ=V at *
 refine wp_region_held_drew (S:=fun w'=>w'.cell? ⟨g.q,0,none⟩=some (.pointer (some ⟨g.p,0,none⟩))∧w'.cell? ⟨w.heap.size,2,none⟩=some (.int .i64 ib)) (by kernel_rfl) ?_ (fun hHeld0=>?_)
 ·exact ⟨R0.out.q0,(cell_blk ZB.out).trans rfl⟩
 iterate 8 (refine tn rfl (by kernel_rfl) (fun _ _ _ h=>h) (by intro _ h;go_split_ands;go_simp<;>with_reducible rfl) hHeld0 ?_;try simp only [aZ])
 refine rd1 (i:=8) (by kernel_rfl) rfl fun K hK=>?_
 go_simp
 go_at_call 220
 have R1:=hid (R0.out.bl (Bl.refl V).drew)
 refine (qread_any R1.out ib 3 HREG.out).mono ?_
 rintro e w2 ⟨he,b2⟩
 have Bw2:=hid (HB.out.trans ((Bl.refl V).drew.trans b2))
 have Rw2:=hid (R1.out.bl b2)
 have Zw2:=hid (bl_blk ((Bl.refl V).drew.trans b2) ZB.out)
 have Yw2:=hid (bl_blk ((Bl.refl V).drew.trans b2) ZV.out)
 clear b2
 cases hv1:rdT 3 ib s with
 | none =>
  rw [hv1] at he
  have he:e=upE:=he
  subst he
  exact ⟨rfl,by rw [hv1];rfl,Bw2.out⟩
 | some v =>
  rw [hv1] at he
  have he:e=.returned (fvV v):=he
  subst he
  have HV1:=hid hv1
  clear hv1
  refine hK.out _ _ ⟨Rw2.out.q0,(cell_blk Zw2.out).trans rfl⟩ (fun hHeld1=>?_)
  try simp only [aZ]
  clear hK
  clear hHeld0 hHeld1
  refine wpAnyH_done (by kernel_rfl) ?_ _
  have cw2_0:w2.cell? ⟨w.heap.size,0,none⟩=some (.int .i64 17):=(cell_blk Zw2.out).trans rfl
  have cw2_1:w2.cell? ⟨w.heap.size,1,none⟩=some (.int .i64 ia):=(cell_blk Zw2.out).trans rfl
  have cw2_2:w2.cell? ⟨w.heap.size,2,none⟩=some (.int .i64 ib):=(cell_blk Zw2.out).trans rfl
  have cw2_3:w2.cell? ⟨w.heap.size,3,none⟩=some (.int .i64 ic):=(cell_blk Zw2.out).trans rfl
  have cw2_4:w2.cell? ⟨w.heap.size,4,none⟩=some (.int .i64 ii):=(cell_blk Zw2.out).trans rfl
  have cw2_5:w2.cell? ⟨w.heap.size,5,none⟩=some (.slice A0 n0 k0):=(cell_blk Zw2.out).trans rfl
  have lw2:=lt_some Zw2.out
  have rw20:=c0_of Yw2.out
  have rw21:=c1_of Yw2.out
  have rfw2:=free_blk Yw2.out
  have mw2:=lt_some Yw2.out
  have hqw2:=cell_lt Rw2.out.q0
  go_wp2_with ((have:=Bw2;go_at_call 290;refine (fint_any _).mono ?_;rintro e w3 ⟨rfl,b⟩;have Bw3:=hid (Bw2.out.trans b);have Rw3:=hid (Rw2.out.bl b);have Zw3:=hid (bl_blk b Zw2.out);have Yw3:=hid (bl_blk b Yw2.out);have cw3_0:w3.cell? ⟨w.heap.size,0,none⟩=some (.int .i64 17):=(cell_blk Zw3.out).trans rfl;have cw3_1:w3.cell? ⟨w.heap.size,1,none⟩=some (.int .i64 ia):=(cell_blk Zw3.out).trans rfl;have cw3_2:w3.cell? ⟨w.heap.size,2,none⟩=some (.int .i64 ib):=(cell_blk Zw3.out).trans rfl;have cw3_3:w3.cell? ⟨w.heap.size,3,none⟩=some (.int .i64 ic):=(cell_blk Zw3.out).trans rfl;have cw3_4:w3.cell? ⟨w.heap.size,4,none⟩=some (.int .i64 ii):=(cell_blk Zw3.out).trans rfl;have cw3_5:w3.cell? ⟨w.heap.size,5,none⟩=some (.slice A0 n0 k0):=(cell_blk Zw3.out).trans rfl;have lw3:=lt_some Zw3.out;have rw30:=c0_of Yw3.out;have rw31:=c1_of Yw3.out;have rfw3:=free_blk Yw3.out;have mw3:=lt_some Yw3.out;have hqw3:=cell_lt Rw3.out.q0;clear b))
  refine bodyPost_ret (results_cell_row rfl _ _ (w.heap.size+1) _ _ _ _ rfl (block_set (block_set Yw3.out _) _) Tryz.underlying243 rfl info_fv) rfl ?_
  exact ⟨by rw [HV1.out];rfl,(Bw3.out.setCell (Nat.le_succ _) _).setCell (Nat.le_succ _) _⟩
theorem qnum7 (R:Rc w g f s hv) (ia:Int) (ib:Nat) (ic ii:Int) (hreg:ib<s.slots.length) (A0:Option Addr) (n0 k0:Nat) :
  Calls Tryz.prog 309 #[.pointer (some ⟨g.q,0,none⟩),insV 7 ia ib ic ii (.slice A0 n0 k0)] w fun e w'=>e=vlE ((rdT 1 ib s).bind fun _=>some ⟨2,0⟩)∧Bl w w':=by
 have HB:Hid (Bl w ((w.alloc (insO 7 ia ib ic ii (.slice A0 n0 k0))).alloc fvZ)):=((Bl.refl w).alloc _).alloc _
 have ZB:Hid (((w.alloc (insO 7 ia ib ic ii (.slice A0 n0 k0))).alloc fvZ).heap[w.heap.size]?=some (.cells #[.int .i64 7,.int .i64 ia,.int .i64 ib,.int .i64 ic,.int .i64 ii,.slice A0 n0 k0] 58 (0,0))):=bl_blk ((Bl.refl _).alloc _) (mblk rfl)
 have ZV:Hid (((w.alloc (insO 7 ia ib ic ii (.slice A0 n0 k0))).alloc fvZ).heap[w.heap.size+1]?=some (.cells #[.int .i64 0,.int .i64 0] 243 (0,0))):=mblk (by simp)
 have R0:=hid (R.bl HB.out)
 have hq:=cell_lt R0.out.q0
 have hwl:=lt_some ZB.out
 have HREG:=hid hreg
 clear R hreg
 go_enter Tryz.func309,Tryz.ntmps309
 go_wp2
 generalize (w.alloc (insO 7 ia ib ic ii (.slice A0 n0 k0))).alloc fvZ=V at *
 refine wp_region_held_drew (S:=fun w'=>w'.cell? ⟨g.q,0,none⟩=some (.pointer (some ⟨g.p,0,none⟩))∧w'.cell? ⟨w.heap.size,2,none⟩=some (.int .i64 ib)) (by kernel_rfl) ?_ (fun hHeld0=>?_)
 ·exact ⟨R0.out.q0,(cell_blk ZB.out).trans rfl⟩
 iterate 8 (refine tn rfl (by kernel_rfl) (fun _ _ _ h=>h) (by intro _ h;go_split_ands;go_simp<;>with_reducible rfl) hHeld0 ?_;try simp only [aZ])
 refine rd1 (i:=8) (by kernel_rfl) rfl fun K hK=>?_
 go_simp
 go_at_call 220
 have R1:=hid (R0.out.bl (Bl.refl V).drew)
 refine (qread_any R1.out ib 1 HREG.out).mono ?_
 rintro e w2 ⟨he,b2⟩
 have Bw2:=hid (HB.out.trans ((Bl.refl V).drew.trans b2))
 have Rw2:=hid (R1.out.bl b2)
 have Zw2:=hid (bl_blk ((Bl.refl V).drew.trans b2) ZB.out)
 have Yw2:=hid (bl_blk ((Bl.refl V).drew.trans b2) ZV.out)
 clear b2
 cases hv1:rdT 1 ib s with
 | none =>
  rw [hv1] at he
  have he:e=upE:=he
  subst he
  exact ⟨rfl,by rw [hv1];rfl,Bw2.out⟩
 | some v =>
  rw [hv1] at he
  have he:e=.returned (fvV v):=he
  subst he
  have HV1:=hid hv1
  clear hv1
  refine hK.out _ _ ⟨Rw2.out.q0,(cell_blk Zw2.out).trans rfl⟩ (fun hHeld1=>?_)
  try simp only [aZ]
  clear hK
  clear hHeld0 hHeld1
  refine wpAnyH_done (by kernel_rfl) ?_ _
  have cw2_0:w2.cell? ⟨w.heap.size,0,none⟩=some (.int .i64 7):=(cell_blk Zw2.out).trans rfl
  have cw2_1:w2.cell? ⟨w.heap.size,1,none⟩=some (.int .i64 ia):=(cell_blk Zw2.out).trans rfl
  have cw2_2:w2.cell? ⟨w.heap.size,2,none⟩=some (.int .i64 ib):=(cell_blk Zw2.out).trans rfl
  have cw2_3:w2.cell? ⟨w.heap.size,3,none⟩=some (.int .i64 ic):=(cell_blk Zw2.out).trans rfl
  have cw2_4:w2.cell? ⟨w.heap.size,4,none⟩=some (.int .i64 ii):=(cell_blk Zw2.out).trans rfl
  have cw2_5:w2.cell? ⟨w.heap.size,5,none⟩=some (.slice A0 n0 k0):=(cell_blk Zw2.out).trans rfl
  have lw2:=lt_some Zw2.out
  have rw20:=c0_of Yw2.out
  have rw21:=c1_of Yw2.out
  have rfw2:=free_blk Yw2.out
  have mw2:=lt_some Yw2.out
  have hqw2:=cell_lt Rw2.out.q0
  go_wp2_with ((have:=Bw2;go_at_call 291;refine (flong_any _).mono ?_;rintro e w3 ⟨rfl,b⟩;have Bw3:=hid (Bw2.out.trans b);have Rw3:=hid (Rw2.out.bl b);have Zw3:=hid (bl_blk b Zw2.out);have Yw3:=hid (bl_blk b Yw2.out);have cw3_0:w3.cell? ⟨w.heap.size,0,none⟩=some (.int .i64 7):=(cell_blk Zw3.out).trans rfl;have cw3_1:w3.cell? ⟨w.heap.size,1,none⟩=some (.int .i64 ia):=(cell_blk Zw3.out).trans rfl;have cw3_2:w3.cell? ⟨w.heap.size,2,none⟩=some (.int .i64 ib):=(cell_blk Zw3.out).trans rfl;have cw3_3:w3.cell? ⟨w.heap.size,3,none⟩=some (.int .i64 ic):=(cell_blk Zw3.out).trans rfl;have cw3_4:w3.cell? ⟨w.heap.size,4,none⟩=some (.int .i64 ii):=(cell_blk Zw3.out).trans rfl;have cw3_5:w3.cell? ⟨w.heap.size,5,none⟩=some (.slice A0 n0 k0):=(cell_blk Zw3.out).trans rfl;have lw3:=lt_some Zw3.out;have rw30:=c0_of Yw3.out;have rw31:=c1_of Yw3.out;have rfw3:=free_blk Yw3.out;have mw3:=lt_some Yw3.out;have hqw3:=cell_lt Rw3.out.q0;clear b))
  refine bodyPost_ret (results_cell_row rfl _ _ (w.heap.size+1) _ _ _ _ rfl (block_set (block_set Yw3.out _) _) Tryz.underlying243 rfl info_fv) rfl ?_
  exact ⟨by rw [HV1.out];rfl,(Bw3.out.setCell (Nat.le_succ _) _).setCell (Nat.le_succ _) _⟩
theorem qnum2 (R:Rc w g f s hv) (ia ib ic ii:Int) (A0:Option Addr) (n0 k0:Nat) :
  Calls Tryz.prog 309 #[.pointer (some ⟨g.q,0,none⟩),insV 2 ia ib ic ii (.slice A0 n0 k0)] w fun e w'=>e=vlE (some ⟨2,0⟩)∧Bl w w':=by
 have HB:Hid (Bl w ((w.alloc (insO 2 ia ib ic ii (.slice A0 n0 k0))).alloc fvZ)):=((Bl.refl w).alloc _).alloc _
 have ZB:Hid (((w.alloc (insO 2 ia ib ic ii (.slice A0 n0 k0))).alloc fvZ).heap[w.heap.size]?=some (.cells #[.int .i64 2,.int .i64 ia,.int .i64 ib,.int .i64 ic,.int .i64 ii,.slice A0 n0 k0] 58 (0,0))):=bl_blk ((Bl.refl _).alloc _) (mblk rfl)
 have ZV:Hid (((w.alloc (insO 2 ia ib ic ii (.slice A0 n0 k0))).alloc fvZ).heap[w.heap.size+1]?=some (.cells #[.int .i64 0,.int .i64 0] 243 (0,0))):=mblk (by simp)
 have R0:=hid (R.bl HB.out)
 have hq:=cell_lt R0.out.q0
 have hwl:=lt_some ZB.out
 have Bw2:=HB
 have Rw2:=R0
 have Zw2:=ZB
 have Yw2:=ZV
 have z0:((w.alloc (insO 2 ia ib ic ii (.slice A0 n0 k0))).alloc fvZ).cell? ⟨w.heap.size,0,none⟩=some (.int .i64 2):=(cell_blk ZB.out).trans rfl
 clear R z0
 go_enter Tryz.func309,Tryz.ntmps309
 go_wp2_with ((have:=Bw2;go_at_call 291;refine (flong_any _).mono ?_;rintro e w3 ⟨rfl,b⟩;have Bw3:=hid (Bw2.out.trans b);have Rw3:=hid (Rw2.out.bl b);have Zw3:=hid (bl_blk b Zw2.out);have Yw3:=hid (bl_blk b Yw2.out);have cw3_0:w3.cell? ⟨w.heap.size,0,none⟩=some (.int .i64 2):=(cell_blk Zw3.out).trans rfl;have cw3_1:w3.cell? ⟨w.heap.size,1,none⟩=some (.int .i64 ia):=(cell_blk Zw3.out).trans rfl;have cw3_2:w3.cell? ⟨w.heap.size,2,none⟩=some (.int .i64 ib):=(cell_blk Zw3.out).trans rfl;have cw3_3:w3.cell? ⟨w.heap.size,3,none⟩=some (.int .i64 ic):=(cell_blk Zw3.out).trans rfl;have cw3_4:w3.cell? ⟨w.heap.size,4,none⟩=some (.int .i64 ii):=(cell_blk Zw3.out).trans rfl;have cw3_5:w3.cell? ⟨w.heap.size,5,none⟩=some (.slice A0 n0 k0):=(cell_blk Zw3.out).trans rfl;have lw3:=lt_some Zw3.out;have rw30:=c0_of Yw3.out;have rw31:=c1_of Yw3.out;have rfw3:=free_blk Yw3.out;have mw3:=lt_some Yw3.out;have hqw3:=cell_lt Rw3.out.q0;clear b))
 refine bodyPost_ret (results_cell_row rfl _ _ (w.heap.size+1) _ _ _ _ rfl (block_set (block_set Yw3.out _) _) Tryz.underlying243 rfl info_fv) rfl ?_
 exact ⟨rfl,(Bw3.out.setCell (Nat.le_succ _) _).setCell (Nat.le_succ _) _⟩
theorem qnum24 (R:Rc w g f s hv) (ia ib ic ii:Int) (A0:Option Addr) (n0 k0:Nat) :
  Calls Tryz.prog 309 #[.pointer (some ⟨g.q,0,none⟩),insV 24 ia ib ic ii (.slice A0 n0 k0)] w fun e w'=>e=vlE (some ⟨2,0⟩)∧Bl w w':=by
 have HB:Hid (Bl w ((w.alloc (insO 24 ia ib ic ii (.slice A0 n0 k0))).alloc fvZ)):=((Bl.refl w).alloc _).alloc _
 have ZB:Hid (((w.alloc (insO 24 ia ib ic ii (.slice A0 n0 k0))).alloc fvZ).heap[w.heap.size]?=some (.cells #[.int .i64 24,.int .i64 ia,.int .i64 ib,.int .i64 ic,.int .i64 ii,.slice A0 n0 k0] 58 (0,0))):=bl_blk ((Bl.refl _).alloc _) (mblk rfl)
 have ZV:Hid (((w.alloc (insO 24 ia ib ic ii (.slice A0 n0 k0))).alloc fvZ).heap[w.heap.size+1]?=some (.cells #[.int .i64 0,.int .i64 0] 243 (0,0))):=mblk (by simp)
 have R0:=hid (R.bl HB.out)
 have hq:=cell_lt R0.out.q0
 have hwl:=lt_some ZB.out
 have Bw2:=HB
 have Rw2:=R0
 have Zw2:=ZB
 have Yw2:=ZV
 have z0:((w.alloc (insO 24 ia ib ic ii (.slice A0 n0 k0))).alloc fvZ).cell? ⟨w.heap.size,0,none⟩=some (.int .i64 24):=(cell_blk ZB.out).trans rfl
 clear R z0
 go_enter Tryz.func309,Tryz.ntmps309
 go_wp2_with ((have:=Bw2;go_at_call 291;refine (flong_any _).mono ?_;rintro e w3 ⟨rfl,b⟩;have Bw3:=hid (Bw2.out.trans b);have Rw3:=hid (Rw2.out.bl b);have Zw3:=hid (bl_blk b Zw2.out);have Yw3:=hid (bl_blk b Yw2.out);have cw3_0:w3.cell? ⟨w.heap.size,0,none⟩=some (.int .i64 24):=(cell_blk Zw3.out).trans rfl;have cw3_1:w3.cell? ⟨w.heap.size,1,none⟩=some (.int .i64 ia):=(cell_blk Zw3.out).trans rfl;have cw3_2:w3.cell? ⟨w.heap.size,2,none⟩=some (.int .i64 ib):=(cell_blk Zw3.out).trans rfl;have cw3_3:w3.cell? ⟨w.heap.size,3,none⟩=some (.int .i64 ic):=(cell_blk Zw3.out).trans rfl;have cw3_4:w3.cell? ⟨w.heap.size,4,none⟩=some (.int .i64 ii):=(cell_blk Zw3.out).trans rfl;have cw3_5:w3.cell? ⟨w.heap.size,5,none⟩=some (.slice A0 n0 k0):=(cell_blk Zw3.out).trans rfl;have lw3:=lt_some Zw3.out;have rw30:=c0_of Yw3.out;have rw31:=c1_of Yw3.out;have rfw3:=free_blk Yw3.out;have mw3:=lt_some Yw3.out;have hqw3:=cell_lt Rw3.out.q0;clear b))
 refine bodyPost_ret (results_cell_row rfl _ _ (w.heap.size+1) _ _ _ _ rfl (block_set (block_set Yw3.out _) _) Tryz.underlying243 rfl info_fv) rfl ?_
 exact ⟨rfl,(Bw3.out.setCell (Nat.le_succ _) _).setCell (Nat.le_succ _) _⟩
theorem qnum1 (R:Rc w g f s hv) (ia ib ic ii:Int) (A0:Option Addr) (n0 k0:Nat) :
  Calls Tryz.prog 309 #[.pointer (some ⟨g.q,0,none⟩),insV 1 ia ib ic ii (.slice A0 n0 k0)] w fun e w'=>e=vlE (some ⟨1,0⟩)∧Bl w w':=by
 have HB:Hid (Bl w ((w.alloc (insO 1 ia ib ic ii (.slice A0 n0 k0))).alloc fvZ)):=((Bl.refl w).alloc _).alloc _
 have ZB:Hid (((w.alloc (insO 1 ia ib ic ii (.slice A0 n0 k0))).alloc fvZ).heap[w.heap.size]?=some (.cells #[.int .i64 1,.int .i64 ia,.int .i64 ib,.int .i64 ic,.int .i64 ii,.slice A0 n0 k0] 58 (0,0))):=bl_blk ((Bl.refl _).alloc _) (mblk rfl)
 have ZV:Hid (((w.alloc (insO 1 ia ib ic ii (.slice A0 n0 k0))).alloc fvZ).heap[w.heap.size+1]?=some (.cells #[.int .i64 0,.int .i64 0] 243 (0,0))):=mblk (by simp)
 have R0:=hid (R.bl HB.out)
 have hq:=cell_lt R0.out.q0
 have hwl:=lt_some ZB.out
 have Bw2:=HB
 have Rw2:=R0
 have Zw2:=ZB
 have Yw2:=ZV
 have z0:((w.alloc (insO 1 ia ib ic ii (.slice A0 n0 k0))).alloc fvZ).cell? ⟨w.heap.size,0,none⟩=some (.int .i64 1):=(cell_blk ZB.out).trans rfl
 clear R z0
 go_enter Tryz.func309,Tryz.ntmps309
 go_wp2_with ((have:=Bw2;go_at_call 290;refine (fint_any _).mono ?_;rintro e w3 ⟨rfl,b⟩;have Bw3:=hid (Bw2.out.trans b);have Rw3:=hid (Rw2.out.bl b);have Zw3:=hid (bl_blk b Zw2.out);have Yw3:=hid (bl_blk b Yw2.out);have cw3_0:w3.cell? ⟨w.heap.size,0,none⟩=some (.int .i64 1):=(cell_blk Zw3.out).trans rfl;have cw3_1:w3.cell? ⟨w.heap.size,1,none⟩=some (.int .i64 ia):=(cell_blk Zw3.out).trans rfl;have cw3_2:w3.cell? ⟨w.heap.size,2,none⟩=some (.int .i64 ib):=(cell_blk Zw3.out).trans rfl;have cw3_3:w3.cell? ⟨w.heap.size,3,none⟩=some (.int .i64 ic):=(cell_blk Zw3.out).trans rfl;have cw3_4:w3.cell? ⟨w.heap.size,4,none⟩=some (.int .i64 ii):=(cell_blk Zw3.out).trans rfl;have cw3_5:w3.cell? ⟨w.heap.size,5,none⟩=some (.slice A0 n0 k0):=(cell_blk Zw3.out).trans rfl;have lw3:=lt_some Zw3.out;have rw30:=c0_of Yw3.out;have rw31:=c1_of Yw3.out;have rfw3:=free_blk Yw3.out;have mw3:=lt_some Yw3.out;have hqw3:=cell_lt Rw3.out.q0;clear b))
 refine bodyPost_ret (results_cell_row rfl _ _ (w.heap.size+1) _ _ _ _ rfl (block_set (block_set Yw3.out _) _) Tryz.underlying243 rfl info_fv) rfl ?_
 exact ⟨rfl,(Bw3.out.setCell (Nat.le_succ _) _).setCell (Nat.le_succ _) _⟩
end
end
end Go.Proofs.YtgiiapenmjollabGreat
