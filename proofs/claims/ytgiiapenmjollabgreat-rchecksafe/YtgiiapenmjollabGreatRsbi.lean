import Derived.Test.YtgiiapenmjollabGreatRsam
import Derived.Test.YtgiiapenmjollabGreatRsbh
namespace Go.Proofs.YtgiiapenmjollabGreat
set_option linter.all false
set_option maxHeartbeats 40000000
set_option maxRecDepth 100000
open Go.RowKit
section
section
variable {w:World} {g:Gf} {f:Fi} {s:As} {hv:Value}
theorem qval3 (R:Rc w g f s hv) (ia ib ic ii:Int) (A0:Option Addr) (n0 k0:Nat) :
  Calls Tryz.prog 283 #[.pointer (some ⟨g.q,0,none⟩),insV 3 ia ib ic ii (.slice A0 n0 k0)] w fun e w'=>e=vlE (some ⟨3,-1⟩)∧Bl w w':=by
 have HB:Hid (Bl w ((w.alloc (insO 3 ia ib ic ii (.slice A0 n0 k0))).alloc fvZ)):=((Bl.refl w).alloc _).alloc _
 have ZB:Hid (((w.alloc (insO 3 ia ib ic ii (.slice A0 n0 k0))).alloc fvZ).heap[w.heap.size]?=some (.cells #[.int .i64 3,.int .i64 ia,.int .i64 ib,.int .i64 ic,.int .i64 ii,.slice A0 n0 k0] 58 (0,0))):=bl_blk ((Bl.refl _).alloc _) (mblk rfl)
 have ZV:Hid (((w.alloc (insO 3 ia ib ic ii (.slice A0 n0 k0))).alloc fvZ).heap[w.heap.size+1]?=some (.cells #[.int .i64 0,.int .i64 0] 243 (0,0))):=mblk (by simp)
 have R0:=hid (R.bl HB.out)
 have hq:=cell_lt R0.out.q0
 have hwl:=lt_some ZB.out
 have Bw2:=HB
 have Rw2:=R0
 have Zw2:=ZB
 have Yw2:=ZV
 have z0:((w.alloc (insO 3 ia ib ic ii (.slice A0 n0 k0))).alloc fvZ).cell? ⟨w.heap.size,0,none⟩=some (.int .i64 3):=(cell_blk ZB.out).trans rfl
 clear R z0
 go_enter Tryz.func283,Tryz.ntmps283
 go_wp2_with ((have:=Bw2;go_at_call 292;refine (fnot_any _).mono ?_;rintro e w3 ⟨rfl,b⟩;have Bw3:=hid (Bw2.out.trans b);have Rw3:=hid (Rw2.out.bl b);have Zw3:=hid (bl_blk b Zw2.out);have Yw3:=hid (bl_blk b Yw2.out);have cw3_0:w3.cell? ⟨w.heap.size,0,none⟩=some (.int .i64 3):=(cell_blk Zw3.out).trans rfl;have cw3_1:w3.cell? ⟨w.heap.size,1,none⟩=some (.int .i64 ia):=(cell_blk Zw3.out).trans rfl;have cw3_2:w3.cell? ⟨w.heap.size,2,none⟩=some (.int .i64 ib):=(cell_blk Zw3.out).trans rfl;have cw3_3:w3.cell? ⟨w.heap.size,3,none⟩=some (.int .i64 ic):=(cell_blk Zw3.out).trans rfl;have cw3_4:w3.cell? ⟨w.heap.size,4,none⟩=some (.int .i64 ii):=(cell_blk Zw3.out).trans rfl;have cw3_5:w3.cell? ⟨w.heap.size,5,none⟩=some (.slice A0 n0 k0):=(cell_blk Zw3.out).trans rfl;have lw3:=lt_some Zw3.out;have rw30:=c0_of Yw3.out;have rw31:=c1_of Yw3.out;have rfw3:=free_blk Yw3.out;have mw3:=lt_some Yw3.out;have hqw3:=cell_lt Rw3.out.q0;clear b))
 refine bodyPost_ret (results_cell_row rfl _ _ (w.heap.size+1) _ _ _ _ rfl (block_set (block_set Yw3.out _) _) Tryz.underlying243 rfl info_fv) rfl ?_
 exact ⟨rfl,(Bw3.out.setCell (Nat.le_succ _) _).setCell (Nat.le_succ _) _⟩
theorem qval13 (R:Rc w g f s hv) (ia ib ic ii:Int) (A0:Option Addr) (n0 k0:Nat) :
  Calls Tryz.prog 283 #[.pointer (some ⟨g.q,0,none⟩),insV 13 ia ib ic ii (.slice A0 n0 k0)] w fun e w'=>e=vlE (some ⟨3,ib⟩)∧Bl w w':=by
 have HB:Hid (Bl w ((w.alloc (insO 13 ia ib ic ii (.slice A0 n0 k0))).alloc fvZ)):=((Bl.refl w).alloc _).alloc _
 have ZB:Hid (((w.alloc (insO 13 ia ib ic ii (.slice A0 n0 k0))).alloc fvZ).heap[w.heap.size]?=some (.cells #[.int .i64 13,.int .i64 ia,.int .i64 ib,.int .i64 ic,.int .i64 ii,.slice A0 n0 k0] 58 (0,0))):=bl_blk ((Bl.refl _).alloc _) (mblk rfl)
 have ZV:Hid (((w.alloc (insO 13 ia ib ic ii (.slice A0 n0 k0))).alloc fvZ).heap[w.heap.size+1]?=some (.cells #[.int .i64 0,.int .i64 0] 243 (0,0))):=mblk (by simp)
 have R0:=hid (R.bl HB.out)
 have hq:=cell_lt R0.out.q0
 have hwl:=lt_some ZB.out
 have Bw2:=HB
 have Rw2:=R0
 have Zw2:=ZB
 have Yw2:=ZV
 have z0:((w.alloc (insO 13 ia ib ic ii (.slice A0 n0 k0))).alloc fvZ).cell? ⟨w.heap.size,0,none⟩=some (.int .i64 13):=(cell_blk ZB.out).trans rfl
 clear R z0
 go_enter Tryz.func283,Tryz.ntmps283
 go_wp2_with ((go_at_call 278;refine (fref_any ib _).mono ?_;rintro e w3 ⟨rfl,b⟩;have Bw3:=hid (Bw2.out.trans b);have Rw3:=hid (Rw2.out.bl b);have Zw3:=hid (bl_blk b Zw2.out);have Yw3:=hid (bl_blk b Yw2.out);have cw3_0:w3.cell? ⟨w.heap.size,0,none⟩=some (.int .i64 13):=(cell_blk Zw3.out).trans rfl;have cw3_1:w3.cell? ⟨w.heap.size,1,none⟩=some (.int .i64 ia):=(cell_blk Zw3.out).trans rfl;have cw3_2:w3.cell? ⟨w.heap.size,2,none⟩=some (.int .i64 ib):=(cell_blk Zw3.out).trans rfl;have cw3_3:w3.cell? ⟨w.heap.size,3,none⟩=some (.int .i64 ic):=(cell_blk Zw3.out).trans rfl;have cw3_4:w3.cell? ⟨w.heap.size,4,none⟩=some (.int .i64 ii):=(cell_blk Zw3.out).trans rfl;have cw3_5:w3.cell? ⟨w.heap.size,5,none⟩=some (.slice A0 n0 k0):=(cell_blk Zw3.out).trans rfl;have lw3:=lt_some Zw3.out;have rw30:=c0_of Yw3.out;have rw31:=c1_of Yw3.out;have rfw3:=free_blk Yw3.out;have mw3:=lt_some Yw3.out;have hqw3:=cell_lt Rw3.out.q0;clear b))
 refine bodyPost_ret (results_cell_row rfl _ _ (w.heap.size+1) _ _ _ _ rfl (block_set (block_set Yw3.out _) _) Tryz.underlying243 rfl info_fv) rfl ?_
 exact ⟨rfl,(Bw3.out.setCell (Nat.le_succ _) _).setCell (Nat.le_succ _) _⟩
theorem qval4 (R:Rc w g f s hv) (ia:Int) (ib:Nat) (ic ii:Int) (hreg:ib<s.slots.length) (A0:Option Addr) (n0 k0:Nat) :
  Calls Tryz.prog 283 #[.pointer (some ⟨g.q,0,none⟩),insV 4 ia ib ic ii (.slice A0 n0 k0)] w fun e w'=>e=vlE (rdT ic ib s)∧Bl w w':=by
 have HB:Hid (Bl w ((w.alloc (insO 4 ia ib ic ii (.slice A0 n0 k0))).alloc fvZ)):=((Bl.refl w).alloc _).alloc _
 have ZB:Hid (((w.alloc (insO 4 ia ib ic ii (.slice A0 n0 k0))).alloc fvZ).heap[w.heap.size]?=some (.cells #[.int .i64 4,.int .i64 ia,.int .i64 ib,.int .i64 ic,.int .i64 ii,.slice A0 n0 k0] 58 (0,0))):=bl_blk ((Bl.refl _).alloc _) (mblk rfl)
 have ZV:Hid (((w.alloc (insO 4 ia ib ic ii (.slice A0 n0 k0))).alloc fvZ).heap[w.heap.size+1]?=some (.cells #[.int .i64 0,.int .i64 0] 243 (0,0))):=mblk (by simp)
 have R0:=hid (R.bl HB.out)
 have hq:=cell_lt R0.out.q0
 have hwl:=lt_some ZB.out
 have HREG:=hid hreg
 have HQ:=hid (cell_lt R.q0)
 clear R hreg
 go_enter Tryz.func283,Tryz.ntmps283
 go_wp2
 generalize (w.alloc (insO 4 ia ib ic ii (.slice A0 n0 k0))).alloc fvZ=V at *
 refine wp_region_held_drew (S:=fun w'=>w'.cell? ⟨g.q,0,none⟩=some (.pointer (some ⟨g.p,0,none⟩))∧w'.cell? ⟨w.heap.size,2,none⟩=some (.int .i64 ib)∧w'.cell? ⟨w.heap.size,3,none⟩=some (.int .i64 ic)) (by kernel_rfl) ?_ (fun hHeld0=>?_)
 ·exact ⟨R0.out.q0,(cell_blk ZB.out).trans rfl,(cell_blk ZB.out).trans rfl⟩
 iterate 10 (refine tn rfl (by kernel_rfl) (fun _ _ _ h=>h) (by intro _ h;go_split_ands;go_simp<;>with_reducible rfl) hHeld0 ?_;try simp only [aZ])
 refine rd1 (i:=10) (by kernel_rfl) rfl fun K hK=>?_
 go_simp
 go_at_call 220
 have R1:=hid (R0.out.bl (Bl.refl V).drew)
 refine (qread_any R1.out ib ic HREG.out).mono ?_
 rintro e w2 ⟨he,b2⟩
 have Bw2:=hid (HB.out.trans ((Bl.refl V).drew.trans b2))
 have Rw2:=hid (R1.out.bl b2)
 have Zw2:=hid (bl_blk ((Bl.refl V).drew.trans b2) ZB.out)
 have Yw2:=hid (bl_blk ((Bl.refl V).drew.trans b2) ZV.out)
 clear b2
 cases hv1:rdT ic ib s with
 | none =>
  rw [hv1] at he
  have he:e=upE:=he
  subst he
  exact ⟨rfl,by rw [hv1];rfl,Bw2.out⟩
 | some v =>
  rw [hv1] at he
  have he:e=.returned (fvV v):=he
  subst he
  have HV1:=hid hv1
  clear hv1
  refine hK.out _ _ ⟨Rw2.out.q0,(cell_blk Zw2.out).trans rfl,(cell_blk Zw2.out).trans rfl⟩ (fun hHeld1=>?_)
  try simp only [aZ]
  clear hK
  have cw2_0:w2.cell? ⟨w.heap.size,0,none⟩=some (.int .i64 4):=(cell_blk Zw2.out).trans rfl
  have cw2_1:w2.cell? ⟨w.heap.size,1,none⟩=some (.int .i64 ia):=(cell_blk Zw2.out).trans rfl
  have cw2_2:w2.cell? ⟨w.heap.size,2,none⟩=some (.int .i64 ib):=(cell_blk Zw2.out).trans rfl
  have cw2_3:w2.cell? ⟨w.heap.size,3,none⟩=some (.int .i64 ic):=(cell_blk Zw2.out).trans rfl
  have cw2_4:w2.cell? ⟨w.heap.size,4,none⟩=some (.int .i64 ii):=(cell_blk Zw2.out).trans rfl
  have cw2_5:w2.cell? ⟨w.heap.size,5,none⟩=some (.slice A0 n0 k0):=(cell_blk Zw2.out).trans rfl
  have lw2:=lt_some Zw2.out
  have rw20:=c0_of Yw2.out
  have rw21:=c1_of Yw2.out
  have rfw2:=free_blk Yw2.out
  have mw2:=lt_some Yw2.out
  have hqw2:=cell_lt Rw2.out.q0
  refine rd1 (i:=11) (by kernel_rfl) rfl fun K hK=>?_
  go_simp
  have nb:w.heap.size≠w.heap.size+1:=by omega
  have nq:g.q≠w.heap.size+1:=by have:=HQ.out;omega
  refine hK.out _ _ ⟨by rw [World.cell?_of_block (block_far nq _),World.cell?_of_block (block_far nq _)];exact Rw2.out.q0,by rw [World.cell?_of_block (block_far nb _),World.cell?_of_block (block_far nb _)];exact (cell_blk Zw2.out).trans rfl,by rw [World.cell?_of_block (block_far nb _),World.cell?_of_block (block_far nb _)];exact (cell_blk Zw2.out).trans rfl⟩ (fun hHeld2=>?_)
  try simp only [aZ]
  clear hK hHeld0 hHeld1 hHeld2
  refine wpAnyH_done (by kernel_rfl) ?_ _
  go_wp2
  refine bodyPost_ret (results_cell_row rfl _ _ (w.heap.size+1) _ _ _ _ rfl (block_set (block_set Yw2.out _) _) Tryz.underlying243 rfl info_fv) rfl ?_
  exact ⟨by rw [HV1.out];rfl,(Bw2.out.setCell (Nat.le_succ _) _).setCell (Nat.le_succ _) _⟩
theorem qval16 (R:Rc w g f s hv) (ia:Nat) (ib ic ii:Int) (hreg:ia<s.slots.length) (A0:Option Addr) (n0 k0:Nat) :
  Calls Tryz.prog 283 #[.pointer (some ⟨g.q,0,none⟩),insV 16 ia ib ic ii (.slice A0 n0 k0)] w fun e w'=>e=vlE ((rdT 3 ia s).bind fun _=>some ⟨3,ib⟩)∧Bl w w':=by
 have HB:Hid (Bl w ((w.alloc (insO 16 ia ib ic ii (.slice A0 n0 k0))).alloc fvZ)):=((Bl.refl w).alloc _).alloc _
 have ZB:Hid (((w.alloc (insO 16 ia ib ic ii (.slice A0 n0 k0))).alloc fvZ).heap[w.heap.size]?=some (.cells #[.int .i64 16,.int .i64 ia,.int .i64 ib,.int .i64 ic,.int .i64 ii,.slice A0 n0 k0] 58 (0,0))):=bl_blk ((Bl.refl _).alloc _) (mblk rfl)
 have ZV:Hid (((w.alloc (insO 16 ia ib ic ii (.slice A0 n0 k0))).alloc fvZ).heap[w.heap.size+1]?=some (.cells #[.int .i64 0,.int .i64 0] 243 (0,0))):=mblk (by simp)
 have R0:=hid (R.bl HB.out)
 have hq:=cell_lt R0.out.q0
 have hwl:=lt_some ZB.out
 have HREG:=hid hreg
 clear R hreg
 go_enter Tryz.func283,Tryz.ntmps283
 go_wp2
 generalize (w.alloc (insO 16 ia ib ic ii (.slice A0 n0 k0))).alloc fvZ=V at *
 refine wp_region_held_drew (S:=fun w'=>w'.cell? ⟨g.q,0,none⟩=some (.pointer (some ⟨g.p,0,none⟩))∧w'.cell? ⟨w.heap.size,1,none⟩=some (.int .i64 ia)) (by kernel_rfl) ?_ (fun hHeld0=>?_)
 ·exact ⟨R0.out.q0,(cell_blk ZB.out).trans rfl⟩
 iterate 8 (refine tn rfl (by kernel_rfl) (fun _ _ _ h=>h) (by intro _ h;go_split_ands;go_simp<;>with_reducible rfl) hHeld0 ?_;try simp only [aZ])
 refine rd1 (i:=8) (by kernel_rfl) rfl fun K hK=>?_
 go_simp
 go_at_call 220
 have R1:=hid (R0.out.bl (Bl.refl V).drew)
 refine (qread_any R1.out ia 3 HREG.out).mono ?_
 rintro e w2 ⟨he,b2⟩
 have Bw2:=hid (HB.out.trans ((Bl.refl V).drew.trans b2))
 have Rw2:=hid (R1.out.bl b2)
 have Zw2:=hid (bl_blk ((Bl.refl V).drew.trans b2) ZB.out)
 have Yw2:=hid (bl_blk ((Bl.refl V).drew.trans b2) ZV.out)
 clear b2
 cases hv1:rdT 3 ia s with
 | none =>
  rw [hv1] at he
  have he:e=upE:=he
  subst he
  exact ⟨rfl,by rw [hv1];rfl,Bw2.out⟩
 | some v =>
  rw [hv1] at he
  have he:e=.returned (fvV v):=he
  subst he
  have HV1:=hid hv1
  clear hv1
  refine hK.out _ _ ⟨Rw2.out.q0,(cell_blk Zw2.out).trans rfl⟩ (fun hHeld1=>?_)
  try simp only [aZ]
  clear hK
  clear hHeld0 hHeld1
  refine wpAnyH_done (by kernel_rfl) ?_ _
  have cw2_0:w2.cell? ⟨w.heap.size,0,none⟩=some (.int .i64 16):=(cell_blk Zw2.out).trans rfl
  have cw2_1:w2.cell? ⟨w.heap.size,1,none⟩=some (.int .i64 ia):=(cell_blk Zw2.out).trans rfl
  have cw2_2:w2.cell? ⟨w.heap.size,2,none⟩=some (.int .i64 ib):=(cell_blk Zw2.out).trans rfl
  have cw2_3:w2.cell? ⟨w.heap.size,3,none⟩=some (.int .i64 ic):=(cell_blk Zw2.out).trans rfl
  have cw2_4:w2.cell? ⟨w.heap.size,4,none⟩=some (.int .i64 ii):=(cell_blk Zw2.out).trans rfl
  have cw2_5:w2.cell? ⟨w.heap.size,5,none⟩=some (.slice A0 n0 k0):=(cell_blk Zw2.out).trans rfl
  have lw2:=lt_some Zw2.out
  have rw20:=c0_of Yw2.out
  have rw21:=c1_of Yw2.out
  have rfw2:=free_blk Yw2.out
  have mw2:=lt_some Yw2.out
  have hqw2:=cell_lt Rw2.out.q0
  go_wp2_with (go_at_call 278;refine (fref_any ib _).mono ?_;rintro e w3 ⟨rfl,b⟩;have Bw3:=hid (Bw2.out.trans b);have Rw3:=hid (Rw2.out.bl b);have Zw3:=hid (bl_blk b Zw2.out);have Yw3:=hid (bl_blk b Yw2.out);have cw3_0:w3.cell? ⟨w.heap.size,0,none⟩=some (.int .i64 16):=(cell_blk Zw3.out).trans rfl;have cw3_1:w3.cell? ⟨w.heap.size,1,none⟩=some (.int .i64 ia):=(cell_blk Zw3.out).trans rfl;have cw3_2:w3.cell? ⟨w.heap.size,2,none⟩=some (.int .i64 ib):=(cell_blk Zw3.out).trans rfl;have cw3_3:w3.cell? ⟨w.heap.size,3,none⟩=some (.int .i64 ic):=(cell_blk Zw3.out).trans rfl;have cw3_4:w3.cell? ⟨w.heap.size,4,none⟩=some (.int .i64 ii):=(cell_blk Zw3.out).trans rfl;have cw3_5:w3.cell? ⟨w.heap.size,5,none⟩=some (.slice A0 n0 k0):=(cell_blk Zw3.out).trans rfl;have lw3:=lt_some Zw3.out;have rw30:=c0_of Yw3.out;have rw31:=c1_of Yw3.out;have rfw3:=free_blk Yw3.out;have mw3:=lt_some Yw3.out;have hqw3:=cell_lt Rw3.out.q0;clear b)
  refine bodyPost_ret (results_cell_row rfl _ _ (w.heap.size+1) _ _ _ _ rfl (block_set (block_set Yw3.out _) _) Tryz.underlying243 rfl info_fv) rfl ?_
  exact ⟨by rw [HV1.out];rfl,(Bw3.out.setCell (Nat.le_succ _) _).setCell (Nat.le_succ _) _⟩
theorem qval14 (R:Rc w g f s hv) (ia:Int) (ib ic ii:Nat) (hb:ib<s.slots.length) (hc:ic<f.classes.length) (hi:ii<(nth cl0 f.classes ic).fields.length) (A0:Option Addr) (n0 k0:Nat) :
  Calls Tryz.prog 283 #[.pointer (some ⟨g.q,0,none⟩),insV 14 ia ib ic ii (.slice A0 n0 k0)] w fun e w'=>e=vlE ((rdY f.classes ⟨3,ic⟩ ib s).bind fun _=>some (nth ty0 (nth cl0 f.classes ic).fields ii))∧Bl w w':=by
 have HB:Hid (Bl w ((w.alloc (insO 14 ia ib ic ii (.slice A0 n0 k0))).alloc fvZ)):=((Bl.refl w).alloc _).alloc _
 have ZB:Hid (((w.alloc (insO 14 ia ib ic ii (.slice A0 n0 k0))).alloc fvZ).heap[w.heap.size]?=some (.cells #[.int .i64 14,.int .i64 ia,.int .i64 ib,.int .i64 ic,.int .i64 ii,.slice A0 n0 k0] 58 (0,0))):=bl_blk ((Bl.refl _).alloc _) (mblk rfl)
 have ZV:Hid (((w.alloc (insO 14 ia ib ic ii (.slice A0 n0 k0))).alloc fvZ).heap[w.heap.size+1]?=some (.cells #[.int .i64 0,.int .i64 0] 243 (0,0))):=mblk (by simp)
 have R0:=hid (R.bl HB.out)
 have hq:=cell_lt R0.out.q0
 have hwl:=lt_some ZB.out
 have K:=hid (fun (V:World) (RR:Rc V g f s hv)=>qref_any RR ib ic hb (by omega))
 have KF:=hid (fun (V:World) (RR:Rc V g f s hv)=>qfield_any RR 14 ia ib ic ii A0 n0 k0 hc hi)
 clear R hb hc hi
 cases hr:rdY f.classes ⟨3,ic⟩ ib s with
 | none =>
  rw [hr] at K
  clear hr
  go_enter Tryz.func283,Tryz.ntmps283
  go_wp2_with (go_at_call 281;refine (K.out _ R0.out).mono ?_;rintro e w2 ⟨he,b2⟩;have he:e=upE:=he;subst he)
  exact ⟨rfl,rfl,HB.out.trans b2⟩
 | some v =>
  rw [hr] at K
  clear hr
  go_enter Tryz.func283,Tryz.ntmps283
  go_wp2_with (first
   | (have:=Bw2;go_at_call 282;refine (KF.out _ Rw2.out).mono ?_;rintro e w3 ⟨rfl,b⟩;have Bw3:=hid (Bw2.out.trans b);have Rw3:=hid (Rw2.out.bl b);have Zw3:=hid (bl_blk b Zw2.out);have Yw3:=hid (bl_blk b Yw2.out);have cw3_0:w3.cell? ⟨w.heap.size,0,none⟩=some (.int .i64 14):=(cell_blk Zw3.out).trans rfl;have cw3_1:w3.cell? ⟨w.heap.size,1,none⟩=some (.int .i64 ia):=(cell_blk Zw3.out).trans rfl;have cw3_2:w3.cell? ⟨w.heap.size,2,none⟩=some (.int .i64 ib):=(cell_blk Zw3.out).trans rfl;have cw3_3:w3.cell? ⟨w.heap.size,3,none⟩=some (.int .i64 ic):=(cell_blk Zw3.out).trans rfl;have cw3_4:w3.cell? ⟨w.heap.size,4,none⟩=some (.int .i64 ii):=(cell_blk Zw3.out).trans rfl;have cw3_5:w3.cell? ⟨w.heap.size,5,none⟩=some (.slice A0 n0 k0):=(cell_blk Zw3.out).trans rfl;have lw3:=lt_some Zw3.out;have rw30:=c0_of Yw3.out;have rw31:=c1_of Yw3.out;have rfw3:=free_blk Yw3.out;have mw3:=lt_some Yw3.out;have hqw3:=cell_lt Rw3.out.q0;clear b)
   | (go_at_call 281;refine (K.out _ R0.out).mono ?_;rintro e w2 ⟨he,b2⟩;have he:e=.returned (.tuple #[]):=he;subst he;have Bw2:=hid (HB.out.trans b2);have Rw2:=hid (R0.out.bl b2);have Zw2:=hid (bl_blk b2 ZB.out);have Yw2:=hid (bl_blk b2 ZV.out);have cw2_0:w2.cell? ⟨w.heap.size,0,none⟩=some (.int .i64 14):=(cell_blk Zw2.out).trans rfl;have cw2_1:w2.cell? ⟨w.heap.size,1,none⟩=some (.int .i64 ia):=(cell_blk Zw2.out).trans rfl;have cw2_2:w2.cell? ⟨w.heap.size,2,none⟩=some (.int .i64 ib):=(cell_blk Zw2.out).trans rfl;have cw2_3:w2.cell? ⟨w.heap.size,3,none⟩=some (.int .i64 ic):=(cell_blk Zw2.out).trans rfl;have cw2_4:w2.cell? ⟨w.heap.size,4,none⟩=some (.int .i64 ii):=(cell_blk Zw2.out).trans rfl;have cw2_5:w2.cell? ⟨w.heap.size,5,none⟩=some (.slice A0 n0 k0):=(cell_blk Zw2.out).trans rfl;have lw2:=lt_some Zw2.out;have rw20:=c0_of Yw2.out;have rw21:=c1_of Yw2.out;have rfw2:=free_blk Yw2.out;have mw2:=lt_some Yw2.out;have hqw2:=cell_lt Rw2.out.q0;clear b2))
  refine bodyPost_ret (results_cell_row rfl _ _ (w.heap.size+1) _ _ _ _ rfl (block_set (block_set Yw3.out _) _) Tryz.underlying243 rfl info_fv) rfl ?_
  exact ⟨rfl,(Bw3.out.setCell (Nat.le_succ _) _).setCell (Nat.le_succ _) _⟩
theorem qval19 (R:Rc w g f s hv) (ia ib ic ii:Int) (A0:Option Addr) (n0 k0:Nat) :
  Calls Tryz.prog 283 #[.pointer (some ⟨g.q,0,none⟩),insV 19 ia ib ic ii (.slice A0 n0 k0)] w fun e w'=>e=vlE (fetchT ib s)∧Bl w w':=by
 have HB:Hid (Bl w ((w.alloc (insO 19 ia ib ic ii (.slice A0 n0 k0))).alloc fvZ)):=((Bl.refl w).alloc _).alloc _
 have ZB:Hid (((w.alloc (insO 19 ia ib ic ii (.slice A0 n0 k0))).alloc fvZ).heap[w.heap.size]?=some (.cells #[.int .i64 19,.int .i64 ia,.int .i64 ib,.int .i64 ic,.int .i64 ii,.slice A0 n0 k0] 58 (0,0))):=bl_blk ((Bl.refl _).alloc _) (mblk rfl)
 have ZV:Hid (((w.alloc (insO 19 ia ib ic ii (.slice A0 n0 k0))).alloc fvZ).heap[w.heap.size+1]?=some (.cells #[.int .i64 0,.int .i64 0] 243 (0,0))):=mblk (by simp)
 have R0:=hid (R.bl HB.out)
 have hq:=cell_lt R0.out.q0
 have hwl:=lt_some ZB.out
 have K:=hid (qfetch_any R0.out ib)
 clear R
 cases hr:fetchT ib s with
 | none =>
  rw [hr] at K
  clear hr
  go_enter Tryz.func283,Tryz.ntmps283
  go_wp2_with (go_at_call 308;refine K.out.mono ?_;rintro e w2 ⟨he,b2⟩;have he:e=upE:=he;subst he)
  exact ⟨rfl,rfl,HB.out.trans b2⟩
 | some v =>
  rw [hr] at K
  clear hr
  go_enter Tryz.func283,Tryz.ntmps283
  go_wp2_with (go_at_call 308;refine K.out.mono ?_;rintro e w3 ⟨he,b⟩;have he:e=.returned (fvV v):=he;subst he;have Bw3:=hid (HB.out.trans b);have Rw3:=hid (R0.out.bl b);have Zw3:=hid (bl_blk b ZB.out);have Yw3:=hid (bl_blk b ZV.out);have cw3_0:w3.cell? ⟨w.heap.size,0,none⟩=some (.int .i64 19):=(cell_blk Zw3.out).trans rfl;have cw3_1:w3.cell? ⟨w.heap.size,1,none⟩=some (.int .i64 ia):=(cell_blk Zw3.out).trans rfl;have cw3_2:w3.cell? ⟨w.heap.size,2,none⟩=some (.int .i64 ib):=(cell_blk Zw3.out).trans rfl;have cw3_3:w3.cell? ⟨w.heap.size,3,none⟩=some (.int .i64 ic):=(cell_blk Zw3.out).trans rfl;have cw3_4:w3.cell? ⟨w.heap.size,4,none⟩=some (.int .i64 ii):=(cell_blk Zw3.out).trans rfl;have cw3_5:w3.cell? ⟨w.heap.size,5,none⟩=some (.slice A0 n0 k0):=(cell_blk Zw3.out).trans rfl;have lw3:=lt_some Zw3.out;have rw30:=c0_of Yw3.out;have rw31:=c1_of Yw3.out;have rfw3:=free_blk Yw3.out;have mw3:=lt_some Yw3.out;have hqw3:=cell_lt Rw3.out.q0;clear b)
  refine bodyPost_ret (results_cell_row rfl _ _ (w.heap.size+1) _ _ _ _ rfl (block_set (block_set Yw3.out _) _) Tryz.underlying243 rfl info_fv) rfl ?_
  exact ⟨rfl,(Bw3.out.setCell (Nat.le_succ _) _).setCell (Nat.le_succ _) _⟩
theorem qval22 (R:Rc w g f s hv) (ia ib ic ii:Int) (A0:Option Addr) (n0 k0:Nat) :
  Calls Tryz.prog 283 #[.pointer (some ⟨g.q,0,none⟩),insV 22 ia ib ic ii (.slice A0 n0 k0)] w fun e w'=>e=vlE (fetchT 3 s)∧Bl w w':=by
 have HB:Hid (Bl w ((w.alloc (insO 22 ia ib ic ii (.slice A0 n0 k0))).alloc fvZ)):=((Bl.refl w).alloc _).alloc _
 have ZB:Hid (((w.alloc (insO 22 ia ib ic ii (.slice A0 n0 k0))).alloc fvZ).heap[w.heap.size]?=some (.cells #[.int .i64 22,.int .i64 ia,.int .i64 ib,.int .i64 ic,.int .i64 ii,.slice A0 n0 k0] 58 (0,0))):=bl_blk ((Bl.refl _).alloc _) (mblk rfl)
 have ZV:Hid (((w.alloc (insO 22 ia ib ic ii (.slice A0 n0 k0))).alloc fvZ).heap[w.heap.size+1]?=some (.cells #[.int .i64 0,.int .i64 0] 243 (0,0))):=mblk (by simp)
 have R0:=hid (R.bl HB.out)
 have hq:=cell_lt R0.out.q0
 have hwl:=lt_some ZB.out
 have K:=hid (qfetch_any R0.out 3)
 clear R
 cases hr:fetchT 3 s with
 | none =>
  rw [hr] at K
  clear hr
  go_enter Tryz.func283,Tryz.ntmps283
  go_wp2_with (go_at_call 308;refine K.out.mono ?_;rintro e w2 ⟨he,b2⟩;have he:e=upE:=he;subst he)
  exact ⟨rfl,rfl,HB.out.trans b2⟩
 | some v =>
  rw [hr] at K
  clear hr
  go_enter Tryz.func283,Tryz.ntmps283
  go_wp2_with (go_at_call 308;refine K.out.mono ?_;rintro e w3 ⟨he,b⟩;have he:e=.returned (fvV v):=he;subst he;have Bw3:=hid (HB.out.trans b);have Rw3:=hid (R0.out.bl b);have Zw3:=hid (bl_blk b ZB.out);have Yw3:=hid (bl_blk b ZV.out);have cw3_0:w3.cell? ⟨w.heap.size,0,none⟩=some (.int .i64 22):=(cell_blk Zw3.out).trans rfl;have cw3_1:w3.cell? ⟨w.heap.size,1,none⟩=some (.int .i64 ia):=(cell_blk Zw3.out).trans rfl;have cw3_2:w3.cell? ⟨w.heap.size,2,none⟩=some (.int .i64 ib):=(cell_blk Zw3.out).trans rfl;have cw3_3:w3.cell? ⟨w.heap.size,3,none⟩=some (.int .i64 ic):=(cell_blk Zw3.out).trans rfl;have cw3_4:w3.cell? ⟨w.heap.size,4,none⟩=some (.int .i64 ii):=(cell_blk Zw3.out).trans rfl;have cw3_5:w3.cell? ⟨w.heap.size,5,none⟩=some (.slice A0 n0 k0):=(cell_blk Zw3.out).trans rfl;have lw3:=lt_some Zw3.out;have rw30:=c0_of Yw3.out;have rw31:=c1_of Yw3.out;have rfw3:=free_blk Yw3.out;have mw3:=lt_some Yw3.out;have hqw3:=cell_lt Rw3.out.q0;clear b)
  refine bodyPost_ret (results_cell_row rfl _ _ (w.heap.size+1) _ _ _ _ rfl (block_set (block_set Yw3.out _) _) Tryz.underlying243 rfl info_fv) rfl ?_
  exact ⟨rfl,(Bw3.out.setCell (Nat.le_succ _) _).setCell (Nat.le_succ _) _⟩
theorem qvalN (R:Rc w g f s hv) (op ia ib ic ii:Int) (hop:op≠3∧op≠4∧op≠13∧op≠14∧op≠16∧op≠19∧op≠22) (r:Option Ty) (A0:Option Addr) (n0 k0:Nat) (hn:∀V,Rc V g f s hv→Calls Tryz.prog 309 #[.pointer (some ⟨g.q,0,none⟩),insV op ia ib ic ii (.slice A0 n0 k0)] V fun e w'=>e=vlE r∧Bl V w') :
  Calls Tryz.prog 283 #[.pointer (some ⟨g.q,0,none⟩),insV op ia ib ic ii (.slice A0 n0 k0)] w fun e w'=>e=vlE (r)∧Bl w w':=by
 have HB:Hid (Bl w ((w.alloc (insO op ia ib ic ii (.slice A0 n0 k0))).alloc fvZ)):=((Bl.refl w).alloc _).alloc _
 have ZB:Hid (((w.alloc (insO op ia ib ic ii (.slice A0 n0 k0))).alloc fvZ).heap[w.heap.size]?=some (.cells #[.int .i64 op,.int .i64 ia,.int .i64 ib,.int .i64 ic,.int .i64 ii,.slice A0 n0 k0] 58 (0,0))):=bl_blk ((Bl.refl _).alloc _) (mblk rfl)
 have ZV:Hid (((w.alloc (insO op ia ib ic ii (.slice A0 n0 k0))).alloc fvZ).heap[w.heap.size+1]?=some (.cells #[.int .i64 0,.int .i64 0] 243 (0,0))):=mblk (by simp)
 have R0:=hid (R.bl HB.out)
 have hq:=cell_lt R0.out.q0
 have hwl:=lt_some ZB.out
 have K:=hid (hn _ R0.out)
 have t3:(op==3)=false:=by simpa using hop.1
 have t4:(op==4)=false:=by simpa using hop.2.1
 have t13:(op==13)=false:=by simpa using hop.2.2.1
 have t14:(op==14)=false:=by simpa using hop.2.2.2.1
 have t16:(op==16)=false:=by simpa using hop.2.2.2.2.1
 have t19:(op==19)=false:=by simpa using hop.2.2.2.2.2.1
 have t22:(op==22)=false:=by simpa using hop.2.2.2.2.2.2
 clear R hn hop
 cases r with
 | none =>
  go_enter Tryz.func283,Tryz.ntmps283
  go_wp2_with (go_at_call 309;refine K.out.mono ?_;rintro e w2 ⟨he,b2⟩;have he:e=upE:=he;subst he)
  exact ⟨rfl,rfl,HB.out.trans b2⟩
 | some v =>
  go_enter Tryz.func283,Tryz.ntmps283
  go_wp2_with (go_at_call 309;refine K.out.mono ?_;rintro e w3 ⟨he,b⟩;have he:e=.returned (fvV v):=he;subst he;have Bw3:=hid (HB.out.trans b);have Rw3:=hid (R0.out.bl b);have Zw3:=hid (bl_blk b ZB.out);have Yw3:=hid (bl_blk b ZV.out);have cw3_0:w3.cell? ⟨w.heap.size,0,none⟩=some (.int .i64 op):=(cell_blk Zw3.out).trans rfl;have cw3_1:w3.cell? ⟨w.heap.size,1,none⟩=some (.int .i64 ia):=(cell_blk Zw3.out).trans rfl;have cw3_2:w3.cell? ⟨w.heap.size,2,none⟩=some (.int .i64 ib):=(cell_blk Zw3.out).trans rfl;have cw3_3:w3.cell? ⟨w.heap.size,3,none⟩=some (.int .i64 ic):=(cell_blk Zw3.out).trans rfl;have cw3_4:w3.cell? ⟨w.heap.size,4,none⟩=some (.int .i64 ii):=(cell_blk Zw3.out).trans rfl;have cw3_5:w3.cell? ⟨w.heap.size,5,none⟩=some (.slice A0 n0 k0):=(cell_blk Zw3.out).trans rfl;have lw3:=lt_some Zw3.out;have rw30:=c0_of Yw3.out;have rw31:=c1_of Yw3.out;have rfw3:=free_blk Yw3.out;have mw3:=lt_some Yw3.out;have hqw3:=cell_lt Rw3.out.q0;clear b)
  refine bodyPost_ret (results_cell_row rfl _ _ (w.heap.size+1) _ _ _ _ rfl (block_set (block_set Yw3.out _) _) Tryz.underlying243 rfl info_fv) rfl ?_
  exact ⟨rfl,(Bw3.out.setCell (Nat.le_succ _) _).setCell (Nat.le_succ _) _⟩
end
end
section
section
variable {w:World} {g:Gf} {f:Fi} {s:As} {hv:Value}
theorem qnumber_any (R:Rc w g f s hv) (i:In) (A0:Option Addr) (n0 k0:Nat) {nc:Nat} {regs rt:Int} (ok:InOk f.classes f.methods nc regs rt i) (hl:(s.slots.length:Int)=regs) (hop:i.op=1∨i.op=2∨(5≤i.op∧i.op≤9)∨i.op=17∨i.op=24) :
  Calls Tryz.prog 309 #[.pointer (some ⟨g.q,0,none⟩),insV i.op i.a i.b i.c i.n (.slice A0 n0 k0)] w fun e w'=>e=vlE (numT i s)∧Bl w w':=by
 have okb:=ok.b
 have okc:=ok.c
 obtain ⟨op,a,b,c,n,args⟩:=i
 unfold numT
 dsimp only at *
 rcases (by omega:op=1∨op=2∨op=5∨op=6∨op=7∨op=8∨op=9∨op=17∨op=24) with e|e|e|e|e|e|e|e|e
 all_goals subst e
 ·rw [if_neg (by decide),if_neg (by decide),if_neg (by decide),if_neg (by decide),if_neg (by decide),if_neg (by decide),if_neg (by decide)]
  exact qnum1 R a b c n A0 n0 k0
 ·rw [if_neg (by decide),if_neg (by decide),if_neg (by decide),if_neg (by decide),if_neg (by decide),if_neg (by decide),if_pos (Or.inl rfl)]
  exact qnum2 R a b c n A0 n0 k0
 ·obtain ⟨B,rfl⟩:∃B:Nat,b=B:=⟨b.toNat,by have:=okb (by decide);omega⟩
  obtain ⟨D,rfl⟩:∃D:Nat,c=D:=⟨c.toNat,by have:=okc (by decide);omega⟩
  rw [if_pos rfl]
  exact qnum5 R a B D n (by have:=okb (by decide);omega) (by have:=okc (by decide);omega) A0 n0 k0
 ·obtain ⟨B,rfl⟩:∃B:Nat,b=B:=⟨b.toNat,by have:=okb (by decide);omega⟩
  obtain ⟨D,rfl⟩:∃D:Nat,c=D:=⟨c.toNat,by have:=okc (by decide);omega⟩
  rw [if_neg (by decide),if_neg (by decide),if_neg (by decide),if_neg (by decide),if_pos rfl]
  exact qnum6 R a B D n (by have:=okb (by decide);omega) (by have:=okc (by decide);omega) A0 n0 k0
 ·obtain ⟨B,rfl⟩:∃B:Nat,b=B:=⟨b.toNat,by have:=okb (by decide);omega⟩
  rw [if_neg (by decide),if_neg (by decide),if_neg (by decide),if_neg (by decide),if_neg (by decide),if_pos rfl]
  exact qnum7 R a B c n (by have:=okb (by decide);omega) A0 n0 k0
 ·obtain ⟨B,rfl⟩:∃B:Nat,b=B:=⟨b.toNat,by have:=okb (by decide);omega⟩
  rw [if_neg (by decide),if_pos rfl]
  exact qnum8 R a B c n (by have:=okb (by decide);omega) A0 n0 k0
 ·obtain ⟨B,rfl⟩:∃B:Nat,b=B:=⟨b.toNat,by have:=okb (by decide);omega⟩
  obtain ⟨D,rfl⟩:∃D:Nat,c=D:=⟨c.toNat,by have:=okc (by decide);omega⟩
  rw [if_neg (by decide),if_neg (by decide),if_pos rfl]
  exact qnum9 R a B D n (by have:=okb (by decide);omega) (by have:=okc (by decide);omega) A0 n0 k0
 ·obtain ⟨B,rfl⟩:∃B:Nat,b=B:=⟨b.toNat,by have:=okb (by decide);omega⟩
  rw [if_neg (by decide),if_neg (by decide),if_neg (by decide),if_pos rfl]
  exact qnum17 R a B c n (by have:=okb (by decide);omega) A0 n0 k0
 ·rw [if_neg (by decide),if_neg (by decide),if_neg (by decide),if_neg (by decide),if_neg (by decide),if_neg (by decide),if_pos (Or.inr rfl)]
  exact qnum24 R a b c n A0 n0 k0
theorem qvalue_any (R:Rc w g f s hv) (i:In) (A0:Option Addr) (n0 k0:Nat) {nc:Nat} {regs rt:Int} (ok:InOk f.classes f.methods nc regs rt i) (hl:(s.slots.length:Int)=regs) (hop:i.op≠10∧i.op≠11∧i.op≠12∧i.op≠18∧i.op≠20∧i.op≠21∧i.op≠15∧i.op≠23) :
  Calls Tryz.prog 283 #[.pointer (some ⟨g.q,0,none⟩),insV i.op i.a i.b i.c i.n (.slice A0 n0 k0)] w fun e w'=>e=vlE (valT f.classes i s)∧Bl w w':=by
 have okop:=ok.op
 by_cases hN:i.op=3∨i.op=4∨i.op=13∨i.op=14∨i.op=16∨i.op=19∨i.op=22
 ·have oka:=ok.a
  have okb:=ok.b
  have okf:=ok.fld
  obtain ⟨op,a,b,c,n,args⟩:=i
  unfold valT
  dsimp only at *
  rcases hN with e|e|e|e|e|e|e
  all_goals subst e
  ·rw [if_pos rfl]
   exact qval3 R a b c n A0 n0 k0
  ·obtain ⟨B,rfl⟩:∃B:Nat,b=B:=⟨b.toNat,by have:=okb (by decide);omega⟩
   rw [if_neg (by decide),if_pos rfl]
   exact qval4 R a B c n (by have:=okb (by decide);omega) A0 n0 k0
  ·rw [if_neg (by decide),if_neg (by decide),if_pos rfl]
   exact qval13 R a b c n A0 n0 k0
  ·have o:=okf (Or.inl rfl)
   obtain ⟨B,rfl⟩:∃B:Nat,b=B:=⟨b.toNat,by have:=okb (by decide);omega⟩
   obtain ⟨D,rfl⟩:∃D:Nat,c=D:=⟨c.toNat,by omega⟩
   obtain ⟨N,rfl⟩:∃N:Nat,n=N:=⟨n.toNat,by omega⟩
   rw [Int.toNat_natCast] at o
   rw [if_neg (by decide),if_neg (by decide),if_neg (by decide),if_pos rfl]
   have K:=qval14 R a B D N (by have:=okb (by decide);omega) (by omega) (by omega) A0 n0 k0
   unfold fieldT
   rw [Int.toNat_natCast,Int.toNat_natCast]
   exact K
  ·obtain ⟨E,rfl⟩:∃E:Nat,a=E:=⟨a.toNat,by have:=oka (by decide);omega⟩
   rw [if_neg (by decide),if_neg (by decide),if_neg (by decide),if_neg (by decide),if_pos rfl]
   exact qval16 R E b c n (by have:=oka (by decide);omega) A0 n0 k0
  ·rw [if_neg (by decide),if_neg (by decide),if_neg (by decide),if_neg (by decide),if_neg (by decide),if_pos rfl]
   exact qval19 R a b c n A0 n0 k0
  ·rw [if_neg (by decide),if_neg (by decide),if_neg (by decide),if_neg (by decide),if_neg (by decide),if_neg (by decide),if_pos rfl]
   exact qval22 R a b c n A0 n0 k0
 ·have e1:valT f.classes i s=numT i s:=by unfold valT;rw [if_neg (by omega),if_neg (by omega),if_neg (by omega),if_neg (by omega),if_neg (by omega),if_neg (by omega),if_neg (by omega)]
  rw [e1]
  exact qvalN R i.op i.a i.b i.c i.n (by omega) (numT i s) A0 n0 k0 (fun V RV=>qnumber_any RV i A0 n0 k0 ok hl (by omega))
end
structure HdX (X:Nat→Prop) (wx:World) (hv:Value) (hs:List Ty):Prop where
 sl:∃A c,hv=.slice A hs.length c∧hs.length≤3000∧(hs.length=0∨∃ob,A=some ⟨ob,0,none⟩∧X ob∧Rd wx ob hs)
theorem Rd.blk {w w':World} {b:Nat} {l:List Ty} (h:Rd w b l) (e:w'.heap[b]?=w.heap[b]?):Rd w' b l :=
 ⟨fun i hi=>⟨by rw [World.cell?_of_block e];exact (h.c i hi).1,by rw [World.cell?_of_block e];exact (h.c i hi).2⟩⟩
section
variable {X:Nat→Prop} {wx w0 w1:World} {g:Gf} {b0:Nat} {w:World} {cur:As} {at':Int} {st:List (Option As)} {wt:List Int} {f:Fi} {m:Me} {hv:Value} {hs:List Ty}
theorem FX.rc (C:Cx w0 w1 g f m) (Q:Qx X wx w0 g f hv) (D:HdX X wx hv hs) (H:FX X wx w1 g b0 w cur at' st wt) (hc:Wq f m cur) (hr:1≤m.regs):Rc w g f ⟨cur.slots,hs⟩ hv:=by
 have jn:=C.jnAt H
 have bl:=C.bl0 H
 have pc:=H.pc
 obtain ⟨A,c,hb,-⟩:=Q.at H
 obtain ⟨A2,c2,e2,hA⟩:=C.cls
 obtain ⟨rv,vw,sp,H⟩:=H
 have hl:=hc.wf.len
 obtain ⟨gb,cap,-,hs'⟩:=H.sl (by omega)
 refine ⟨(cell_blk hb).trans rfl,(cell_blk hb).trans rfl,?_,⟨gb,cap,b0,hs'⟩,pc.2.2.2.2.2.2.2.2,jn,⟨A2,c2,by rw [←e2];exact pc.1,hA.bl bl⟩,fun t ht=>(hc.wf.sl t ht).1⟩
 obtain ⟨A3,c3,h1,h2,h3⟩:=D.sl
 exact ⟨A3,c3,h1,h2,h3.imp id (fun ⟨ob,a,b,d⟩=>⟨ob,a,d.blk (H.kept.blk ob b).2⟩)⟩
theorem HdX.wide (D:HdX X wx hv hs) (H:FX X wx w1 g b0 w cur at' st wt) {w':World} (h:Bl w w'):HdX (Xf X w.heap.size w'.heap.size) w' hv hs:=by
 obtain ⟨A3,c3,h1,h2,h3⟩:=D.sl
 obtain ⟨rv,vw,sp,H⟩:=H
 refine ⟨A3,c3,h1,h2,h3.imp id (fun ⟨ob,a,b,d⟩=>⟨ob,a,Or.inl b,d.blk ?_⟩)⟩
 obtain ⟨k1,k2⟩:=H.kept.blk ob b
 rw [h.block ob (Nat.lt_of_lt_of_le k1 H.kept.size)]
 exact k2
end
end
section
section
variable {X:Nat→Prop} {wx w0 w1:World} {g:Gf} {b0:Nat} {w:World} {sl hs:List Ty} {at':Int} {st:List (Option As)} {wt:List Int} {f:Fi} {m:Me} {hv:Value}
theorem qwork15 (C:Cx w0 w1 g f m) (Q:Qx X wx w0 g f hv) (D:HdX X wx hv hs) (hc:Wq f m ⟨sl,[]⟩) (hr:1≤m.regs) (H:FX X wx w1 g b0 w ⟨sl,[]⟩ at' st wt) (ia ib ic ii:Nat) (A0:Option Addr) (n0 k0:Nat) (ha:ia<sl.length) (hb:ib<sl.length) (hcl:ic<f.classes.length) (hi:ii<(nth cl0 f.classes ic).fields.length) :
  Calls Tryz.prog 224 #[.pointer (some ⟨g.q,0,none⟩),insV 15 ia ib ic ii (.slice A0 n0 k0)] w fun e w'=>AsQ X wx w1 g b0 at' st wt ((rdY f.classes ⟨3,ic⟩ ib ⟨sl,hs⟩).bind fun _=>(rdY f.classes (nth ty0 (nth cl0 f.classes ic).fields ii) ia ⟨sl,hs⟩).bind fun _=>some ⟨sl,[]⟩) e w':=by
 have HB:Hid (Bl w (w.alloc (insO 15 ia ib ic ii (.slice A0 n0 k0)))):=(Bl.refl w).alloc _
 have ZB:=hid (mblk (w:=w) (cs:=#[.int .i64 15,.int .i64 ia,.int .i64 ib,.int .i64 ic,.int .i64 ii,.slice A0 n0 k0]) (t:=58) rfl)
 have HH:=hid H
 have R0:=hid ((H.rc C Q D hc hr).bl HB.out)
 have hty:=tyB_ok (may_fldT C.may hcl hi)
 have K1:=hid (fun (V:World) (RR:Rc V g f ⟨sl,hs⟩ hv)=>qref_any RR ib ic hb (by omega))
 have K2:=hid (fun (V:World) (RR:Rc V g f ⟨sl,hs⟩ hv)=>qfield_any RR 15 ia ib ic ii A0 n0 k0 hcl hi)
 have K3:=hid (fun (V:World) (RR:Rc V g f ⟨sl,hs⟩ hv)=>qtype_any RR ia (nth ty0 (nth cl0 f.classes ic).fields ii) ha (fun e=>by have:=of_decide_eq_true (may_fldT C.may hcl hi);omega))
 have hq:=cell_lt R0.out.q0
 clear C Q D hc hr H ha hb hcl hi hty
 generalize nth ty0 (nth cl0 f.classes ic).fields ii=t at *
 obtain ⟨r,hr⟩:∃r,r=((rdY f.classes ⟨3,ic⟩ ib ⟨sl,hs⟩).bind fun _=>(rdY f.classes t ia ⟨sl,hs⟩).bind fun _=>some (⟨sl,[]⟩:As)):=⟨_,rfl⟩
 rw [←hr]
 replace hr:=hid hr
 cases h1:rdY f.classes ⟨3,ic⟩ ib ⟨sl,hs⟩ with
 | none =>
  have E1:Hid (r=none):=by show r=_;rw [hr.out,h1];rfl
  rw [h1] at K1
  clear h1
  go_enter Tryz.func224,Tryz.ntmps224
  go_wp2_with (go_at_call 281;refine (K1.out _ R0.out).mono ?_;rintro e w2 ⟨he,b2⟩;have he:e=upE:=he;subst he)
  refine ⟨rfl,?_⟩
  rw [E1.out]
  exact ⟨rfl,(HH.out.bl (HB.out.trans b2)).fe⟩
 | some v =>
  have E1:Hid (r=((rdY f.classes t ia ⟨sl,hs⟩).bind fun _=>some (⟨sl,[]⟩:As))):=by show r=_;rw [hr.out,h1];rfl
  rw [h1] at K1
  clear h1 hr
  go_enter Tryz.func224,Tryz.ntmps224
  go_wp2_with (go_at_call 281;refine (K1.out _ R0.out).mono ?_;rintro e w2 ⟨he,b2⟩;have he:e=.returned (.tuple #[]):=he;subst he;have B2:=hid (HB.out.trans b2);have R2:=hid (R0.out.bl b2);have Z2:=hid (bl_blk b2 ZB.out);have hl2:=lt_some Z2.out;clear b2)
  have SS:Hid (∀w':World,w'.heap[w.heap.size]?=some (.cells #[.int .i64 15,.int .i64 ia,.int .i64 ib,.int .i64 ic,.int .i64 ii,.slice A0 n0 k0] 58 (0,0))→w'.cell? ⟨w.heap.size,0,none⟩=some (.int .i64 15)∧w'.cell? ⟨w.heap.size,1,none⟩=some (.int .i64 ia)∧w'.cell? ⟨w.heap.size,2,none⟩=some (.int .i64 ib)∧w'.cell? ⟨w.heap.size,3,none⟩=some (.int .i64 ic)∧w'.cell? ⟨w.heap.size,4,none⟩=some (.int .i64 ii)∧w'.cell? ⟨w.heap.size,5,none⟩=some (.slice A0 n0 k0)):=fun w' h=>⟨(cell_blk h).trans rfl,(cell_blk h).trans rfl,(cell_blk h).trans rfl,(cell_blk h).trans rfl,(cell_blk h).trans rfl,(cell_blk h).trans rfl⟩
  refine wp_region_held_drew (S:=fun w'=>w'.cell? ⟨w.heap.size,0,none⟩=some (.int .i64 15)∧w'.cell? ⟨w.heap.size,1,none⟩=some (.int .i64 ia)∧w'.cell? ⟨w.heap.size,2,none⟩=some (.int .i64 ib)∧w'.cell? ⟨w.heap.size,3,none⟩=some (.int .i64 ic)∧w'.cell? ⟨w.heap.size,4,none⟩=some (.int .i64 ii)∧w'.cell? ⟨w.heap.size,5,none⟩=some (.slice A0 n0 k0)) (by kernel_rfl) ?_ (fun hHeld0=>?_)
  ·exact SS.out _ Z2.out
  iterate 5 (refine tn rfl (by kernel_rfl) (fun _ _ _ h=>h) (by intro _ h;go_split_ands;go_simp<;>with_reducible rfl) hHeld0 ?_;try simp only [aZ])
  refine rd1 (i:=5) (by kernel_rfl) rfl fun K hK=>?_
  go_simp
  go_at_call 282
  refine (K2.out w2.drew (R2.out.bl (Bl.refl w2).drew)).mono ?_
  rintro e w4 ⟨rfl,b4⟩
  have B4:=hid (B2.out.trans ((Bl.refl w2).drew.trans b4))
  have R4:=hid (R2.out.bl ((Bl.refl w2).drew.trans b4))
  have Z4:=hid (bl_blk ((Bl.refl w2).drew.trans b4) Z2.out)
  clear b4
  refine hK.out _ _ (SS.out _ Z4.out) (fun hHeld1=>?_)
  try simp only [aZ]
  clear hK
  refine rd1 (i:=6) (by kernel_rfl) rfl fun K hK=>?_
  go_simp
  go_at_call 280
  refine (K3.out w4 R4.out).mono ?_
  rintro e w5 ⟨he,b5⟩
  have B5:=hid (B4.out.trans b5)
  have Z5:=hid (bl_blk b5 Z4.out)
  clear b5
  cases h2:rdY f.classes t ia ⟨sl,hs⟩ with
  | none =>
   rw [h2] at he
   have he:e=upE:=he
   subst he
   refine ⟨rfl,?_⟩
   rw [E1.out,h2]
   exact ⟨rfl,(HH.out.bl B5.out).fe⟩
  | some v2 =>
   rw [h2] at he
   have he:e=.returned (.tuple #[]):=he
   subst he
   have H2:=hid h2
   clear h2
   refine hK.out _ _ (SS.out _ Z5.out) (fun hHeld2=>?_)
   try simp only [aZ]
   clear hK hHeld0 hHeld1 hHeld2
   refine wpAnyH_done (by kernel_rfl) ?_ _
   go_wp2
   go_end0
   rw [E1.out,H2.out]
   exact ⟨rfl,HH.out.bl B5.out⟩
theorem qwork23 (C:Cx w0 w1 g f m) (Q:Qx X wx w0 g f hv) (D:HdX X wx hv hs) (hc:Wq f m ⟨sl,[]⟩) (hr:1≤m.regs) (H:FX X wx w1 g b0 w ⟨sl,[]⟩ at' st wt) (ia:Nat) (ib ic ii:Int) (A0:Option Addr) (n0 k0:Nat) (ha:ia<sl.length) :
  Calls Tryz.prog 224 #[.pointer (some ⟨g.q,0,none⟩),insV 23 ia ib ic ii (.slice A0 n0 k0)] w fun e w'=>AsQ X wx w1 g b0 at' st wt ((rdT ib ia ⟨sl,hs⟩).bind fun _=>some ⟨sl,[]⟩) e w':=by
 have HB:Hid (Bl w (w.alloc (insO 23 ia ib ic ii (.slice A0 n0 k0)))):=(Bl.refl w).alloc _
 have ZB:=hid (mblk (w:=w) (cs:=#[.int .i64 23,.int .i64 ia,.int .i64 ib,.int .i64 ic,.int .i64 ii,.slice A0 n0 k0]) (t:=58) rfl)
 have HH:=hid H
 have R0:=hid ((H.rc C Q D hc hr).bl HB.out)
 have HA:=hid ha
 have hq:=cell_lt R0.out.q0
 have hwl:=lt_some ZB.out
 clear C Q D hc hr H ha
 go_enter Tryz.func224,Tryz.ntmps224
 go_wp2
 generalize w.alloc (insO 23 ia ib ic ii (.slice A0 n0 k0))=V at *
 refine wp_region_held_drew (S:=fun w'=>w'.cell? ⟨g.q,0,none⟩=some (.pointer (some ⟨g.p,0,none⟩))∧w'.cell? ⟨w.heap.size,1,none⟩=some (.int .i64 ia)∧w'.cell? ⟨w.heap.size,2,none⟩=some (.int .i64 ib)) (by kernel_rfl) ?_ (fun hHeld0=>?_)
 ·exact ⟨R0.out.q0,(cell_blk ZB.out).trans rfl,(cell_blk ZB.out).trans rfl⟩
 iterate 10 (refine tn rfl (by kernel_rfl) (fun _ _ _ h=>h) (by intro _ h;go_split_ands;go_simp<;>with_reducible rfl) hHeld0 ?_;try simp only [aZ])
 refine rd1 (i:=10) (by kernel_rfl) rfl fun K hK=>?_
 go_simp
 go_at_call 220
 have R1:=hid (R0.out.bl (Bl.refl V).drew)
 refine (qread_any R1.out ia ib HA.out).mono ?_
 rintro e w2 ⟨he,b2⟩
 have B2:=hid (HB.out.trans ((Bl.refl V).drew.trans b2))
 have R2:=hid (R1.out.bl b2)
 have Z2:=hid (bl_blk ((Bl.refl V).drew.trans b2) ZB.out)
 clear b2
 cases hv1:rdT ib ia ⟨sl,hs⟩ with
 | none =>
  rw [hv1] at he
  have he:e=upE:=he
  subst he
  refine ⟨rfl,?_⟩
  rw [hv1]
  exact ⟨rfl,(HH.out.bl B2.out).fe⟩
 | some v =>
  rw [hv1] at he
  have he:e=.returned (fvV v):=he
  subst he
  have HV:=hid hv1
  clear hv1
  refine hK.out _ _ ⟨R2.out.q0,(cell_blk Z2.out).trans rfl,(cell_blk Z2.out).trans rfl⟩ (fun hHeld1=>?_)
  try simp only [aZ]
  clear hK hHeld0 hHeld1
  refine wpAnyH_done (by kernel_rfl) ?_ _
  go_wp2
  go_end0
  rw [HV.out]
  exact ⟨rfl,HH.out.bl B2.out⟩
theorem qworkV (C:Cx w0 w1 g f m) (Q:Qx X wx w0 g f hv) (D:HdX X wx hv hs) (hc:Wq f m ⟨sl,[]⟩) (hs':Wq f m ⟨sl,hs⟩) (hr:1≤m.regs∧m.regs≤90) (hb0:w1.heap.size≤b0) (H:FX X wx w1 g b0 w ⟨sl,[]⟩ at' st wt) (i:In) (A0:Option Addr) (n0 k0:Nat) {rt:Int} (ok:InOk f.classes f.methods m.code.length m.regs rt i) (hop:i.op≠10∧i.op≠11∧i.op≠12∧i.op≠18∧i.op≠20∧i.op≠21∧i.op≠15∧i.op≠23) :
  Calls Tryz.prog 224 #[.pointer (some ⟨g.q,0,none⟩),insV i.op i.a i.b i.c i.n (.slice A0 n0 k0)] w fun e w'=>AsQ X wx w1 g b0 at' st wt ((valT f.classes i ⟨sl,hs⟩).bind fun v=>some ⟨wrT sl i.a.toNat v,[]⟩) e w':=by
 have hl:=hc.wf.len
 have hl:(sl.length:Int)=m.regs:=hl
 have oa:=ok.a (by have:=ok.op;omega)
 have VO:=hid (fun (v:Ty) (h:valT f.classes i ⟨sl,hs⟩=some v)=>(valT_ok hs' C.may ok hop h))
 have HP:=hid hc.wf.pair
 have HL:=hid hl
 have HR:=hid hr
 have HOA:=hid oa
 have HB0:=hid hb0
 have t15:(i.op==15)=false:=by simpa using hop.2.2.2.2.2.2.1
 have t23:(i.op==23)=false:=by simpa using hop.2.2.2.2.2.2.2
 have HB:Hid (Bl w (w.alloc (insO i.op i.a i.b i.c i.n (.slice A0 n0 k0)))):=(Bl.refl w).alloc _
 have ZB:=hid (mblk (w:=w) (cs:=#[.int .i64 i.op,.int .i64 i.a,.int .i64 i.b,.int .i64 i.c,.int .i64 i.n,.slice A0 n0 k0]) (t:=58) rfl)
 have HH:=hid H
 have W1:=hid (H.wide HB.out)
 have Q1:=hid (Q.wide H HB.out)
 have R0:=hid ((H.rc C Q D hc hr.1).bl HB.out)
 have KV:=hid (fun (V:World) (RR:Rc V g f ⟨sl,hs⟩ hv)=>qvalue_any RR i A0 n0 k0 ok hl hop)
 have hq:=cell_lt R0.out.q0
 have hwl:=lt_some ZB.out
 have SS:Hid (∀w':World,w'.cell? ⟨g.q,0,none⟩=some (.pointer (some ⟨g.p,0,none⟩))→w'.heap[w.heap.size]?=some (.cells #[.int .i64 i.op,.int .i64 i.a,.int .i64 i.b,.int .i64 i.c,.int .i64 i.n,.slice A0 n0 k0] 58 (0,0))→w'.cell? ⟨g.q,0,none⟩=some (.pointer (some ⟨g.p,0,none⟩))∧w'.cell? ⟨w.heap.size,0,none⟩=some (.int .i64 i.op)∧w'.cell? ⟨w.heap.size,1,none⟩=some (.int .i64 i.a)∧w'.cell? ⟨w.heap.size,2,none⟩=some (.int .i64 i.b)∧w'.cell? ⟨w.heap.size,3,none⟩=some (.int .i64 i.c)∧w'.cell? ⟨w.heap.size,4,none⟩=some (.int .i64 i.n)∧w'.cell? ⟨w.heap.size,5,none⟩=some (.slice A0 n0 k0)):=fun w' q h=>⟨q,(cell_blk h).trans rfl,(cell_blk h).trans rfl,(cell_blk h).trans rfl,(cell_blk h).trans rfl,(cell_blk h).trans rfl,(cell_blk h).trans rfl⟩
 clear C Q D hc hs' hr H hl oa ok hop hb0
 go_enter Tryz.func224,Tryz.ntmps224
 go_wp2
 generalize w.alloc (insO i.op i.a i.b i.c i.n (.slice A0 n0 k0))=V at *
 refine wp_region_held_drew (S:=fun w'=>w'.cell? ⟨g.q,0,none⟩=some (.pointer (some ⟨g.p,0,none⟩))∧w'.cell? ⟨w.heap.size,0,none⟩=some (.int .i64 i.op)∧w'.cell? ⟨w.heap.size,1,none⟩=some (.int .i64 i.a)∧w'.cell? ⟨w.heap.size,2,none⟩=some (.int .i64 i.b)∧w'.cell? ⟨w.heap.size,3,none⟩=some (.int .i64 i.c)∧w'.cell? ⟨w.heap.size,4,none⟩=some (.int .i64 i.n)∧w'.cell? ⟨w.heap.size,5,none⟩=some (.slice A0 n0 k0)) (by kernel_rfl) ?_ (fun hHeld0=>?_)
 ·exact SS.out _ R0.out.q0 ZB.out
 iterate 10 (refine tn rfl (by kernel_rfl) (fun _ _ _ h=>h) (by intro _ h;go_split_ands;go_simp<;>with_reducible rfl) hHeld0 ?_;try simp only [aZ])
 refine rd1 (i:=10) (by kernel_rfl) rfl fun K hK=>?_
 go_simp
 go_at_call 283
 refine (KV.out V.drew (R0.out.bl (Bl.refl V).drew)).mono ?_
 rintro e w2 ⟨he,b2⟩
 have BV2:=hid ((Bl.refl V).drew.trans b2)
 have R2:=hid (R0.out.bl BV2.out)
 have Z2:=hid (bl_blk BV2.out ZB.out)
 have W2:=hid (W1.out.bl BV2.out)
 clear b2
 cases hv1:valT f.classes i ⟨sl,hs⟩ with
 | none =>
  rw [hv1] at he
  have he:e=upE:=he
  subst he
  refine ⟨rfl,?_⟩
  rw [hv1]
  exact ⟨rfl,FE.back HH.out HB.out W2.out.fe⟩
 | some v =>
  rw [hv1] at he
  have he:e=.returned (fvV v):=he
  subst he
  have HV:=hid hv1
  obtain ⟨v1,v2⟩:=VO.out v hv1
  have hl:=HL.out
  have hr:=HR.out
  have oa:=HOA.out
  have CW:=cwrite_any W2.out HB0.out i.a.toNat v (by show _<sl.length;omega) (by show sl.length≤3000;omega) HP.out (fun e=>by have:=v2 e;show _<sl.length;omega)
  rw [Int.toNat_of_nonneg oa.1] at CW
  have KW:=hid CW
  clear hv1 CW v1 v2 hl hr oa
  refine hK.out _ _ (SS.out _ R2.out.q0 Z2.out) (fun hHeld1=>?_)
  try simp only [aZ]
  clear hK
  refine rd1 (i:=11) (by kernel_rfl) rfl fun K hK=>?_
  go_simp
  go_at_call 271
  refine KW.out.mono ?_
  rintro e w3 ⟨rfl,f3⟩
  have F3:=hid f3
  have Z3:=hid (f3.box (Nat.le_refl _) hwl ZB.out)
  have q3:=Q1.out.q0 f3
  clear f3
  refine hK.out _ _ (SS.out _ q3 Z3.out) (fun hHeld2=>?_)
  try simp only [aZ]
  clear hK hHeld0 hHeld1 hHeld2 q3
  refine wpAnyH_done (by kernel_rfl) ?_ _
  go_wp2
  go_end0
  rw [HV.out]
  exact ⟨rfl,HH.out.back HB.out F3.out⟩
theorem qwork_any (C:Cx w0 w1 g f m) (Q:Qx X wx w0 g f hv) (D:HdX X wx hv hs) (hc:Wq f m ⟨sl,[]⟩) (hs':Wq f m ⟨sl,hs⟩) (hr:1≤m.regs∧m.regs≤90) (hb0:w1.heap.size≤b0) (H:FX X wx w1 g b0 w ⟨sl,[]⟩ at' st wt) (i:In) (A0:Option Addr) (n0 k0:Nat) {rt:Int} (ok:InOk f.classes f.methods m.code.length m.regs rt i) (hop:i.op≠10∧i.op≠11∧i.op≠12∧i.op≠18∧i.op≠20∧i.op≠21) :
  Calls Tryz.prog 224 #[.pointer (some ⟨g.q,0,none⟩),insV i.op i.a i.b i.c i.n (.slice A0 n0 k0)] w fun e w'=>AsQ X wx w1 g b0 at' st wt (workT f.classes i ⟨sl,hs⟩) e w':=by
 have hl:(sl.length:Int)=m.regs:=hc.wf.len
 by_cases e15:i.op=15
 ·have oa:=ok.a (by omega)
  have ob:=ok.b (by omega)
  have o:=ok.fld (Or.inr e15)
  obtain ⟨op,a,b,c,n,args⟩:=i
  dsimp only at *
  subst e15
  obtain ⟨E,rfl⟩:∃E:Nat,a=E:=⟨a.toNat,by omega⟩
  obtain ⟨B,rfl⟩:∃B:Nat,b=B:=⟨b.toNat,by omega⟩
  obtain ⟨F,rfl⟩:∃F:Nat,c=F:=⟨c.toNat,by omega⟩
  obtain ⟨N,rfl⟩:∃N:Nat,n=N:=⟨n.toNat,by omega⟩
  rw [Int.toNat_natCast] at o
  have K:=qwork15 C Q D hc hr.1 H E B F N A0 n0 k0 (by omega) (by omega) (by omega) (by omega)
  unfold workT fieldT
  dsimp only
  rw [if_pos rfl,Int.toNat_natCast,Int.toNat_natCast]
  exact K
 by_cases e23:i.op=23
 ·have oa:=ok.a (by omega)
  obtain ⟨op,a,b,c,n,args⟩:=i
  dsimp only at *
  subst e23
  obtain ⟨E,rfl⟩:∃E:Nat,a=E:=⟨a.toNat,by omega⟩
  unfold workT
  dsimp only
  rw [if_neg (by decide),if_pos rfl]
  exact qwork23 C Q D hc hr.1 H E b c n A0 n0 k0 (by omega)
 unfold workT
 rw [if_neg e15,if_neg e23]
 exact qworkV C Q D hc hs' hr hb0 H i A0 n0 k0 ok ⟨hop.1,hop.2.1,hop.2.2.1,hop.2.2.2.1,hop.2.2.2.2.1,hop.2.2.2.2.2,e15,e23⟩
end
end
end Go.Proofs.YtgiiapenmjollabGreat
