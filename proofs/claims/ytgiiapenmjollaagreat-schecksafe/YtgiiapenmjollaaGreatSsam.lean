import Derived.Test.YtgiiapenmjollaaGreatSsal
import Derived.Deep.RegionHeld3
namespace Go.Proofs.YtgiiapenmjollaaGreat
set_option linter.all false
set_option maxHeartbeats 40000000
set_option maxRecDepth 100000
open Go.RowKit
theorem anyH_skip {P:Program} {md:Region.Mode} {ops:Array Oper} {Q:Exit→Act→World→Prop} {S:World→Prop} {i:Nat} {oi:Oper} {d:Option Tmp} {fuel:Nat} {listed:Array Bool} {a:Act} {w:World} (hi:ops[i]?=some oi) (hd:oi.dst=d)
  (hs:Region.noSelect ops=true) (hf:Region.free md ops listed i=true) (hr:(Region.ready md ops listed).contains i=true)
  (hQ:∀c a w,Q (.panic c) (a.put oi.dst undef) w→Q (.panic c) a w) (hw:Region.wanted oi (yielded ops a.tmps)=false) (hS:S w)
  (h:wpAnyH P md ops Q S fuel (listed.setIfInBounds i true) (a.put d undef) w):wpAnyH P md ops Q S (fuel+1) listed a w :=
 wpAnyH_take hi hs hf hr hQ (Or.inr ⟨hw,rfl⟩) hS (hd▸h)
theorem anyH_take {P:Program} {md:Region.Mode} {ops:Array Oper} {Q:Exit→Act→World→Prop} {S:World→Prop} {i:Nat} {oi:Oper} {d:Option Tmp} {v:Value} {fuel:Nat} {listed:Array Bool} {a:Act} {w:World} (hi:ops[i]?=some oi) (hd:oi.dst=d)
  (hs:Region.noSelect ops=true) (hf:Region.free md ops listed i=true) (hr:(Region.ready md ops listed).contains i=true)
  (hQ:∀c a w,Q (.panic c) (a.put oi.dst v) w→Q (.panic c) a w) (hw:Region.wanted oi (yielded ops a.tmps)=true) (hy:∀w,S w→(execOp a.eval oi).run P w=.ok (.value v) w) (hS:S w)
  (h:wpAnyH P md ops Q S fuel (listed.setIfInBounds i true) (a.put d v) w):wpAnyH P md ops Q S (fuel+1) listed a w :=
 wpAnyH_take hi hs hf hr hQ (Or.inl ⟨hw,hy⟩) hS (hd▸h)
theorem is_not (w0:World) (g:Ad) (p:Nat) (h:Hp) (v:Va) (c:Int) (w:World) (hH:Hs w0 g w p h) (C:Cw w0 g h) (hk:¬v.kind=3) :
  Calls Tryz.prog 163 #[.pointer (some ⟨p,0,none⟩),vaV v,.int .i64 c] w fun e w'=>e=.returned (vaV (h.isV v c))∧Hs w0 g w' p (h.must (isRef v))∧Fr w0.heap.size g.T w w':=by
 have hbs:=hH.base
 have HF:Hid (Fr w0.heap.size g.T w ((w.alloc (vaO v)).alloc vzO)):=((Fr.refl _ _ w).alloc hbs _).alloc (by simp;omega) _
 have HH:Hid (Hs w0 g ((w.alloc (vaO v)).alloc vzO) p h):=hH.cf (((Cf.refl _ _ w).alloc hbs _).alloc (by simp;omega) _)
 have HV:Hid (VaBox ((w.alloc (vaO v)).alloc vzO) w.heap.size v):=(two_new w v va0).1
 have HR:Hid (VaBox ((w.alloc (vaO v)).alloc vzO) (w.heap.size+1) va0):=(two_new w v va0).2
 have HC:Hid (Cw w0 g h):=C
 have hbs':w0.heap.size≤w.heap.size+1:=by omega
 have hle':w.heap.size≤w.heap.size+1:=by omega
 clear hH C
 have hi:isRef v=false:=by unfold isRef;exact decide_eq_false hk
 have e1:h.isV v c=⟨1,0⟩:=by unfold Hp.isV Hp.mustB;rw [hi];simp
 rw [e1,hi]
 have hk3:(v.kind==3)=false:=by simpa using hk
 have v0:=HV.out.c0
 have hmf:h.mustB false=false:=rfl
 clear e1 hk
 go_enter Tryz.func163,Tryz.ntmps163
 go_wp2
 refine wp_region_held_drew (S:=fun w'=>w'.cell? ⟨w.heap.size,0,none⟩=some (.int .i64 v.kind)) (by kernel_rfl) ?_ (fun hHeld=>?_)
 ·exact v0
 refine anyH_take (i:=0) (d:=some 8) (v:=?_) rfl rfl (by kernel_rfl) (by kernel_rfl) (by kernel_rfl) (fun _ _ _ h=>h) (by rfl) ?_ hHeld ?_
 rotate_left 1
 ·intro w' hSw;go_simp<;>with_reducible rfl
 try simp only [aS,aN,aT,a0,a1]
 refine anyH_take (i:=1) (d:=some 9) (v:=?_) rfl rfl (by kernel_rfl) (by kernel_rfl) (by kernel_rfl) (fun _ _ _ h=>h) (by rfl) ?_ hHeld ?_
 rotate_left 1
 ·intro w' hSw;go_simp<;>with_reducible rfl
 try simp only [aS,aN,aT,a0,a1]
 refine anyH_take (i:=2) (d:=some 10) (v:=?_) rfl rfl (by kernel_rfl) (by kernel_rfl) (by kernel_rfl) (fun _ _ _ h=>h) (by rfl) ?_ hHeld ?_
 rotate_left 1
 ·intro w' hSw;go_simp<;>with_reducible rfl
 try simp only [aS,aN,aT,a0,a1]
 refine anyH_take (i:=3) (d:=some 11) (v:=?_) rfl rfl (by kernel_rfl) (by kernel_rfl) (by kernel_rfl) (fun _ _ _ h=>h) (by rfl) ?_ hHeld ?_
 rotate_left 1
 ·intro w' hSw;go_simp<;>with_reducible rfl
 try simp only [aS,aN,aT,a0,a1]
 refine wpAnyH_ready (rs:=[4]) (by kernel_rfl) (by simp) ?_
 refine AllReadyH.cons rfl (fun K hK=>?_) AllReadyH.nil
 go_simp
 go_at_call 55
 refine (must_any w0 g HC.out.k p h false _ (HH.out.cf (Cf.drew (Cf.refl _ _ _)))).mono ?_
 rintro e w1 ⟨he,h1,f1⟩
 rw [hmf] at he
 subst he
 have FD:Hid (Fr w0.heap.size g.T ((w.alloc (vaO v)).alloc vzO) w1):=Fr.trans (Fr.drew (Fr.refl _ _ _)) f1
 have b1:=HR.out.keep HC.out.k FD.out
 have r0:=b1.c0
 have r1:=b1.c1
 have r2:=b1.fr 0
 have r3:=b1.fr 1
 have HB1:Hid (VaBox w1 (w.heap.size+1) va0):=b1
 clear b1
 go_wp2_with fail
 refine hK.out _ _ ((HV.out.keep HC.out.k FD.out).c0) (fun hHeld1=>?_)
 clear hK K
 try simp only [aS,aN,aT,a0,a1]
 refine anyH_take (i:=5) (d:=some 13) (v:=?_) rfl rfl (by kernel_rfl) (by kernel_rfl) (by kernel_rfl) (fun _ _ _ h=>h) (by rfl) ?_ hHeld1 ?_
 rotate_left 1
 ·intro w' hSw;go_simp<;>with_reducible rfl
 try simp only [aS,aN,aT,a0,a1]
 refine anyH_skip (i:=6) (d:=some 14) rfl rfl (by kernel_rfl) (by kernel_rfl) (by kernel_rfl) (fun _ _ _ h=>h) (by rfl) hHeld1 ?_
 try simp only [aS,aN,aT,a0,a1]
 refine anyH_skip (i:=7) (d:=some 15) rfl rfl (by kernel_rfl) (by kernel_rfl) (by kernel_rfl) (fun _ _ _ h=>h) (by rfl) hHeld1 ?_
 try simp only [aS,aN,aT,a0,a1]
 refine anyH_skip (i:=8) (d:=some 16) rfl rfl (by kernel_rfl) (by kernel_rfl) (by kernel_rfl) (fun _ _ _ h=>h) (by rfl) hHeld1 ?_
 try simp only [aS,aN,aT,a0,a1]
 refine anyH_take (i:=9) (d:=some 17) (v:=?_) rfl rfl (by kernel_rfl) (by kernel_rfl) (by kernel_rfl) (fun _ _ _ h=>h) (by rfl) ?_ hHeld1 ?_
 rotate_left 1
 ·intro w' hSw;go_simp<;>with_reducible rfl
 try simp only [aS,aN,aT,a0,a1]
 refine anyH_take (i:=10) (d:=some 18) (v:=?_) rfl rfl (by kernel_rfl) (by kernel_rfl) (by kernel_rfl) (fun _ _ _ h=>h) (by rfl) ?_ hHeld1 ?_
 rotate_left 1
 ·intro w' hSw;go_simp<;>with_reducible rfl
 try simp only [aS,aN,aT,a0,a1]
 refine anyH_skip (i:=11) (d:=some 19) rfl rfl (by kernel_rfl) (by kernel_rfl) (by kernel_rfl) (fun _ _ _ h=>h) (by rfl) hHeld1 ?_
 try simp only [aS,aN,aT,a0,a1]
 refine anyH_skip (i:=12) (d:=some 20) rfl rfl (by kernel_rfl) (by kernel_rfl) (by kernel_rfl) (fun _ _ _ h=>h) (by rfl) hHeld1 ?_
 try simp only [aS,aN,aT,a0,a1]
 refine anyH_skip (i:=13) (d:=some 21) rfl rfl (by kernel_rfl) (by kernel_rfl) (by kernel_rfl) (fun _ _ _ h=>h) (by rfl) hHeld1 ?_
 try simp only [aS,aN,aT,a0,a1]
 refine anyH_skip (i:=14) (d:=some 22) rfl rfl (by kernel_rfl) (by kernel_rfl) (by kernel_rfl) (fun _ _ _ h=>h) (by rfl) hHeld1 ?_
 try simp only [aS,aN,aT,a0,a1]
 refine anyH_skip (i:=15) (d:=some 23) rfl rfl (by kernel_rfl) (by kernel_rfl) (by kernel_rfl) (fun _ _ _ h=>h) (by rfl) hHeld1 ?_
 try simp only [aS,aN,aT,a0,a1]
 refine anyH_skip (i:=16) (d:=some 24) rfl rfl (by kernel_rfl) (by kernel_rfl) (by kernel_rfl) (fun _ _ _ h=>h) (by rfl) hHeld1 ?_
 try simp only [aS,aN,aT,a0,a1]
 refine anyH_skip (i:=17) (d:=some 25) rfl rfl (by kernel_rfl) (by kernel_rfl) (by kernel_rfl) (fun _ _ _ h=>h) (by rfl) hHeld1 ?_
 try simp only [aS,aN,aT,a0,a1]
 refine anyH_skip (i:=18) (d:=some 26) rfl rfl (by kernel_rfl) (by kernel_rfl) (by kernel_rfl) (fun _ _ _ h=>h) (by rfl) hHeld1 ?_
 try simp only [aS,aN,aT,a0,a1]
 refine anyH_skip (i:=19) (d:=some 27) rfl rfl (by kernel_rfl) (by kernel_rfl) (by kernel_rfl) (fun _ _ _ h=>h) (by rfl) hHeld1 ?_
 try simp only [aS,aN,aT,a0,a1]
 refine anyH_skip (i:=20) (d:=some 28) rfl rfl (by kernel_rfl) (by kernel_rfl) (by kernel_rfl) (fun _ _ _ h=>h) (by rfl) hHeld1 ?_
 try simp only [aS,aN,aT,a0,a1]
 refine anyH_skip (i:=21) (d:=some 29) rfl rfl (by kernel_rfl) (by kernel_rfl) (by kernel_rfl) (fun _ _ _ h=>h) (by rfl) hHeld1 ?_
 try simp only [aS,aN,aT,a0,a1]
 refine anyH_skip (i:=22) (d:=some 30) rfl rfl (by kernel_rfl) (by kernel_rfl) (by kernel_rfl) (fun _ _ _ h=>h) (by rfl) hHeld1 ?_
 try simp only [aS,aN,aT,a0,a1]
 refine anyH_skip (i:=23) (d:=some 31) rfl rfl (by kernel_rfl) (by kernel_rfl) (by kernel_rfl) (fun _ _ _ h=>h) (by rfl) hHeld1 ?_
 try simp only [aS,aN,aT,a0,a1]
 refine anyH_skip (i:=24) (d:=some 32) rfl rfl (by kernel_rfl) (by kernel_rfl) (by kernel_rfl) (fun _ _ _ h=>h) (by rfl) hHeld1 ?_
 try simp only [aS,aN,aT,a0,a1]
 refine anyH_skip (i:=25) (d:=some 33) rfl rfl (by kernel_rfl) (by kernel_rfl) (by kernel_rfl) (fun _ _ _ h=>h) (by rfl) hHeld1 ?_
 try simp only [aS,aN,aT,a0,a1]
 refine anyH_skip (i:=26) (d:=some 34) rfl rfl (by kernel_rfl) (by kernel_rfl) (by kernel_rfl) (fun _ _ _ h=>h) (by rfl) hHeld1 ?_
 try simp only [aS,aN,aT,a0,a1]
 refine anyH_take (i:=27) (d:=some 35) (v:=?_) rfl rfl (by kernel_rfl) (by kernel_rfl) (by kernel_rfl) (fun _ _ _ h=>h) (by rfl) ?_ hHeld1 ?_
 rotate_left 1
 ·intro w' hSw;go_simp<;>with_reducible rfl
 try simp only [aS,aN,aT,a0,a1]
 refine wpAnyH_done (by kernel_rfl) ?_ _
 go_wp2
 (try simp only [Exit.inBlock,Exit.then])
 refine bodyPost_ret (results_cell_row rfl _ _ (w.heap.size+1) _ _ _ _ rfl (HB1.out.set ⟨1,0⟩).blk Tryz.underlying62 rfl info_va) rfl ?_
 exact ⟨rfl,h1.cf (HB1.out.cf HC.out.k hbs' _ _),(((HF.out.trans FD.out).new hle' hbs' _).new hle' hbs' _)⟩
theorem is_any (w0:World) (g:Ad) (p:Nat) (h:Hp) (v:Va) (c:Int) (w:World) (hH:Hs w0 g w p h) (C:Cw w0 g h) (hv3:v.kind=3→v.n<h.objs.length) :
  Calls Tryz.prog 163 #[.pointer (some ⟨p,0,none⟩),vaV v,.int .i64 c] w fun e w'=>e=.returned (vaV (h.isV v c))∧Hs w0 g w' p (h.must (isRef v))∧Fr w0.heap.size g.T w w':=by
 have hH0:=hH
 have C0:=C
 have hbs:=hH.base
 have HF:Hid (Fr w0.heap.size g.T w ((w.alloc (vaO v)).alloc vzO)):=((Fr.refl _ _ w).alloc hbs _).alloc (by simp;omega) _
 have HH:Hid (Hs w0 g ((w.alloc (vaO v)).alloc vzO) p h):=hH.cf (((Cf.refl _ _ w).alloc hbs _).alloc (by simp;omega) _)
 have HV:Hid (VaBox ((w.alloc (vaO v)).alloc vzO) w.heap.size v):=(two_new w v va0).1
 have HR:Hid (VaBox ((w.alloc (vaO v)).alloc vzO) (w.heap.size+1) va0):=(two_new w v va0).2
 have HC:Hid (Cw w0 g h):=C
 have hbs':w0.heap.size≤w.heap.size+1:=by omega
 have hle':w.heap.size≤w.heap.size+1:=by omega
 clear hH C
 by_cases hk:v.kind=3
 ·clear hH0 C0
  obtain ⟨vk,vn⟩:=v
  dsimp only at *
  subst hk
  have hmt:h.must (isRef ⟨3,vn⟩)=h:=rfl
  rw [hmt]
  clear hmt
  cases hov:h.over
  ·have hnv:(!h.over)=true:=by rw [hov];rfl
   by_cases hn:vn<0
   ·have e1:h.isV ⟨3,vn⟩ c=⟨1,0⟩:=by unfold Hp.isV;dsimp only;rw [decide_eq_false (by omega)];simp
    rw [e1]
    clear e1 hv3
    have d1:decide (0≤vn)=false:=decide_eq_false (by omega)
    go_enter Tryz.func163,Tryz.ntmps163
    go_wp2
    go_quiet ((go_at_call 55;exact Calls.quiet_of_same ((must_true w0 g p h _ (HH.out.drewN _)).mono fun e w' hh=>⟨hh.1.trans (ret_bool hnv),hh.2⟩)))
    go_wp2
    (try simp only [Exit.inBlock,Exit.then])
    refine bodyPost_ret (results_cell_row rfl _ _ (w.heap.size+1) _ _ _ _ rfl ((HR.out.drewN _).set ⟨1,0⟩).blk Tryz.underlying62 rfl info_va) rfl ?_
    exact ⟨rfl,(HH.out.drewN _).cf ((HR.out.drewN _).cf HC.out.k hbs' _ _),(((HF.out.drewN _).new hle' hbs' _).new hle' hbs' _)⟩
   ·obtain ⟨n,rfl⟩:∃n:Nat,vn=n:=⟨vn.toNat,by omega⟩
    have hnl:n<h.objs.length:=by have:=hv3 rfl;omega
    obtain ⟨vo,vx,hv,H⟩:=HH.out
    have HCL:Hid (ClsAt ((w.alloc (vaO ⟨3,n⟩)).alloc vzO) g.A h.file.classes):=HC.out.cls.bl H.bl
    have c0:=H.cells.c0
    have c2:=H.cells.c2
    obtain ⟨gb,cap,hvo,-,hom,hcc⟩:=obs_cell H.obs (by omega)
    rw [hvo] at c2
    have o1:=(hcc n hnl).1
    unfold maxLen at hom
    have hn0:(0:Int)≤(n:Int):=by omega
    have hn1:(n:Int)<(h.objs.length:Int):=by omega
    clear hcc hvo H hv3 hn
    obtain ⟨R,hR⟩:∃R,(clsI h.file.classes (nth ob0 h.objs n).cls c&&belN h.file.classes (nth ob0 h.objs n).cls.toNat c.toNat)=R:=⟨_,rfl⟩
    have e1:h.isV ⟨3,n⟩ c=⟨1,if R=true then 1 else 0⟩:=by
     unfold Hp.isV Hp.mustB Hp.obj belI;dsimp only;rw [hov,Int.toNat_natCast,hR,decide_eq_true hn0];simp [isRef]
    rw [e1]
    clear e1
    generalize hX:(nth ob0 h.objs n).cls=X at *
    clear hX
    cases R
    ·go_enter Tryz.func163,Tryz.ntmps163
     go_wp2
     go_quiet (first|(go_at_call 55;exact Calls.quiet_of_same ((must_true w0 g p h _ (HH.out.drewN _)).mono fun e w' hh=>⟨hh.1.trans (ret_bool hnv),hh.2⟩))|(go_at_call 110;exact Calls.quiet_of_same ((rbelow_any _ _ _ _ _ _ (HCL.out.bl (bl_drewN (Bl.refl _) _)) HC.out.tree).mono fun e w' hh=>⟨hh.1.trans (ret_bool hR),hh.2⟩)))
     go_wp2
     (try simp only [Exit.inBlock,Exit.then])
     refine bodyPost_ret (results_cell_row rfl _ _ (w.heap.size+1) _ _ _ _ rfl ((HR.out.drewN _).set ⟨1,0⟩).blk Tryz.underlying62 rfl info_va) rfl ?_
     exact ⟨rfl,(HH.out.drewN _).cf ((HR.out.drewN _).cf HC.out.k hbs' _ _),(((HF.out.drewN _).new hle' hbs' _).new hle' hbs' _)⟩
    ·go_enter Tryz.func163,Tryz.ntmps163
     go_wp2
     go_quiet (first|(go_at_call 55;exact Calls.quiet_of_same ((must_true w0 g p h _ (HH.out.drewN _)).mono fun e w' hh=>⟨hh.1.trans (ret_bool hnv),hh.2⟩))|(go_at_call 110;exact Calls.quiet_of_same ((rbelow_any _ _ _ _ _ _ (HCL.out.bl (bl_drewN (Bl.refl _) _)) HC.out.tree).mono fun e w' hh=>⟨hh.1.trans (ret_bool hR),hh.2⟩)))
     go_wp2
     (try simp only [Exit.inBlock,Exit.then])
     refine bodyPost_ret (results_cell_row rfl _ _ (w.heap.size+1) _ _ _ _ rfl ((HR.out.drewN _).set ⟨1,1⟩).blk Tryz.underlying62 rfl info_va) rfl ?_
     exact ⟨rfl,(HH.out.drewN _).cf ((HR.out.drewN _).cf HC.out.k hbs' _ _),(((HF.out.drewN _).new hle' hbs' _).new hle' hbs' _)⟩
  ·have hnv:(!h.over)=false:=by rw [hov];rfl
   have e1:h.isV ⟨3,vn⟩ c=⟨1,0⟩:=by unfold Hp.isV Hp.mustB;rw [hov];simp
   rw [e1]
   clear e1 hv3
   go_enter Tryz.func163,Tryz.ntmps163
   go_wp2
   go_quiet ((go_at_call 55;exact Calls.quiet_of_same ((must_true w0 g p h _ (HH.out.drewN _)).mono fun e w' hh=>⟨hh.1.trans (ret_bool hnv),hh.2⟩)))
   go_wp2
   (try simp only [Exit.inBlock,Exit.then])
   refine bodyPost_ret (results_cell_row rfl _ _ (w.heap.size+1) _ _ _ _ rfl ((HR.out.drewN _).set ⟨1,0⟩).blk Tryz.underlying62 rfl info_va) rfl ?_
   exact ⟨rfl,(HH.out.drewN _).cf ((HR.out.drewN _).cf HC.out.k hbs' _ _),(((HF.out.drewN _).new hle' hbs' _).new hle' hbs' _)⟩
 ·exact is_not w0 g p h v c w hH0 C0 hk
abbrev inC (op ia ib ic ii:Int) (Q:Option Addr) (nl q:Nat):Array Value:=#[.int .i64 op,.int .i64 ia,.int .i64 ib,.int .i64 ic,.int .i64 ii,.slice Q nl q]
structure InsBox (w:World) (b:Nat) (op ia ib ic ii:Int):Prop where
 ex:∃u,w.heap[b]?=some (.cells #[.int .i64 op,.int .i64 ia,.int .i64 ib,.int .i64 ic,.int .i64 ii,u] 55 (0,0))
theorem InsBox.c0 {w:World} {b:Nat} {op ia ib ic ii:Int} (h:InsBox w b op ia ib ic ii):w.cell? ⟨b,0,none⟩=some (.int .i64 op):=by
 obtain ⟨u,h⟩:=h.ex;rw [cell_blk h];rfl
theorem InsBox.c1 {w:World} {b:Nat} {op ia ib ic ii:Int} (h:InsBox w b op ia ib ic ii):w.cell? ⟨b,1,none⟩=some (.int .i64 ia):=by
 obtain ⟨u,h⟩:=h.ex;rw [cell_blk h];rfl
theorem InsBox.c2 {w:World} {b:Nat} {op ia ib ic ii:Int} (h:InsBox w b op ia ib ic ii):w.cell? ⟨b,2,none⟩=some (.int .i64 ib):=by
 obtain ⟨u,h⟩:=h.ex;rw [cell_blk h];rfl
theorem InsBox.c4 {w:World} {b:Nat} {op ia ib ic ii:Int} (h:InsBox w b op ia ib ic ii):w.cell? ⟨b,4,none⟩=some (.int .i64 ii):=by
 obtain ⟨u,h⟩:=h.ex;rw [cell_blk h];rfl
theorem InsBox.fq {B:Nat} {T:TypeId} {a:Ca} {w w':World} {b:Nat} {op ia ib ic ii:Int} (h:InsBox w b op ia ib ic ii) (k:Tk T) (f:Fq B T a w w') (h1:b≠a.q) (h2:b≠a.lb):InsBox w' b op ia ib ic ii:=by
 obtain ⟨u,h⟩:=h.ex;exact ⟨u,f.keep _ _ _ _ h k.nn h1 h2⟩
theorem InsBox.fr {B:Nat} {T:TypeId} {w w':World} {b:Nat} {op ia ib ic ii:Int} (h:InsBox w b op ia ib ic ii) (k:Tk T) (f:Fr B T w w'):InsBox w' b op ia ib ic ii:=by
 obtain ⟨u,h⟩:=h.ex;exact ⟨u,f.keep _ _ _ _ h k.nn⟩
theorem InsBox.drewN {w:World} {b:Nat} {op ia ib ic ii:Int} (h:InsBox w b op ia ib ic ii) (n:Nat):InsBox (w.drewN n) b op ia ib ic ii:=⟨h.ex⟩
theorem VaBox.fq {B:Nat} {T:TypeId} {a:Ca} {w w':World} {b:Nat} {v:Va} (h:VaBox w b v) (k:Tk T) (f:Fq B T a w w') (h1:b≠a.q) (h2:b≠a.lb):VaBox w' b v:=⟨f.keep _ _ _ _ h.blk k.nv h1 h2⟩
theorem box_two (w:World) (op ia ib ic ii:Int) (u:Value):InsBox ((w.alloc (.cells #[.int .i64 op,.int .i64 ia,.int .i64 ib,.int .i64 ic,.int .i64 ii,u] 55)).alloc vzO) w.heap.size op ia ib ic ii
  ∧ VaBox ((w.alloc (.cells #[.int .i64 op,.int .i64 ia,.int .i64 ib,.int .i64 ic,.int .i64 ii,u] 55)).alloc vzO) (w.heap.size+1) va0 :=
 ⟨⟨u,blk_up (by simp) (blk_at rfl)⟩,⟨blk_at (by simp)⟩⟩
theorem StkAt.fst {lb:Nat} {w:World} {A:Option Addr} {l:List Va} (h:StkAt lb w A l) (hl:0<l.length):∃b off,A=some ⟨b,off,none⟩∧∀i,i<l.length→w.cell? ⟨b,off+i*2,none⟩=some (.int .i64 (nth va0 l i).kind)∧w.cell? ⟨b,off+i*2+1,none⟩=some (.int .i64 (nth va0 l i).n):=by
 rcases h with h|⟨b,off,cs,f,h1,h2,h3,h4⟩
 ·omega
 ·exact ⟨b,off,h1,fun i hi=>by rw [cell_blk h2,cell_blk h2];exact h4 i hi⟩
theorem Cs.old {w0 w w':World} {a:Ca} {c:Cal} (h:Cs w0 w a c) (hb:Bl w w'):Cs w0 w' a c:=by
 obtain ⟨A,cap,h⟩:=h
 exact ⟨A,cap,h.old hb⟩
theorem Cs.lt {w0 w:World} {a:Ca} {c:Cal} (h:Cs w0 w a c):a.q<w.heap.size∧a.lb<w.heap.size:=by
 obtain ⟨A,cap,h⟩:=h
 exact ⟨lt_some h.blk,lt_some h.loc.blk⟩
def Ere (N:Nat) (A:Option Addr) (n:Nat):Prop:=n=0∨∃b off,A=some ⟨b,off,none⟩∧b<N
theorem CalAt.ere {w0 w:World} {a:Ca} {c:Cal} {A:Option Addr} {cap:Nat} (h:CalAt w0 w a c A cap):Ere w.heap.size A c.stk.length:=by
 rcases h.stk with h0|⟨b,off,cs,f,h1,h2,-⟩
 ·exact Or.inl h0
 ·exact Or.inr ⟨b,off,h1,lt_some h2⟩
theorem ere_ne {N n b off:Nat} {A:Option Addr} (h:Ere N A n) (hn:0<n) (hb:∀x y:Addr,A=some x→some (⟨b,off,none⟩:Addr)=some y→y.block=x.block):b≠N+1:=by
 rcases h with h|⟨b0,o0,rfl,h⟩
 ·omega
 ·have:=hb _ _ rfl rfl
  simp only at this
  omega
theorem cut_le (c:Cal) (k:Nat):(c.cut k).stk.length≤c.stk.length:=by unfold Cal.cut;split<;>simp
theorem Ere.le {N n m:Nat} {A:Option Addr} (h:Ere N A n) (hm:m≤n):Ere N A m:=by
 rcases h with h|h
 ·exact Or.inl (by omega)
 ·exact Or.inr h
theorem CalAt.box {w0 w:World} {a:Ca} {c:Cal} {A:Option Addr} {cap N b:Nat} (h:CalAt w0 w a c A cap) (he:Ere N A c.stk.length) (hb:N≤b) (h1:b≠a.q) (h2:b≠a.lb) (i:Nat) (v:Value):CalAt w0 (w.setCell ⟨b,i,none⟩ v) a c A cap:=by
 refine ⟨h.own,h.ownl,?_,⟨?_,h.loc.len⟩,?_,h.me,h.cap⟩
 ·rw [block_far (Ne.symm h1)];exact h.blk
 ·rw [block_far (Ne.symm h2)];exact h.loc.blk
 ·rcases h.stk with h0|⟨b',off,cs,f,h3,h4,h5,h6⟩
  ·exact Or.inl h0
  ·rcases he with he|⟨b2,o2,e2,e3⟩
   ·exact Or.inl he
   ·rw [h3] at e2
    simp only [Option.some.injEq,Addr.mk.injEq] at e2
    obtain ⟨rfl,-,-⟩:=e2
    exact Or.inr ⟨b',off,cs,f,h3,by rw [block_far (by omega)];exact h4,h5,h6⟩
theorem CalAt.box2 {w0 w:World} {a:Ca} {c:Cal} {A:Option Addr} {cap N b:Nat} (h:CalAt w0 w a c A cap) (he:Ere N A c.stk.length) (hb:N≤b) (h1:b≠a.q) (h2:b≠a.lb) (u v:Value):CalAt w0 ((w.setCell ⟨b,0,none⟩ u).setCell ⟨b,1,none⟩ v) a c A cap :=
 (h.box he hb h1 h2 0 u).box he hb h1 h2 1 v
theorem Fq.box2 {B:Nat} {T:TypeId} {a:Ca} {x w:World} {b:Nat} (h:Fq B T a x w) (hb:x.heap.size≤b) (hB:B≤b) (u v:Value):Fq B T a x ((w.setCell ⟨b,0,none⟩ u).setCell ⟨b,1,none⟩ v):=by
 refine ⟨(h.bl.setCell hB u).setCell hB v,fun y cs t f e n n1 n2=>?_⟩
 have:=lt_some e
 rw [block_far (by omega),block_far (by omega)]
 exact h.keep y cs t f e n n1 n2
theorem StkAt.fq {B:Nat} {T:TypeId} {w0 w w':World} {a:Ca} {c:Cal} {A A':Option Addr} {cap:Nat} {l:List Va} (h:StkAt a.lb w A l) (H:CalAt w0 w a c A' cap) (k:Tk T) (f:Fq B T a w w'):StkAt a.lb w' A l :=
 h.keep fun b cs fz e n=>f.keep b cs _ fz e k.nv (fun hb=>by rw [hb,H.blk] at e;simp at e) n
theorem gpre {w0 w:World} {g:Ad} {p:Nat} {h:Hp} {a:Ca} {c:Cal} (K ia ib ic ii:Int) (Q:Option Addr) (nl q:Nat) (hH:Hs w0 g w p h) (hC:Cs w0 w a c) (C:Cw w0 g h) :
  ∃A cap,Hid (Ere w.heap.size A c.stk.length)∧a.q<w.heap.size∧a.lb<w.heap.size∧Hid (Fr w0.heap.size g.T w ((w.alloc (.cells (inC K ia ib ic ii Q nl q) 55)).alloc vzO))∧Hid (Hs w0 g ((w.alloc (.cells (inC K ia ib ic ii Q nl q) 55)).alloc vzO) p h)
   ∧ Hid (CalAt w0 ((w.alloc (.cells (inC K ia ib ic ii Q nl q) 55)).alloc vzO) a c A cap)∧Hid (InsBox ((w.alloc (.cells (inC K ia ib ic ii Q nl q) 55)).alloc vzO) w.heap.size K ia ib ic ii)
   ∧ Hid (VaBox ((w.alloc (.cells (inC K ia ib ic ii Q nl q) 55)).alloc vzO) (w.heap.size+1) va0)∧Hid (Cw w0 g h)∧w0.heap.size≤w.heap.size+1∧w.heap.size≤w.heap.size+1∧w.heap.size≠a.q∧w.heap.size≠a.lb∧w.heap.size+1≠a.q∧w.heap.size+1≠a.lb:=by
 have hbs:=hH.base
 obtain ⟨A,cap,H0⟩:=hC
 have hq0:a.q<w.heap.size:=lt_some H0.blk
 have hl0:a.lb<w.heap.size:=lt_some H0.loc.blk
 have hbl:Bl w ((w.alloc (.cells (inC K ia ib ic ii Q nl q) 55)).alloc vzO):=((Bl.refl w).alloc _).alloc _
 exact ⟨A,cap,H0.ere,hq0,hl0,Fr.old hbs hbl,hH.old hbl,H0.old hbl,(box_two w K ia ib ic ii _).1,(box_two w K ia ib ic ii (.slice Q nl q)).2,C,by omega,by omega,by omega,by omega,by omega,by omega⟩
theorem dpre {w0 w:World} {g:Ad} {p:Nat} {h:Hp} {a:Ca} {c:Cal} (K ia ib ic ii:Int) (Q:Option Addr) (nl q:Nat) (hH:Hs w0 g w p h) (hC:Cs w0 w a c) (C:Cw w0 g h) (hs5:c.stk.length≤500) :
  ∃A cap,a.q<w.heap.size∧a.lb<w.heap.size∧Hid (Fr w0.heap.size g.T w (w.alloc (.cells (inC K ia ib ic ii Q nl q) 55)))∧Hid (Hs w0 g (w.alloc (.cells (inC K ia ib ic ii Q nl q) 55)) p h)
   ∧ Hid (CalAt w0 (w.alloc (.cells (inC K ia ib ic ii Q nl q) 55)) a c A cap)∧(w.alloc (.cells (inC K ia ib ic ii Q nl q) 55)).cell? ⟨a.q,10,none⟩=some (.int .i64 c.pc)∧Hid (InsBox (w.alloc (.cells (inC K ia ib ic ii Q nl q) 55)) w.heap.size K ia ib ic ii)∧Hid (Cw w0 g h)
   ∧ w.heap.size≠a.q∧w.heap.size≠a.lb∧a.q≠w.heap.size∧a.lb≠w.heap.size∧a.q<w.heap.size+1∧a.lb<w.heap.size+1∧c.stk.length≤1000:=by
 have hbs:=hH.base
 obtain ⟨A,cap,H0⟩:=hC
 have hq0:a.q<w.heap.size:=lt_some H0.blk
 have hl0:a.lb<w.heap.size:=lt_some H0.loc.blk
 have hbl:Bl w (w.alloc (.cells (inC K ia ib ic ii Q nl q) 55)):=(Bl.refl w).alloc _
 have hc:=H0.old hbl
 exact ⟨A,cap,hq0,hl0,Fr.old hbs hbl,hH.old hbl,hc,hc.cells.c10,⟨_,blk_at rfl⟩,C,by omega,by omega,by omega,by omega,by omega,by omega,by omega⟩
theorem tkF {w0 W w1:World} {g:Ad} {p n:Nat} {h h0:Hp} {a:Ca} {c:Cal} {A:Option Addr} {many:Nat} {l:List Va} {same:Bool} {e:Ending} {K ia ib ic ii:Int} {ov:Bool} (hT:TakeEnd w0 g p a A W many h c l same e w1) (HI:Hid (InsBox W n K ia ib ic ii)) (HW:Hid (Cw w0 g h0)) (n1:n≠a.q) (n2:n≠a.lb) (hov:h.over=ov) :
  ∃A1 cap1 cap2,e=.returned (.slice A1 many cap1)∧StkAt a.lb w1 A1 l∧w1.cell? ⟨n,0,none⟩=some (.int .i64 K)∧w1.cell? ⟨n,1,none⟩=some (.int .i64 ia)∧w1.cell? ⟨n,2,none⟩=some (.int .i64 ib)∧w1.cell? ⟨n,4,none⟩=some (.int .i64 ii)∧Hid (InsBox w1 n K ia ib ic ii)
   ∧ Hid (Hs w0 g w1 p h)∧w1.cell? ⟨p,12,none⟩=some (.bool ov)∧Hid (CalAt w0 w1 a c A cap2)∧Fq w0.heap.size g.T a W w1∧(same=true→∀x y,A=some x→A1=some y→y.block=x.block):=by
 obtain ⟨A1,cap1,cap2,rfl,st1,h1,c1,f1,sb1⟩:=hT
 have i1:=HI.out.fq HW.out.k f1 n1 n2
 have h1':=h1
 obtain ⟨vo,vx,hv,X⟩:=h1
 exact ⟨A1,cap1,cap2,rfl,st1,i1.c0,i1.c1,i1.c2,i1.c4,i1,h1',by rw [X.cells.c12,hov],c1,f1,sb1⟩
theorem rbF {w0 W w1:World} {g:Ad} {n:Nat} {h0:Hp} {a:Ca} (HR:Hid (VaBox W n va0)) (HW:Hid (Cw w0 g h0)) (f1:Fq w0.heap.size g.T a W w1) (n3:n≠a.q) (n4:n≠a.lb) :
  w1.cell? ⟨n,0,none⟩=some (.int .i64 va0.kind)∧w1.cell? ⟨n,1,none⟩=some (.int .i64 va0.n)∧w1.frozen? ⟨n,0,none⟩=false∧w1.frozen? ⟨n,1,none⟩=false∧Hid (VaBox w1 n va0):=by
 have b1:=HR.out.fq HW.out.k f1 n3 n4
 exact ⟨b1.c0,b1.c1,b1.fr 0,b1.fr 1,b1⟩
theorem rbG {w0 w1 w2:World} {g:Ad} {n:Nat} {h0:Hp} (HR:Hid (VaBox w1 n va0)) (HW:Hid (Cw w0 g h0)) (F2:Hid (Fr w0.heap.size g.T w1 w2)) :
  w2.cell? ⟨n,0,none⟩=some (.int .i64 va0.kind)∧w2.cell? ⟨n,1,none⟩=some (.int .i64 va0.n)∧w2.frozen? ⟨n,0,none⟩=false∧w2.frozen? ⟨n,1,none⟩=false∧Hid (VaBox w2 n va0):=by
 have b1:=HR.out.keep HW.out.k F2.out
 exact ⟨b1.c0,b1.c1,b1.fr 0,b1.fr 1,b1⟩
theorem inG {w0 w1 w2:World} {g:Ad} {n:Nat} {h0:Hp} {K ia ib ic ii:Int} (HI:Hid (InsBox w1 n K ia ib ic ii)) (HW:Hid (Cw w0 g h0)) (F2:Hid (Fr w0.heap.size g.T w1 w2)) :
  w2.cell? ⟨n,1,none⟩=some (.int .i64 ia)∧w2.cell? ⟨n,2,none⟩=some (.int .i64 ib)∧Hid (InsBox w2 n K ia ib ic ii):=by
 have i2:=HI.out.fr HW.out.k F2.out
 exact ⟨i2.c1,i2.c2,i2⟩
theorem topF {lb:Nat} {w:World} {A:Option Addr} {l:List Va} (st:StkAt lb w A l) (hl:0<l.length):∃b off,A=some ⟨b,off,none⟩∧w.cell? ⟨b,off,none⟩=some (.int .i64 (nth va0 l 0).kind)∧w.cell? ⟨b,off+1,none⟩=some (.int .i64 (nth va0 l 0).n)∧Hid (StkAt lb w (some ⟨b,off,none⟩) l):=by
 obtain ⟨b,off,rfl,hc⟩:=st.fst hl
 have t0:=(hc 0 hl).1
 have t1:=(hc 0 hl).2
 rw [Nat.zero_mul,Nat.add_zero] at t0 t1
 exact ⟨b,off,rfl,t0,t1,st⟩
theorem topG {lb:Nat} {w:World} {A:Option Addr} {l:List Va} (st:StkAt lb w A l) (hl:1<l.length):∃b off,A=some ⟨b,off,none⟩∧w.cell? ⟨b,off,none⟩=some (.int .i64 (nth va0 l 0).kind)∧w.cell? ⟨b,off+1,none⟩=some (.int .i64 (nth va0 l 0).n)∧w.cell? ⟨b,off+2,none⟩=some (.int .i64 (nth va0 l 1).kind)∧w.cell? ⟨b,off+2+1,none⟩=some (.int .i64 (nth va0 l 1).n)∧Hid (StkAt lb w (some ⟨b,off,none⟩) l):=by
 obtain ⟨b,off,rfl,hc⟩:=st.fst (by omega)
 have t0:=(hc 0 (by omega)).1
 have t1:=(hc 0 (by omega)).2
 have t2:=(hc 1 hl).1
 have t3:=(hc 1 hl).2
 rw [Nat.zero_mul,Nat.add_zero] at t0 t1
 rw [Nat.one_mul] at t2 t3
 exact ⟨b,off,rfl,t0,t1,t2,t3,st⟩
theorem stF {w0 w1 w2:World} {g:Ad} {h0:Hp} {lb b off:Nat} {l:List Va} (ST:Hid (StkAt lb w1 (some ⟨b,off,none⟩) l)) (HW:Hid (Cw w0 g h0)) (F2:Hid (Fr w0.heap.size g.T w1 w2)) (hl:0<l.length):w2.cell? ⟨b,off,none⟩=some (.int .i64 (nth va0 l 0).kind)∧w2.cell? ⟨b,off+1,none⟩=some (.int .i64 (nth va0 l 0).n)∧Hid (StkAt lb w2 (some ⟨b,off,none⟩) l):=by
 obtain ⟨b',off',e,t0,t1,s⟩:=topF (ST.out.fr HW.out.k F2.out) hl
 simp only [Option.some.injEq,Addr.mk.injEq] at e
 obtain ⟨rfl,rfl,-⟩:=e
 exact ⟨t0,t1,s⟩
theorem stG {w0 w1 w2:World} {g:Ad} {h0:Hp} {lb b off:Nat} {l:List Va} (ST:Hid (StkAt lb w1 (some ⟨b,off,none⟩) l)) (HW:Hid (Cw w0 g h0)) (F2:Hid (Fr w0.heap.size g.T w1 w2)) (hl:1<l.length):w2.cell? ⟨b,off,none⟩=some (.int .i64 (nth va0 l 0).kind)∧w2.cell? ⟨b,off+1,none⟩=some (.int .i64 (nth va0 l 0).n)∧w2.cell? ⟨b,off+2,none⟩=some (.int .i64 (nth va0 l 1).kind)∧w2.cell? ⟨b,off+2+1,none⟩=some (.int .i64 (nth va0 l 1).n)∧Hid (StkAt lb w2 (some ⟨b,off,none⟩) l):=by
 obtain ⟨b',off',e,t0,t1,t2,t3,s⟩:=topG (ST.out.fr HW.out.k F2.out) hl
 simp only [Option.some.injEq,Addr.mk.injEq] at e
 obtain ⟨rfl,rfl,-⟩:=e
 exact ⟨t0,t1,t2,t3,s⟩
theorem does_11 (w0:World) (g:Ad) (p:Nat) (h:Hp) (a:Ca) (c:Cal) (ia ib ic ii:Int) (Q:Option Addr) (nl q:Nat) (w:World) (hH:Hs w0 g w p h) (hC:Cs w0 w a c) (C:Cw w0 g h) (ho:h.over=false) (hs5:c.stk.length≤500) (hp:0≤c.pc∧c.pc≤100000) :
  Calls Tryz.prog 58 #[.pointer (some ⟨p,0,none⟩),.pointer (some ⟨a.q,0,none⟩),.agg (inC 11 ia ib ic ii Q nl q)] w fun e w'=>e=.returned (.int .i64 ia)∧Hs w0 g w' p h∧Cs w0 w' a c∧Fq w0.heap.size g.T a w w':=by
 have hbs:=hH.base
 obtain ⟨A,cap,hq0,hl0,HF,HH,HC,d10,HI,HW,n1,n2,n1',n2',k1,k2,hs⟩:=dpre 11 ia ib ic ii Q nl q hH hC C hs5
 have hov:=ho
 clear hH hC C ho
 go_enter Tryz.func58,Tryz.ntmps58
 go_wp2
 go_ret
 exact ⟨rfl,HH.out,⟨A,cap,HC.out⟩,HF.out.fq⟩
theorem does_22 (w0:World) (g:Ad) (p:Nat) (h:Hp) (a:Ca) (c:Cal) (ia ib ic ii:Int) (Q:Option Addr) (nl q:Nat) (w:World) (hH:Hs w0 g w p h) (hC:Cs w0 w a c) (C:Cw w0 g h) (ho:h.over=false) (hs5:c.stk.length≤500) (hp:0≤c.pc∧c.pc≤100000) :
  Calls Tryz.prog 58 #[.pointer (some ⟨p,0,none⟩),.pointer (some ⟨a.q,0,none⟩),.agg (inC 22 ia ib ic ii Q nl q)] w fun e w'=>e=.returned (.int .i64 (c.pc+1))∧Hs w0 g w' p (h.must (c.has 1))∧Cs w0 w' a (c.cut 1)∧Fq w0.heap.size g.T a w w':=by
 have hbs:=hH.base
 obtain ⟨A,cap,hq0,hl0,HF,HH,HC,d10,HI,HW,n1,n2,n1',n2',k1,k2,hs⟩:=dpre 22 ia ib ic ii Q nl q hH hC C hs5
 have hov:=ho
 clear hH hC C ho
 go_enter Tryz.func58,Tryz.ntmps58
 go_wp2_with (go_at_call 56;refine (take_any w0 g HW.out.k p h a c 1 _ A cap HH.out HC.out hov (by omega) hs).mono ?_;rintro e w1 ⟨A1,cap1,cap2,rfl,st1,h1,c1,f1,-⟩)
 go_ret
 exact ⟨rfl,h1,⟨A,cap2,c1⟩,HF.out.fq.trans f1⟩
theorem does_no21 (w0:World) (g:Ad) (p:Nat) (h:Hp) (a:Ca) (c:Cal) (ia ib ic ii:Int) (Q:Option Addr) (nl q:Nat) (w:World) (hH:Hs w0 g w p h) (hC:Cs w0 w a c) (C:Cw w0 g h) (ho:h.over=false) (hs5:c.stk.length≤500) (hp:0≤c.pc∧c.pc≤100000) (hl:c.stk.length<1) :
  Calls Tryz.prog 58 #[.pointer (some ⟨p,0,none⟩),.pointer (some ⟨a.q,0,none⟩),.agg (inC 21 ia ib ic ii Q nl q)] w fun e w'=>e=.returned (.int .i64 (c.pc+1))∧Hs w0 g w' p (h.fin 6)∧Cs w0 w' a c∧Fq w0.heap.size g.T a w w':=by
 have hbs:=hH.base
 obtain ⟨A,cap,hq0,hl0,HF,HH,HC,d10,HI,HW,n1,n2,n1',n2',k1,k2,hs⟩:=dpre 21 ia ib ic ii Q nl q hH hC C hs5
 have hov:=ho
 clear hH hC C ho
 have HFO:Hid ((h.fin 6).over=true):=by simp [Hp.fin,hov,Hid]
 go_enter Tryz.func58,Tryz.ntmps58
 go_wp2_with ((go_at_call 56;refine (take_no w0 g HW.out.k p h a c 1 _ A cap HH.out HC.out hov hl (by omega)).mono ?_;intro e w1 hT;obtain ⟨A1,cap1,cap2,rfl,st1,j0,j1,j2,j4,HI1,H1,o12,C1,f1,-⟩:=tkF hT HI HW n1 n2 HFO.out;have F1:Hid (Fq w0.heap.size g.T a w w1):=Fq.trans HF.out.fq f1;clear hT f1))
 go_ret
 exact ⟨rfl,H1.out,⟨A,cap2,C1.out⟩,F1.out⟩
theorem does_no24 (w0:World) (g:Ad) (p:Nat) (h:Hp) (a:Ca) (c:Cal) (ia ib ic ii:Int) (Q:Option Addr) (nl q:Nat) (w:World) (hH:Hs w0 g w p h) (hC:Cs w0 w a c) (C:Cw w0 g h) (ho:h.over=false) (hs5:c.stk.length≤500) (hp:0≤c.pc∧c.pc≤100000) (hl:c.stk.length<1) :
  Calls Tryz.prog 58 #[.pointer (some ⟨p,0,none⟩),.pointer (some ⟨a.q,0,none⟩),.agg (inC 24 ia ib ic ii Q nl q)] w fun e w'=>e=.returned (.int .i64 (c.pc+1))∧Hs w0 g w' p (h.fin 6)∧Cs w0 w' a c∧Fq w0.heap.size g.T a w w':=by
 have hbs:=hH.base
 obtain ⟨A,cap,hq0,hl0,HF,HH,HC,d10,HI,HW,n1,n2,n1',n2',k1,k2,hs⟩:=dpre 24 ia ib ic ii Q nl q hH hC C hs5
 have hov:=ho
 clear hH hC C ho
 have HFO:Hid ((h.fin 6).over=true):=by simp [Hp.fin,hov,Hid]
 go_enter Tryz.func58,Tryz.ntmps58
 go_wp2_with ((go_at_call 56;refine (take_no w0 g HW.out.k p h a c 1 _ A cap HH.out HC.out hov hl (by omega)).mono ?_;intro e w1 hT;obtain ⟨A1,cap1,cap2,rfl,st1,j0,j1,j2,j4,HI1,H1,o12,C1,f1,-⟩:=tkF hT HI HW n1 n2 HFO.out;have F1:Hid (Fq w0.heap.size g.T a w w1):=Fq.trans HF.out.fq f1;clear hT f1))
 go_ret
 exact ⟨rfl,H1.out,⟨A,cap2,C1.out⟩,F1.out⟩
theorem does_21 (w0:World) (g:Ad) (p:Nat) (h:Hp) (a:Ca) (c:Cal) (ia ib ic ii:Int) (Q:Option Addr) (nl q:Nat) (w:World) (hH:Hs w0 g w p h) (hC:Cs w0 w a c) (C:Cw w0 g h) (ho:h.over=false) (hs5:c.stk.length≤500) (hp:0≤c.pc∧c.pc≤100000) (hl:1≤c.stk.length) :
  Calls Tryz.prog 58 #[.pointer (some ⟨p,0,none⟩),.pointer (some ⟨a.q,0,none⟩),.agg (inC 21 ia ib ic ii Q nl q)] w fun e w'=>e=.returned (.int .i64 (c.pc+1))∧Hs w0 g w' p (h.throw (nth va0 (c.top 1) 0))∧Cs w0 w' a (c.cut 1)∧Fq w0.heap.size g.T a w w':=by
 have hbs:=hH.base
 obtain ⟨A,cap,hq0,hl0,HF,HH,HC,d10,HI,HW,n1,n2,n1',n2',k1,k2,hs⟩:=dpre 21 ia ib ic ii Q nl q hH hC C hs5
 have hov:=ho
 clear hH hC C ho
 go_enter Tryz.func58,Tryz.ntmps58
 go_wp2_with (first
  | (go_at_call 56;refine (take_yes w0 g HW.out.k p h a c 1 _ A cap HH.out HC.out hov hl hs).mono ?_;intro e w1 hT;obtain ⟨A1,cap1,cap2,rfl,st1,j0,j1,j2,j4,HI1,H1,o12,C1,f1,-⟩:=tkF hT HI HW n1 n2 hov;have F1:Hid (Fq w0.heap.size g.T a w w1):=Fq.trans HF.out.fq f1;clear hT f1;obtain ⟨b,off,rfl,t0,t1,ST1⟩:=topF st1 (by simp [top_length]);clear st1)
  | (go_at_call 113;refine (throw_any w0 g p h (nth va0 (c.top 1) 0) _ H1.out HW.out).mono ?_;rintro e w2 ⟨rfl,h2,f2⟩))
 go_ret
 exact ⟨rfl,h2,⟨A,cap2,C1.out.fr HW.out.k f2⟩,F1.out.trans f2.fq⟩
theorem does_24 (w0:World) (g:Ad) (p:Nat) (h:Hp) (a:Ca) (c:Cal) (ia ib ic ii:Int) (Q:Option Addr) (nl q:Nat) (w:World) (hH:Hs w0 g w p h) (hC:Cs w0 w a c) (C:Cw w0 g h) (ho:h.over=false) (hs5:c.stk.length≤500) (hp:0≤c.pc∧c.pc≤100000) (hl:1≤c.stk.length) (hout:h.sh.out.length≤60000) :
  Calls Tryz.prog 58 #[.pointer (some ⟨p,0,none⟩),.pointer (some ⟨a.q,0,none⟩),.agg (inC 24 ia ib ic ii Q nl q)] w fun e w'=>e=.returned (.int .i64 (c.pc+1))∧Hs w0 g w' p (h.emit (nth va0 (c.top 1) 0) ia)∧Cs w0 w' a (c.cut 1)∧Fq w0.heap.size g.T a w w':=by
 have hbs:=hH.base
 obtain ⟨A,cap,hq0,hl0,HF,HH,HC,d10,HI,HW,n1,n2,n1',n2',k1,k2,hs⟩:=dpre 24 ia ib ic ii Q nl q hH hC C hs5
 have hov:=ho
 clear hH hC C ho
 go_enter Tryz.func58,Tryz.ntmps58
 go_wp2_with ((go_at_call 56;refine (take_yes w0 g HW.out.k p h a c 1 _ A cap HH.out HC.out hov hl hs).mono ?_;intro e w1 hT;obtain ⟨A1,cap1,cap2,rfl,st1,j0,j1,j2,j4,HI1,H1,o12,C1,f1,-⟩:=tkF hT HI HW n1 n2 hov;have F1:Hid (Fq w0.heap.size g.T a w w1):=Fq.trans HF.out.fq f1;clear hT f1;obtain ⟨b,off,rfl,t0,t1,ST1⟩:=topF st1 (by simp [top_length]);clear st1))
 go_region_held3 (fun w'=>w'.cell? ⟨b,off,none⟩=some (.int .i64 (nth va0 (c.top 1) 0).kind)∧w'.cell? ⟨b,off+1,none⟩=some (.int .i64 (nth va0 (c.top 1) 0).n)∧w'.cell? ⟨w.heap.size,1,none⟩=some (.int .i64 ia))
  (go_keep)
  (first
   | (go_at_call 114;refine (emit_any w0 g HW.out.k p h (nth va0 (c.top 1) 0) ia _ (by first|exact H1.out.cf (Cf.drew (Cf.refl _ _ _))|exact H1.out) hout).mono ?_;rintro e w2 ⟨rfl,h2,f2⟩;have F2:Hid (Fr w0.heap.size g.T w1 w2):=Fr.trans (Fr.drew (Fr.refl _ _ _)) f2;clear f2;obtain ⟨u0,u1,ST2⟩:=stF ST1 HW F2 (by simp [top_length]);obtain ⟨l1,l2,HI2⟩:=inG HI1 HW F2))
 go_wp2
 go_ret
 exact ⟨rfl,h2,⟨A,cap2,C1.out.fr HW.out.k F2.out⟩,F1.out.trans F2.out.fq⟩
end Go.Proofs.YtgiiapenmjollaaGreat
