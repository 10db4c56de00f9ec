import Derived.Test.YtgiiapenmjollabGreatRsag
import Derived.Deep.RegionHeld3
namespace Go.Proofs.YtgiiapenmjollabGreat
set_option linter.all false
set_option maxHeartbeats 40000000
set_option maxRecDepth 100000
open Go.RowKit
abbrev meBO (m:Me) (P C K:Option Addr) (p c k:Nat):Obj:=.cells #[.slice P m.params.length p,.int .i64 m.ret.kind,.int .i64 m.ret.cls,.int .i64 m.stack,.int .i64 m.locs,.int .i64 m.regs,.slice C m.code.length c,.slice K m.hands.length k] 50
theorem caught_any (w0:World) (g:Ad) (p:Nat) (h:Hp) (m:Me) (P CC K:Option Addr) (pp c k:Nat) (pc:Int) (w:World) (hH:Hs w0 g w p h) (C:Cw w0 g h) (hK:HdsAt w0 K m.hands) (ht:0≤h.thrown∧h.thrown<h.objs.length) :
  Calls Tryz.prog 90 #[.pointer (some ⟨p,0,none⟩),meV m P CC K pp c k,.int .i64 pc] w fun e w'=>e=.returned (.int .i64 (h.caughtL pc m.hands))∧Hs w0 g w' p h∧Fr w0.heap.size g.T w w':=by
 have hbs:=hH.base
 obtain ⟨vo,vx,hv,H⟩:=hH
 have HA:Hid (HpAt w0 g w p h vo vx hv):=H
 have HC:Hid (Cw w0 g h):=C
 have HK:Hid (HdsAt w K m.hands):=hK.bl H.bl
 have HCL:Hid (ClsAt w g.A h.file.classes):=C.cls.bl H.bl
 have hkm:=hK.1
 unfold maxLen at hkm
 obtain ⟨n,hn⟩:∃n:Nat,h.thrown=n:=⟨h.thrown.toNat,by omega⟩
 have hnl:n<h.objs.length:=by omega
 have HN:Hid (h.thrown=n):=hn
 obtain ⟨gb,cap,hvo,-,hom,hcc⟩:=obs_cell H.obs (by omega)
 have ho1:=(hcc n hnl).1
 unfold maxLen at hom
 have HO1:Hid (w.cell? ⟨gb,n*2,none⟩=some (.int .i64 (nth ob0 h.objs n).cls)):=ho1
 have HVO:Hid (vo=.slice (some ⟨gb,0,none⟩) h.objs.length cap):=hvo
 have hn0:(0:Int)≤(n:Int):=by omega
 have hn1:(n:Int)<(h.objs.length:Int):=by omega
 have HFT:Hid (∀x:Hd,h.fits x pc=(decide (x.fr≤pc)&&(decide (pc<x.til)&&(clsI h.file.classes (nth ob0 h.objs n).cls x.cls&&belN h.file.classes (nth ob0 h.objs n).cls.toNat x.cls.toNat)))):=fun x=>by
  unfold Hp.fits Hp.obj belI;rw [hn,Int.toNat_natCast]
 have HM:Hid ((w.alloc (meBO m P CC K pp c k)).cell? ⟨w.heap.size,7,none⟩=some (.slice K m.hands.length k)):=cell_of_new rfl
 clear H C hK ht hn hcc ho1 hvo
 obtain ⟨R,hR⟩:∃R,h.caughtL pc m.hands=R:=⟨_,rfl⟩
 rw [hR]
 have HR:Hid (h.caughtL pc (m.hands.drop 0)=R):=by rw [List.drop_zero];exact hR
 clear hR
 generalize hX:(nth ob0 h.objs n).cls=X at *
 clear hX
 go_enter Tryz.func90,Tryz.ntmps90
 go_wp2
 go_loopw [7] (fun i wr=>∃q:Nat,q≤m.hands.length∧i=.int .i64 q∧Hid (Bl w wr)∧wr.cell? ⟨w.heap.size,7,none⟩=some (.slice K m.hands.length k)∧Hid (h.caughtL pc (m.hands.drop q)=R)) (fun i _=>m.hands.length-(intOf i).toNat)
 case atStart=>exact ⟨0,Nat.zero_le _,rfl,(Bl.refl w).alloc _,HM.out,HR⟩
 case round =>
  obtain ⟨q,hq,rfl,hg,c7,hr⟩:=hrel
  by_cases hql:q<m.hands.length
  ·have hds:=HK.out.bl hg.out
   rcases hds.2 with h0|⟨b',off',hKA,hcell⟩
   ·omega
   obtain ⟨g0,g1,g2,g3,-⟩:=hcell q hql
   rw [hKA] at c7
   have HS:Hid (h.fits (nth hd0 m.hands q) pc=false→h.caughtL pc (m.hands.drop (q+1))=R):=fun hx=>(caught_skip hql hx).symm.trans hr.out
   have HT:Hid (h.fits (nth hd0 m.hands q) pc=true→(nth hd0 m.hands q).pc=R):=fun hx=>(caught_hit hql hx).symm.trans hr.out
   have hlt:=lt_some (HA.out.old hg.out).blk
   have HAW:Hid (∀o,HpAt w0 g (wr.alloc o) p h vo vx hv):=fun o=>HA.out.old (hg.out.alloc o)
   have q0:∀o,(wr.alloc o).cell? ⟨p,0,none⟩=some (.slice g.A h.file.classes.length g.a):=fun o=>(HAW.out o).cells.c0
   have q2:∀o,(wr.alloc o).cell? ⟨p,2,none⟩=some (.slice (some ⟨gb,0,none⟩) h.objs.length cap):=fun o=>by rw [(HAW.out o).cells.c2,HVO.out]
   have q13:∀o,(wr.alloc o).cell? ⟨p,13,none⟩=some (.int .i64 (n:Int)):=fun o=>by rw [(HAW.out o).cells.c13,HN.out]
   have qo:∀o,(wr.alloc o).cell? ⟨gb,n*2,none⟩=some (.int .i64 X):=fun o=>(hg.out.alloc o).cell HO1.out
   have q7:∀o,(wr.alloc o).cell? ⟨w.heap.size,7,none⟩=some (.slice K m.hands.length k):=fun o=>by rw [hKA];exact ((Bl.refl wr).alloc o).cell c7
   have HCW:Hid (∀o,ClsAt (wr.alloc o) g.A h.file.classes):=fun o=>HCL.out.bl (hg.out.alloc o)
   have HD:Hid (h.fits (nth hd0 m.hands q) pc=(decide ((nth hd0 m.hands q).fr≤pc)&&(decide (pc<(nth hd0 m.hands q).til)&&(clsI h.file.classes X (nth hd0 m.hands q).cls&&belN h.file.classes X.toNat (nth hd0 m.hands q).cls.toNat)))):=HFT.out _
   have HQ7:Hid (∀o,(wr.alloc o).cell? ⟨w.heap.size,7,none⟩=some (.slice K m.hands.length k)):=q7
   clear hcell hds hr q7 hKA
   generalize hY:nth hd0 m.hands q=Y at *
   clear hY
   by_cases t1:Y.fr≤pc
   ·have d1:decide (Y.fr≤pc)=true:=decide_eq_true t1
    by_cases t2:pc<Y.til
    ·have d2:decide (pc<Y.til)=true:=decide_eq_true t2
     obtain ⟨B,hB⟩:∃B,(clsI h.file.classes X Y.cls&&belN h.file.classes X.toNat Y.cls.toNat)=B:=⟨_,rfl⟩
     have HFB:Hid (h.fits Y pc=B):=by rw [HD.out,d1,d2,hB];rfl
     cases B
     ·have HNX:=HS.out HFB.out
      have HNXT:Hid (h.caughtL pc (m.hands.drop (q+1))=R):=HNX
      clear HNX
      go_wp2
      go_quiet ((go_at_call 160;exact Calls.quiet_of_same ((rbelow_any _ _ _ _ _ _ ((HCW.out _).bl (bl_drewN (Bl.refl _) _)) HC.out.tree).mono fun e w' hh=>⟨hh.1.trans (ret_bool hB),hh.2⟩)))
      go_wp2
      go_roundw
      case rel=>exact ⟨q+1,by omega,by go_num,bl_drewN (hg.out.alloc _) _,HQ7.out _,HNXT⟩
      case measure=>simp [intOf];omega
     ·have HPC:Hid (Y.pc=R):=HT.out HFB.out
      go_wp2
      go_quiet ((go_at_call 160;exact Calls.quiet_of_same ((rbelow_any _ _ _ _ _ _ ((HCW.out _).bl (bl_drewN (Bl.refl _) _)) HC.out.tree).mono fun e w' hh=>⟨hh.1.trans (ret_bool hB),hh.2⟩)))
      go_wp2
      go_ret
      exact ⟨ret_int HPC.out,⟨vo,vx,hv,(HAW.out _).drewN _⟩,(Fr.old hbs (hg.out.alloc _)).drewN _⟩
    ·have d2:decide (pc<Y.til)=false:=decide_eq_false t2
     have HNXT:Hid (h.caughtL pc (m.hands.drop (q+1))=R):=HS.out (by rw [HD.out,d2,Bool.false_and,Bool.and_false])
     go_wp2
     go_quiet (fail)
     go_wp2
     go_roundw
     case rel=>exact ⟨q+1,by omega,by go_num,bl_drewN (hg.out.alloc _) _,HQ7.out _,HNXT⟩
     case measure=>simp [intOf];omega
   ·have d1:decide (Y.fr≤pc)=false:=decide_eq_false t1
    have HNXT:Hid (h.caughtL pc (m.hands.drop (q+1))=R):=HS.out (by rw [HD.out,d1,Bool.false_and])
    go_wp2
    go_quiet (fail)
    go_wp2
    go_roundw
    case rel=>exact ⟨q+1,by omega,by go_num,bl_drewN (hg.out.alloc _) _,HQ7.out _,HNXT⟩
    case measure=>simp [intOf];omega
  ·obtain rfl:q=m.hands.length:=by omega
   have HE:Hid (-1=R):=by have:=hr.out;rw [List.drop_length] at this;exact this
   go_wp2
   go_ret
   exact ⟨ret_int HE.out,⟨vo,vx,hv,HA.out.old hg.out⟩,Fr.old hbs hg.out⟩
theorem anyH_skip {P:Program} {md:Region.Mode} {ops:Array Oper} {Q:Exit→Act→World→Prop} {S:World→Prop} {i:Nat} {oi:Oper} {d:Option Tmp} {fuel:Nat} {listed:Array Bool} {a:Act} {w:World} (hi:ops[i]?=some oi) (hd:oi.dst=d)
  (hs:Region.noSelect ops=true) (hf:Region.free md ops listed i=true) (hr:(Region.ready md ops listed).contains i=true)
  (hQ:∀c a w,Q (.panic c) (a.put oi.dst undef) w→Q (.panic c) a w) (hw:Region.wanted oi (yielded ops a.tmps)=false) (hS:S w)
  (h:wpAnyH P md ops Q S fuel (listed.setIfInBounds i true) (a.put d undef) w):wpAnyH P md ops Q S (fuel+1) listed a w :=
 wpAnyH_take hi hs hf hr hQ (Or.inr ⟨hw,rfl⟩) hS (hd▸h)
theorem anyH_take {P:Program} {md:Region.Mode} {ops:Array Oper} {Q:Exit→Act→World→Prop} {S:World→Prop} {i:Nat} {oi:Oper} {d:Option Tmp} {v:Value} {fuel:Nat} {listed:Array Bool} {a:Act} {w:World} (hi:ops[i]?=some oi) (hd:oi.dst=d)
  (hs:Region.noSelect ops=true) (hf:Region.free md ops listed i=true) (hr:(Region.ready md ops listed).contains i=true)
  (hQ:∀c a w,Q (.panic c) (a.put oi.dst v) w→Q (.panic c) a w) (hw:Region.wanted oi (yielded ops a.tmps)=true) (hy:∀w,S w→(execOp a.eval oi).run P w=.ok (.value v) w) (hS:S w)
  (h:wpAnyH P md ops Q S fuel (listed.setIfInBounds i true) (a.put d v) w):wpAnyH P md ops Q S (fuel+1) listed a w :=
 wpAnyH_take hi hs hf hr hQ (Or.inl ⟨hw,hy⟩) hS (hd▸h)
theorem is_not (w0:World) (g:Ad) (p:Nat) (h:Hp) (v:Va) (c:Int) (w:World) (hH:Hs w0 g w p h) (C:Cw w0 g h) (hk:¬v.kind=3) :
  Calls Tryz.prog 232 #[.pointer (some ⟨p,0,none⟩),vaV v,.int .i64 c] w fun e w'=>e=.returned (vaV (h.isV v c))∧Hs w0 g w' p (h.must (isRef v))∧Fr w0.heap.size g.T w w':=by
 have hbs:=hH.base
 have HF:Hid (Fr w0.heap.size g.T w ((w.alloc (vaO v)).alloc vzO)):=((Fr.refl _ _ w).alloc hbs _).alloc (by simp;omega) _
 have HH:Hid (Hs w0 g ((w.alloc (vaO v)).alloc vzO) p h):=hH.cf (((Cf.refl _ _ w).alloc hbs _).alloc (by simp;omega) _)
 have HV:Hid (VaBox ((w.alloc (vaO v)).alloc vzO) w.heap.size v):=(two_new w v va0).1
 have HR:Hid (VaBox ((w.alloc (vaO v)).alloc vzO) (w.heap.size+1) va0):=(two_new w v va0).2
 have HC:Hid (Cw w0 g h):=C
 have hbs':w0.heap.size≤w.heap.size+1:=by omega
 have hle':w.heap.size≤w.heap.size+1:=by omega
 clear hH C
 have hi:isRef v=false:=by unfold isRef;exact decide_eq_false hk
 have e1:h.isV v c=⟨1,0⟩:=by unfold Hp.isV Hp.mustB;rw [hi];simp
 rw [e1,hi]
 have hk3:(v.kind==3)=false:=by simpa using hk
 have v0:=HV.out.c0
 have hmf:h.mustB false=false:=rfl
 clear e1 hk
 go_enter Tryz.func232,Tryz.ntmps232
 go_wp2
 refine wp_region_held_drew (S:=fun w'=>w'.cell? ⟨w.heap.size,0,none⟩=some (.int .i64 v.kind)) (by kernel_rfl) ?_ (fun hHeld=>?_)
 ·exact v0
 refine anyH_take (i:=0) (d:=some 8) (v:=?_) rfl rfl (by kernel_rfl) (by kernel_rfl) (by kernel_rfl) (fun _ _ _ h=>h) (by rfl) ?_ hHeld ?_
 rotate_left 1
 ·intro w' hSw;go_simp<;>with_reducible rfl
 try simp only [aS,aN,aT,a0,a1]
 refine anyH_take (i:=1) (d:=some 9) (v:=?_) rfl rfl (by kernel_rfl) (by kernel_rfl) (by kernel_rfl) (fun _ _ _ h=>h) (by rfl) ?_ hHeld ?_
 rotate_left 1
 ·intro w' hSw;go_simp<;>with_reducible rfl
 try simp only [aS,aN,aT,a0,a1]
 refine anyH_take (i:=2) (d:=some 10) (v:=?_) rfl rfl (by kernel_rfl) (by kernel_rfl) (by kernel_rfl) (fun _ _ _ h=>h) (by rfl) ?_ hHeld ?_
 rotate_left 1
 ·intro w' hSw;go_simp<;>with_reducible rfl
 try simp only [aS,aN,aT,a0,a1]
 refine anyH_take (i:=3) (d:=some 11) (v:=?_) rfl rfl (by kernel_rfl) (by kernel_rfl) (by kernel_rfl) (fun _ _ _ h=>h) (by rfl) ?_ hHeld ?_
 rotate_left 1
 ·intro w' hSw;go_simp<;>with_reducible rfl
 try simp only [aS,aN,aT,a0,a1]
 refine wpAnyH_ready (rs:=[4]) (by kernel_rfl) (by simp) ?_
 refine AllReadyH.cons rfl (fun K hK=>?_) AllReadyH.nil
 go_simp
 go_at_call 85
 refine (must_any w0 g HC.out.k p h false _ (HH.out.cf (Cf.drew (Cf.refl _ _ _)))).mono ?_
 rintro e w1 ⟨he,h1,f1⟩
 rw [hmf] at he
 subst he
 have FD:Hid (Fr w0.heap.size g.T ((w.alloc (vaO v)).alloc vzO) w1):=Fr.trans (Fr.drew (Fr.refl _ _ _)) f1
 have b1:=HR.out.keep HC.out.k FD.out
 have r0:=b1.c0
 have r1:=b1.c1
 have r2:=b1.fr 0
 have r3:=b1.fr 1
 have HB1:Hid (VaBox w1 (w.heap.size+1) va0):=b1
 clear b1
 go_wp2_with fail
 refine hK.out _ _ ((HV.out.keep HC.out.k FD.out).c0) (fun hHeld1=>?_)
 clear hK K
 try simp only [aS,aN,aT,a0,a1]
 refine anyH_take (i:=5) (d:=some 13) (v:=?_) rfl rfl (by kernel_rfl) (by kernel_rfl) (by kernel_rfl) (fun _ _ _ h=>h) (by rfl) ?_ hHeld1 ?_
 rotate_left 1
 ·intro w' hSw;go_simp<;>with_reducible rfl
 try simp only [aS,aN,aT,a0,a1]
 refine anyH_skip (i:=6) (d:=some 14) rfl rfl (by kernel_rfl) (by kernel_rfl) (by kernel_rfl) (fun _ _ _ h=>h) (by rfl) hHeld1 ?_
 try simp only [aS,aN,aT,a0,a1]
 refine anyH_skip (i:=7) (d:=some 15) rfl rfl (by kernel_rfl) (by kernel_rfl) (by kernel_rfl) (fun _ _ _ h=>h) (by rfl) hHeld1 ?_
 try simp only [aS,aN,aT,a0,a1]
 refine anyH_skip (i:=8) (d:=some 16) rfl rfl (by kernel_rfl) (by kernel_rfl) (by kernel_rfl) (fun _ _ _ h=>h) (by rfl) hHeld1 ?_
 try simp only [aS,aN,aT,a0,a1]
 refine anyH_take (i:=9) (d:=some 17) (v:=?_) rfl rfl (by kernel_rfl) (by kernel_rfl) (by kernel_rfl) (fun _ _ _ h=>h) (by rfl) ?_ hHeld1 ?_
 rotate_left 1
 ·intro w' hSw;go_simp<;>with_reducible rfl
 try simp only [aS,aN,aT,a0,a1]
 refine anyH_take (i:=10) (d:=some 18) (v:=?_) rfl rfl (by kernel_rfl) (by kernel_rfl) (by kernel_rfl) (fun _ _ _ h=>h) (by rfl) ?_ hHeld1 ?_
 rotate_left 1
 ·intro w' hSw;go_simp<;>with_reducible rfl
 try simp only [aS,aN,aT,a0,a1]
 refine anyH_skip (i:=11) (d:=some 19) rfl rfl (by kernel_rfl) (by kernel_rfl) (by kernel_rfl) (fun _ _ _ h=>h) (by rfl) hHeld1 ?_
 try simp only [aS,aN,aT,a0,a1]
 refine anyH_skip (i:=12) (d:=some 20) rfl rfl (by kernel_rfl) (by kernel_rfl) (by kernel_rfl) (fun _ _ _ h=>h) (by rfl) hHeld1 ?_
 try simp only [aS,aN,aT,a0,a1]
 refine anyH_skip (i:=13) (d:=some 21) rfl rfl (by kernel_rfl) (by kernel_rfl) (by kernel_rfl) (fun _ _ _ h=>h) (by rfl) hHeld1 ?_
 try simp only [aS,aN,aT,a0,a1]
 refine anyH_skip (i:=14) (d:=some 22) rfl rfl (by kernel_rfl) (by kernel_rfl) (by kernel_rfl) (fun _ _ _ h=>h) (by rfl) hHeld1 ?_
 try simp only [aS,aN,aT,a0,a1]
 refine anyH_skip (i:=15) (d:=some 23) rfl rfl (by kernel_rfl) (by kernel_rfl) (by kernel_rfl) (fun _ _ _ h=>h) (by rfl) hHeld1 ?_
 try simp only [aS,aN,aT,a0,a1]
 refine anyH_skip (i:=16) (d:=some 24) rfl rfl (by kernel_rfl) (by kernel_rfl) (by kernel_rfl) (fun _ _ _ h=>h) (by rfl) hHeld1 ?_
 try simp only [aS,aN,aT,a0,a1]
 refine anyH_skip (i:=17) (d:=some 25) rfl rfl (by kernel_rfl) (by kernel_rfl) (by kernel_rfl) (fun _ _ _ h=>h) (by rfl) hHeld1 ?_
 try simp only [aS,aN,aT,a0,a1]
 refine anyH_skip (i:=18) (d:=some 26) rfl rfl (by kernel_rfl) (by kernel_rfl) (by kernel_rfl) (fun _ _ _ h=>h) (by rfl) hHeld1 ?_
 try simp only [aS,aN,aT,a0,a1]
 refine anyH_skip (i:=19) (d:=some 27) rfl rfl (by kernel_rfl) (by kernel_rfl) (by kernel_rfl) (fun _ _ _ h=>h) (by rfl) hHeld1 ?_
 try simp only [aS,aN,aT,a0,a1]
 refine anyH_skip (i:=20) (d:=some 28) rfl rfl (by kernel_rfl) (by kernel_rfl) (by kernel_rfl) (fun _ _ _ h=>h) (by rfl) hHeld1 ?_
 try simp only [aS,aN,aT,a0,a1]
 refine anyH_skip (i:=21) (d:=some 29) rfl rfl (by kernel_rfl) (by kernel_rfl) (by kernel_rfl) (fun _ _ _ h=>h) (by rfl) hHeld1 ?_
 try simp only [aS,aN,aT,a0,a1]
 refine anyH_skip (i:=22) (d:=some 30) rfl rfl (by kernel_rfl) (by kernel_rfl) (by kernel_rfl) (fun _ _ _ h=>h) (by rfl) hHeld1 ?_
 try simp only [aS,aN,aT,a0,a1]
 refine anyH_skip (i:=23) (d:=some 31) rfl rfl (by kernel_rfl) (by kernel_rfl) (by kernel_rfl) (fun _ _ _ h=>h) (by rfl) hHeld1 ?_
 try simp only [aS,aN,aT,a0,a1]
 refine anyH_skip (i:=24) (d:=some 32) rfl rfl (by kernel_rfl) (by kernel_rfl) (by kernel_rfl) (fun _ _ _ h=>h) (by rfl) hHeld1 ?_
 try simp only [aS,aN,aT,a0,a1]
 refine anyH_skip (i:=25) (d:=some 33) rfl rfl (by kernel_rfl) (by kernel_rfl) (by kernel_rfl) (fun _ _ _ h=>h) (by rfl) hHeld1 ?_
 try simp only [aS,aN,aT,a0,a1]
 refine anyH_skip (i:=26) (d:=some 34) rfl rfl (by kernel_rfl) (by kernel_rfl) (by kernel_rfl) (fun _ _ _ h=>h) (by rfl) hHeld1 ?_
 try simp only [aS,aN,aT,a0,a1]
 refine anyH_take (i:=27) (d:=some 35) (v:=?_) rfl rfl (by kernel_rfl) (by kernel_rfl) (by kernel_rfl) (fun _ _ _ h=>h) (by rfl) ?_ hHeld1 ?_
 rotate_left 1
 ·intro w' hSw;go_simp<;>with_reducible rfl
 try simp only [aS,aN,aT,a0,a1]
 refine wpAnyH_done (by kernel_rfl) ?_ _
 go_wp2
 (try simp only [Exit.inBlock,Exit.then])
 refine bodyPost_ret (results_cell_row rfl _ _ (w.heap.size+1) _ _ _ _ rfl (HB1.out.set ⟨1,0⟩).blk Tryz.underlying82 rfl info_va) rfl ?_
 exact ⟨rfl,h1.cf (HB1.out.cf HC.out.k hbs' _ _),(((HF.out.trans FD.out).new hle' hbs' _).new hle' hbs' _)⟩
theorem is_any (w0:World) (g:Ad) (p:Nat) (h:Hp) (v:Va) (c:Int) (w:World) (hH:Hs w0 g w p h) (C:Cw w0 g h) (hv3:v.kind=3→v.n<h.objs.length) :
  Calls Tryz.prog 232 #[.pointer (some ⟨p,0,none⟩),vaV v,.int .i64 c] w fun e w'=>e=.returned (vaV (h.isV v c))∧Hs w0 g w' p (h.must (isRef v))∧Fr w0.heap.size g.T w w':=by
 have hH0:=hH
 have C0:=C
 have hbs:=hH.base
 have HF:Hid (Fr w0.heap.size g.T w ((w.alloc (vaO v)).alloc vzO)):=((Fr.refl _ _ w).alloc hbs _).alloc (by simp;omega) _
 have HH:Hid (Hs w0 g ((w.alloc (vaO v)).alloc vzO) p h):=hH.cf (((Cf.refl _ _ w).alloc hbs _).alloc (by simp;omega) _)
 have HV:Hid (VaBox ((w.alloc (vaO v)).alloc vzO) w.heap.size v):=(two_new w v va0).1
 have HR:Hid (VaBox ((w.alloc (vaO v)).alloc vzO) (w.heap.size+1) va0):=(two_new w v va0).2
 have HC:Hid (Cw w0 g h):=C
 have hbs':w0.heap.size≤w.heap.size+1:=by omega
 have hle':w.heap.size≤w.heap.size+1:=by omega
 clear hH C
 by_cases hk:v.kind=3
 ·clear hH0 C0
  obtain ⟨vk,vn⟩:=v
  dsimp only at *
  subst hk
  have hmt:h.must (isRef ⟨3,vn⟩)=h:=rfl
  rw [hmt]
  clear hmt
  cases hov:h.over
  ·have hnv:(!h.over)=true:=by rw [hov];rfl
   by_cases hn:vn<0
   ·have e1:h.isV ⟨3,vn⟩ c=⟨1,0⟩:=by unfold Hp.isV;dsimp only;rw [decide_eq_false (by omega)];simp
    rw [e1]
    clear e1 hv3
    have d1:decide (0≤vn)=false:=decide_eq_false (by omega)
    go_enter Tryz.func232,Tryz.ntmps232
    go_wp2
    go_quiet ((go_at_call 85;exact Calls.quiet_of_same ((must_true w0 g p h _ (HH.out.drewN _)).mono fun e w' hh=>⟨hh.1.trans (ret_bool hnv),hh.2⟩)))
    go_wp2
    (try simp only [Exit.inBlock,Exit.then])
    refine bodyPost_ret (results_cell_row rfl _ _ (w.heap.size+1) _ _ _ _ rfl ((HR.out.drewN _).set ⟨1,0⟩).blk Tryz.underlying82 rfl info_va) rfl ?_
    exact ⟨rfl,(HH.out.drewN _).cf ((HR.out.drewN _).cf HC.out.k hbs' _ _),(((HF.out.drewN _).new hle' hbs' _).new hle' hbs' _)⟩
   ·obtain ⟨n,rfl⟩:∃n:Nat,vn=n:=⟨vn.toNat,by omega⟩
    have hnl:n<h.objs.length:=by have:=hv3 rfl;omega
    obtain ⟨vo,vx,hv,H⟩:=HH.out
    have HCL:Hid (ClsAt ((w.alloc (vaO ⟨3,n⟩)).alloc vzO) g.A h.file.classes):=HC.out.cls.bl H.bl
    have c0:=H.cells.c0
    have c2:=H.cells.c2
    obtain ⟨gb,cap,hvo,-,hom,hcc⟩:=obs_cell H.obs (by omega)
    rw [hvo] at c2
    have o1:=(hcc n hnl).1
    unfold maxLen at hom
    have hn0:(0:Int)≤(n:Int):=by omega
    have hn1:(n:Int)<(h.objs.length:Int):=by omega
    clear hcc hvo H hv3 hn
    obtain ⟨R,hR⟩:∃R,(clsI h.file.classes (nth ob0 h.objs n).cls c&&belN h.file.classes (nth ob0 h.objs n).cls.toNat c.toNat)=R:=⟨_,rfl⟩
    have e1:h.isV ⟨3,n⟩ c=⟨1,if R=true then 1 else 0⟩:=by
     unfold Hp.isV Hp.mustB Hp.obj belI;dsimp only;rw [hov,Int.toNat_natCast,hR,decide_eq_true hn0];simp [isRef]
    rw [e1]
    clear e1
    generalize hX:(nth ob0 h.objs n).cls=X at *
    clear hX
    cases R
    ·go_enter Tryz.func232,Tryz.ntmps232
     go_wp2
     go_quiet (first|(go_at_call 85;exact Calls.quiet_of_same ((must_true w0 g p h _ (HH.out.drewN _)).mono fun e w' hh=>⟨hh.1.trans (ret_bool hnv),hh.2⟩))|(go_at_call 160;exact Calls.quiet_of_same ((rbelow_any _ _ _ _ _ _ (HCL.out.bl (bl_drewN (Bl.refl _) _)) HC.out.tree).mono fun e w' hh=>⟨hh.1.trans (ret_bool hR),hh.2⟩)))
     go_wp2
     (try simp only [Exit.inBlock,Exit.then])
     refine bodyPost_ret (results_cell_row rfl _ _ (w.heap.size+1) _ _ _ _ rfl ((HR.out.drewN _).set ⟨1,0⟩).blk Tryz.underlying82 rfl info_va) rfl ?_
     exact ⟨rfl,(HH.out.drewN _).cf ((HR.out.drewN _).cf HC.out.k hbs' _ _),(((HF.out.drewN _).new hle' hbs' _).new hle' hbs' _)⟩
    ·go_enter Tryz.func232,Tryz.ntmps232
     go_wp2
     go_quiet (first|(go_at_call 85;exact Calls.quiet_of_same ((must_true w0 g p h _ (HH.out.drewN _)).mono fun e w' hh=>⟨hh.1.trans (ret_bool hnv),hh.2⟩))|(go_at_call 160;exact Calls.quiet_of_same ((rbelow_any _ _ _ _ _ _ (HCL.out.bl (bl_drewN (Bl.refl _) _)) HC.out.tree).mono fun e w' hh=>⟨hh.1.trans (ret_bool hR),hh.2⟩)))
     go_wp2
     (try simp only [Exit.inBlock,Exit.then])
     refine bodyPost_ret (results_cell_row rfl _ _ (w.heap.size+1) _ _ _ _ rfl ((HR.out.drewN _).set ⟨1,1⟩).blk Tryz.underlying82 rfl info_va) rfl ?_
     exact ⟨rfl,(HH.out.drewN _).cf ((HR.out.drewN _).cf HC.out.k hbs' _ _),(((HF.out.drewN _).new hle' hbs' _).new hle' hbs' _)⟩
  ·have hnv:(!h.over)=false:=by rw [hov];rfl
   have e1:h.isV ⟨3,vn⟩ c=⟨1,0⟩:=by unfold Hp.isV Hp.mustB;rw [hov];simp
   rw [e1]
   clear e1 hv3
   go_enter Tryz.func232,Tryz.ntmps232
   go_wp2
   go_quiet ((go_at_call 85;exact Calls.quiet_of_same ((must_true w0 g p h _ (HH.out.drewN _)).mono fun e w' hh=>⟨hh.1.trans (ret_bool hnv),hh.2⟩)))
   go_wp2
   (try simp only [Exit.inBlock,Exit.then])
   refine bodyPost_ret (results_cell_row rfl _ _ (w.heap.size+1) _ _ _ _ rfl ((HR.out.drewN _).set ⟨1,0⟩).blk Tryz.underlying82 rfl info_va) rfl ?_
   exact ⟨rfl,(HH.out.drewN _).cf ((HR.out.drewN _).cf HC.out.k hbs' _ _),(((HF.out.drewN _).new hle' hbs' _).new hle' hbs' _)⟩
 ·exact is_not w0 g p h v c w hH0 C0 hk
end Go.Proofs.YtgiiapenmjollabGreat
