import Derived.Test.YtgiiapenmjollaaGreatSsak
import Derived.Deep.Upon
namespace Go.Proofs.YtgiiapenmjollaaGreat
set_option linter.all false
set_option maxHeartbeats 40000000
set_option maxRecDepth 100000
open Go.RowKit
theorem three_new (w:World) (a b c:Va):VaBox (((w.alloc (vaO a)).alloc (vaO b)).alloc (vaO c)) w.heap.size a∧VaBox (((w.alloc (vaO a)).alloc (vaO b)).alloc (vaO c)) (w.heap.size+1) b∧VaBox (((w.alloc (vaO a)).alloc (vaO b)).alloc (vaO c)) (w.heap.size+1+1) c:=by
 have h2:((w.alloc (vaO a)).alloc (vaO b)).heap.size=w.heap.size+1+1:=by rw [World.size_alloc,World.size_alloc]
 obtain ⟨p1,p2⟩:=two_new w a b
 refine ⟨⟨?_⟩,⟨?_⟩,⟨?_⟩⟩
 ·rw [Below.heap_alloc _ _ _ (by omega)];exact p1.blk
 ·rw [Below.heap_alloc _ _ _ (by omega)];exact p2.blk
 ·rw [←h2];exact blk_new _ _ _
theorem reckon_any (w0:World) (g:Ad) (p:Nat) (h:Hp) (a b:Va) (k op:Int) (w:World) (hH:Hs w0 g w p h) (C:Cw w0 g h) (hk:k=1∨k=2) (ia:I64 a.n) (ib:I64 b.n) :
  Calls Tryz.prog 159 #[.pointer (some ⟨p,0,none⟩),vaV a,vaV b,.int .i64 k,.int .i64 op] w fun e w'=>e=.returned (vaV (h.reckV a b k op))∧Hs w0 g w' p (h.reckH a b k op)∧Fr w0.heap.size g.T w w':=by
 have hbs:=hH.base
 have HF:Hid (Fr w0.heap.size g.T w (((w.alloc (vaO a)).alloc (vaO b)).alloc vzO)):=(((Fr.refl _ _ w).alloc hbs _).alloc (by simp;omega) _).alloc (by simp;omega) _
 have HH:Hid (Hs w0 g (((w.alloc (vaO a)).alloc (vaO b)).alloc vzO) p h):=hH.cf ((((Cf.refl _ _ w).alloc hbs _).alloc (by simp;omega) _).alloc (by simp;omega) _)
 have HA:Hid (VaBox (((w.alloc (vaO a)).alloc (vaO b)).alloc vzO) w.heap.size a):=(three_new w a b va0).1
 have HB:Hid (VaBox (((w.alloc (vaO a)).alloc (vaO b)).alloc vzO) (w.heap.size+1) b):=(three_new w a b va0).2.1
 have HR:Hid (VaBox (((w.alloc (vaO a)).alloc (vaO b)).alloc vzO) (w.heap.size+1+1) va0):=(three_new w a b va0).2.2
 have HC:Hid (Cw w0 g h):=C
 have hbs':w0.heap.size≤w.heap.size+1+1:=by omega
 have hle':w.heap.size≤w.heap.size+1+1:=by omega
 have da:(a.kind==k)=decide (a.kind=k):=by rw [Bool.eq_iff_iff];simp
 have db:(b.kind==k)=decide (b.kind=k):=by rw [Bool.eq_iff_iff];simp
 clear hH C
 cases hm:h.mustB (ofBoth a b k)
 ·have e1:h.reckV a b k op=va0:=by unfold Hp.reckV;rw [if_neg (by rw [hm];decide)]
  have e2:h.reckH a b k op=h.must (ofBoth a b k):=by unfold Hp.reckH;rw [if_neg (by rw [hm];decide)]
  rw [e1,e2]
  clear e1 e2
  by_cases ka:a.kind=k
  ·have eo:ofBoth a b k=decide (b.kind=k):=by unfold ofBoth;rw [decide_eq_true ka];rfl
   rw [eo] at hm ⊢
   have da':(a.kind==k)=true:=by simpa using ka
   clear da eo ka
   go_enter Tryz.func159,Tryz.ntmps159
   go_wp2_with (go_at_call 55;refine (must_any w0 g HC.out.k p h _ _ HH.out).mono ?_;rintro e w1 ⟨he,h1,f1⟩;rw [hm] at he;subst he;have b1:=HR.out.keep HC.out.k f1;have r0:=b1.c0;have r1:=b1.c1;have r2:=b1.fr 0;have r3:=b1.fr 1;have HB1:Hid (VaBox w1 (w.heap.size+1+1) va0):=b1;clear b1)
   (try simp only [Exit.inBlock,Exit.then])
   refine bodyPost_ret (results_cell_row rfl _ _ (w.heap.size+1+1) _ _ _ _ rfl (HB1.out.set va0).blk Tryz.underlying62 rfl info_va) rfl ?_
   exact ⟨rfl,h1.cf (HB1.out.cf HC.out.k hbs' _ _),(((HF.out.trans f1).new hle' hbs' _).new hle' hbs' _)⟩
  ·have eo:ofBoth a b k=false:=by unfold ofBoth;rw [decide_eq_false ka];rfl
   rw [eo] at hm ⊢
   have da':(a.kind==k)=false:=by simpa using ka
   clear da eo ka
   go_enter Tryz.func159,Tryz.ntmps159
   go_wp2_with (go_at_call 55;refine (must_any w0 g HC.out.k p h false _ HH.out).mono ?_;rintro e w1 ⟨he,h1,f1⟩;rw [hm] at he;subst he;have b1:=HR.out.keep HC.out.k f1;have r0:=b1.c0;have r1:=b1.c1;have r2:=b1.fr 0;have r3:=b1.fr 1;have HB1:Hid (VaBox w1 (w.heap.size+1+1) va0):=b1;clear b1)
   (try simp only [Exit.inBlock,Exit.then])
   refine bodyPost_ret (results_cell_row rfl _ _ (w.heap.size+1+1) _ _ _ _ rfl (HB1.out.set va0).blk Tryz.underlying62 rfl info_va) rfl ?_
   exact ⟨rfl,h1.cf (HB1.out.cf HC.out.k hbs' _ _),(((HF.out.trans f1).new hle' hbs' _).new hle' hbs' _)⟩
 ·obtain ⟨hb,hov,hmu⟩:=mustB_true hm
  have hab:a.kind=k∧b.kind=k:=by unfold ofBoth at hb;simp at hb;exact hb
  have HMU:Hid (h.must true=h):=rfl
  have hmt:h.mustB true=true:=by have:=hm;rw [hb] at this;exact this
  have da':(a.kind==k)=true:=by simpa using hab.1
  have db':(b.kind==k)=true:=by simpa using hab.2
  obtain ⟨N,hN⟩:∃N,reckN k op a b=N:=⟨_,rfl⟩
  have e1:h.reckV a b k op=⟨k,N⟩:=by unfold Hp.reckV;rw [if_pos hm,hN]
  rw [e1]
  clear hb hov hmu hab da db
  cases hR:reckB k op a b
  ·have e2:h.reckH a b k op=h.raise 2:=by unfold Hp.reckH;rw [if_pos hm,if_neg (by rw [hR];decide)]
   rw [e2]
   rcases hk with hk|hk
   ·subst hk
    have HN:Hid (wrap32 (lngV op (wrap32 a.n) (wrap32 b.n))=N):=hN
    have HBB:Hid (lngB op (wrap32 b.n)=false):=hR
    clear hN hR e1 e2 hm
    go_enter Tryz.func159,Tryz.ntmps159
    go_wp2_with (first
     | (go_at_call 55;refine (must_any w0 g HC.out.k p h true _ HH.out).mono ?_;rintro e w1 ⟨he,h1,f1⟩;rw [hmt] at he;subst he;rw [HMU.out] at h1;have b1:=HR.out.keep HC.out.k f1;have r0:=b1.c0;have r1:=b1.c1;have r2:=b1.fr 0;have r3:=b1.fr 1;have HB1:Hid (VaBox w1 (w.heap.size+1+1) va0):=b1;clear b1;have x1:=(HA.out.keep HC.out.k f1).c1;have y1:=(HB.out.keep HC.out.k f1).c1)
     | (go_at_call 200;refine (rlong_any op a.n b.n _ ia.1 ia.2 ib.1 ib.2).mono ?_;rintro e w5 ⟨he,hw5⟩;subst he;rw [hw5];clear hw5 w5)
     | (go_at_call 201;refine (rint_any op a.n b.n _).mono ?_;rintro e w6 ⟨he,hw6⟩;rw [HN.out,HBB.out] at he;subst he;rw [hw6];clear hw6 w6)
     | (go_at_call 157;refine (raise_any w0 g p h 2 _ h1 HC.out (by omega)).mono ?_;rintro e w2 ⟨rfl,h2,f2⟩;clear r0 r1 r2 r3;have b2:=HB1.out.keep HC.out.k f2;have r0:=b2.c0;have r1:=b2.c1;have r2:=b2.fr 0;have r3:=b2.fr 1;have HB2:Hid (VaBox w2 (w.heap.size+1+1) va0):=b2;clear b2))
    (try simp only [Exit.inBlock,Exit.then])
    refine bodyPost_ret (results_cell_row rfl _ _ (w.heap.size+1+1) _ _ _ _ rfl (HB2.out.set ⟨1,N⟩).blk Tryz.underlying62 rfl info_va) rfl ?_
    exact ⟨rfl,h2.cf (HB2.out.cf HC.out.k hbs' _ _),((((HF.out.trans f1).trans f2).new hle' hbs' _).new hle' hbs' _)⟩
   ·subst hk
    have HN:Hid (lngV op a.n b.n=N):=hN
    have HBB:Hid (lngB op b.n=false):=hR
    clear hN hR e1 e2 hm
    go_enter Tryz.func159,Tryz.ntmps159
    go_wp2_with (first
     | (go_at_call 55;refine (must_any w0 g HC.out.k p h true _ HH.out).mono ?_;rintro e w1 ⟨he,h1,f1⟩;rw [hmt] at he;subst he;rw [HMU.out] at h1;have b1:=HR.out.keep HC.out.k f1;have r0:=b1.c0;have r1:=b1.c1;have r2:=b1.fr 0;have r3:=b1.fr 1;have HB1:Hid (VaBox w1 (w.heap.size+1+1) va0):=b1;clear b1;have x1:=(HA.out.keep HC.out.k f1).c1;have y1:=(HB.out.keep HC.out.k f1).c1)
     | (go_at_call 200;refine (rlong_any op a.n b.n _ ia.1 ia.2 ib.1 ib.2).mono ?_;rintro e w5 ⟨he,hw5⟩;rw [HN.out,HBB.out] at he;subst he;rw [hw5];clear hw5 w5)
     | (go_at_call 157;refine (raise_any w0 g p h 2 _ h1 HC.out (by omega)).mono ?_;rintro e w2 ⟨rfl,h2,f2⟩;clear r0 r1 r2 r3;have b2:=HB1.out.keep HC.out.k f2;have r0:=b2.c0;have r1:=b2.c1;have r2:=b2.fr 0;have r3:=b2.fr 1;have HB2:Hid (VaBox w2 (w.heap.size+1+1) va0):=b2;clear b2))
    (try simp only [Exit.inBlock,Exit.then])
    refine bodyPost_ret (results_cell_row rfl _ _ (w.heap.size+1+1) _ _ _ _ rfl (HB2.out.set ⟨2,N⟩).blk Tryz.underlying62 rfl info_va) rfl ?_
    exact ⟨rfl,h2.cf (HB2.out.cf HC.out.k hbs' _ _),((((HF.out.trans f1).trans f2).new hle' hbs' _).new hle' hbs' _)⟩
  ·have e2:h.reckH a b k op=h:=by unfold Hp.reckH;rw [if_pos hm,if_pos hR]
   rw [e2]
   rcases hk with hk|hk
   ·subst hk
    have HN:Hid (wrap32 (lngV op (wrap32 a.n) (wrap32 b.n))=N):=hN
    have HBB:Hid (lngB op (wrap32 b.n)=true):=hR
    clear hN hR e1 e2 hm
    go_enter Tryz.func159,Tryz.ntmps159
    go_wp2_with (first
     | (go_at_call 55;refine (must_any w0 g HC.out.k p h true _ HH.out).mono ?_;rintro e w1 ⟨he,h1,f1⟩;rw [hmt] at he;subst he;rw [HMU.out] at h1;have b1:=HR.out.keep HC.out.k f1;have r0:=b1.c0;have r1:=b1.c1;have r2:=b1.fr 0;have r3:=b1.fr 1;have HB1:Hid (VaBox w1 (w.heap.size+1+1) va0):=b1;clear b1;have x1:=(HA.out.keep HC.out.k f1).c1;have y1:=(HB.out.keep HC.out.k f1).c1)
     | (go_at_call 200;refine (rlong_any op a.n b.n _ ia.1 ia.2 ib.1 ib.2).mono ?_;rintro e w5 ⟨he,hw5⟩;subst he;rw [hw5];clear hw5 w5)
     | (go_at_call 201;refine (rint_any op a.n b.n _).mono ?_;rintro e w6 ⟨he,hw6⟩;rw [HN.out,HBB.out] at he;subst he;rw [hw6];clear hw6 w6))
    (try simp only [Exit.inBlock,Exit.then])
    refine bodyPost_ret (results_cell_row rfl _ _ (w.heap.size+1+1) _ _ _ _ rfl (HB1.out.set ⟨1,N⟩).blk Tryz.underlying62 rfl info_va) rfl ?_
    exact ⟨rfl,h1.cf (HB1.out.cf HC.out.k hbs' _ _),(((HF.out.trans f1).new hle' hbs' _).new hle' hbs' _)⟩
   ·subst hk
    have HN:Hid (lngV op a.n b.n=N):=hN
    have HBB:Hid (lngB op b.n=true):=hR
    clear hN hR e1 e2 hm
    go_enter Tryz.func159,Tryz.ntmps159
    go_wp2_with (first
     | (go_at_call 55;refine (must_any w0 g HC.out.k p h true _ HH.out).mono ?_;rintro e w1 ⟨he,h1,f1⟩;rw [hmt] at he;subst he;rw [HMU.out] at h1;have b1:=HR.out.keep HC.out.k f1;have r0:=b1.c0;have r1:=b1.c1;have r2:=b1.fr 0;have r3:=b1.fr 1;have HB1:Hid (VaBox w1 (w.heap.size+1+1) va0):=b1;clear b1;have x1:=(HA.out.keep HC.out.k f1).c1;have y1:=(HB.out.keep HC.out.k f1).c1)
     | (go_at_call 200;refine (rlong_any op a.n b.n _ ia.1 ia.2 ib.1 ib.2).mono ?_;rintro e w5 ⟨he,hw5⟩;rw [HN.out,HBB.out] at he;subst he;rw [hw5];clear hw5 w5))
    (try simp only [Exit.inBlock,Exit.then])
    refine bodyPost_ret (results_cell_row rfl _ _ (w.heap.size+1+1) _ _ _ _ rfl (HB1.out.set ⟨2,N⟩).blk Tryz.underlying62 rfl info_va) rfl ?_
    exact ⟨rfl,h1.cf (HB1.out.cf HC.out.k hbs' _ _),(((HF.out.trans f1).new hle' hbs' _).new hle' hbs' _)⟩
abbrev meBO (m:Me) (P C K:Option Addr) (p c k:Nat):Obj:=.cells #[.slice P m.params.length p,.int .i64 m.ret.kind,.int .i64 m.ret.cls,.int .i64 m.stack,.int .i64 m.locs,.int .i64 m.regs,.slice C m.code.length c,.slice K m.hands.length k] 49
theorem caught_any (w0:World) (g:Ad) (p:Nat) (h:Hp) (m:Me) (P CC K:Option Addr) (pp c k:Nat) (pc:Int) (w:World) (hH:Hs w0 g w p h) (C:Cw w0 g h) (hK:HdsAt w0 K m.hands) (ht:0≤h.thrown∧h.thrown<h.objs.length) :
  Calls Tryz.prog 59 #[.pointer (some ⟨p,0,none⟩),meV m P CC K pp c k,.int .i64 pc] w fun e w'=>e=.returned (.int .i64 (h.caughtL pc m.hands))∧Hs w0 g w' p h∧Fr w0.heap.size g.T w w':=by
 have hbs:=hH.base
 obtain ⟨vo,vx,hv,H⟩:=hH
 have HA:Hid (HpAt w0 g w p h vo vx hv):=H
 have HC:Hid (Cw w0 g h):=C
 have HK:Hid (HdsAt w K m.hands):=hK.bl H.bl
 have HCL:Hid (ClsAt w g.A h.file.classes):=C.cls.bl H.bl
 have hkm:=hK.1
 unfold maxLen at hkm
 obtain ⟨n,hn⟩:∃n:Nat,h.thrown=n:=⟨h.thrown.toNat,by omega⟩
 have hnl:n<h.objs.length:=by omega
 have HN:Hid (h.thrown=n):=hn
 obtain ⟨gb,cap,hvo,-,hom,hcc⟩:=obs_cell H.obs (by omega)
 have ho1:=(hcc n hnl).1
 unfold maxLen at hom
 have HO1:Hid (w.cell? ⟨gb,n*2,none⟩=some (.int .i64 (nth ob0 h.objs n).cls)):=ho1
 have HVO:Hid (vo=.slice (some ⟨gb,0,none⟩) h.objs.length cap):=hvo
 have hn0:(0:Int)≤(n:Int):=by omega
 have hn1:(n:Int)<(h.objs.length:Int):=by omega
 have HFT:Hid (∀x:Hd,h.fits x pc=(decide (x.fr≤pc)&&(decide (pc<x.til)&&(clsI h.file.classes (nth ob0 h.objs n).cls x.cls&&belN h.file.classes (nth ob0 h.objs n).cls.toNat x.cls.toNat)))):=fun x=>by
  unfold Hp.fits Hp.obj belI;rw [hn,Int.toNat_natCast]
 have HM:Hid ((w.alloc (meBO m P CC K pp c k)).cell? ⟨w.heap.size,7,none⟩=some (.slice K m.hands.length k)):=cell_of_new rfl
 clear H C hK ht hn hcc ho1 hvo
 obtain ⟨R,hR⟩:∃R,h.caughtL pc m.hands=R:=⟨_,rfl⟩
 rw [hR]
 have HR:Hid (h.caughtL pc (m.hands.drop 0)=R):=by rw [List.drop_zero];exact hR
 clear hR
 generalize hX:(nth ob0 h.objs n).cls=X at *
 clear hX
 go_enter Tryz.func59,Tryz.ntmps59
 go_wp2
 go_loopw [7] (fun i wr=>∃q:Nat,q≤m.hands.length∧i=.int .i64 q∧Hid (Bl w wr)∧wr.cell? ⟨w.heap.size,7,none⟩=some (.slice K m.hands.length k)∧Hid (h.caughtL pc (m.hands.drop q)=R)) (fun i _=>m.hands.length-(intOf i).toNat)
 case atStart=>exact ⟨0,Nat.zero_le _,rfl,(Bl.refl w).alloc _,HM.out,HR⟩
 case round =>
  obtain ⟨q,hq,rfl,hg,c7,hr⟩:=hrel
  by_cases hql:q<m.hands.length
  ·have hds:=HK.out.bl hg.out
   rcases hds.2 with h0|⟨b',off',hKA,hcell⟩
   ·omega
   obtain ⟨g0,g1,g2,g3,-⟩:=hcell q hql
   rw [hKA] at c7
   have HS:Hid (h.fits (nth hd0 m.hands q) pc=false→h.caughtL pc (m.hands.drop (q+1))=R):=fun hx=>(caught_skip hql hx).symm.trans hr.out
   have HT:Hid (h.fits (nth hd0 m.hands q) pc=true→(nth hd0 m.hands q).pc=R):=fun hx=>(caught_hit hql hx).symm.trans hr.out
   have hlt:=lt_some (HA.out.old hg.out).blk
   have HAW:Hid (∀o,HpAt w0 g (wr.alloc o) p h vo vx hv):=fun o=>HA.out.old (hg.out.alloc o)
   have q0:∀o,(wr.alloc o).cell? ⟨p,0,none⟩=some (.slice g.A h.file.classes.length g.a):=fun o=>(HAW.out o).cells.c0
   have q2:∀o,(wr.alloc o).cell? ⟨p,2,none⟩=some (.slice (some ⟨gb,0,none⟩) h.objs.length cap):=fun o=>by rw [(HAW.out o).cells.c2,HVO.out]
   have q13:∀o,(wr.alloc o).cell? ⟨p,13,none⟩=some (.int .i64 (n:Int)):=fun o=>by rw [(HAW.out o).cells.c13,HN.out]
   have qo:∀o,(wr.alloc o).cell? ⟨gb,n*2,none⟩=some (.int .i64 X):=fun o=>(hg.out.alloc o).cell HO1.out
   have q7:∀o,(wr.alloc o).cell? ⟨w.heap.size,7,none⟩=some (.slice K m.hands.length k):=fun o=>by rw [hKA];exact ((Bl.refl wr).alloc o).cell c7
   have HCW:Hid (∀o,ClsAt (wr.alloc o) g.A h.file.classes):=fun o=>HCL.out.bl (hg.out.alloc o)
   have HD:Hid (h.fits (nth hd0 m.hands q) pc=(decide ((nth hd0 m.hands q).fr≤pc)&&(decide (pc<(nth hd0 m.hands q).til)&&(clsI h.file.classes X (nth hd0 m.hands q).cls&&belN h.file.classes X.toNat (nth hd0 m.hands q).cls.toNat)))):=HFT.out _
   have HQ7:Hid (∀o,(wr.alloc o).cell? ⟨w.heap.size,7,none⟩=some (.slice K m.hands.length k)):=q7
   clear hcell hds hr q7 hKA
   generalize hY:nth hd0 m.hands q=Y at *
   clear hY
   by_cases t1:Y.fr≤pc
   ·have d1:decide (Y.fr≤pc)=true:=decide_eq_true t1
    by_cases t2:pc<Y.til
    ·have d2:decide (pc<Y.til)=true:=decide_eq_true t2
     obtain ⟨B,hB⟩:∃B,(clsI h.file.classes X Y.cls&&belN h.file.classes X.toNat Y.cls.toNat)=B:=⟨_,rfl⟩
     have HFB:Hid (h.fits Y pc=B):=by rw [HD.out,d1,d2,hB];rfl
     cases B
     ·have HNX:=HS.out HFB.out
      have HNXT:Hid (h.caughtL pc (m.hands.drop (q+1))=R):=HNX
      clear HNX
      go_wp2
      go_quiet ((go_at_call 110;exact Calls.quiet_of_same ((rbelow_any _ _ _ _ _ _ ((HCW.out _).bl (bl_drewN (Bl.refl _) _)) HC.out.tree).mono fun e w' hh=>⟨hh.1.trans (ret_bool hB),hh.2⟩)))
      go_wp2
      go_roundw
      case rel=>exact ⟨q+1,by omega,by go_num,bl_drewN (hg.out.alloc _) _,HQ7.out _,HNXT⟩
      case measure=>simp [intOf];omega
     ·have HPC:Hid (Y.pc=R):=HT.out HFB.out
      go_wp2
      go_quiet ((go_at_call 110;exact Calls.quiet_of_same ((rbelow_any _ _ _ _ _ _ ((HCW.out _).bl (bl_drewN (Bl.refl _) _)) HC.out.tree).mono fun e w' hh=>⟨hh.1.trans (ret_bool hB),hh.2⟩)))
      go_wp2
      go_ret
      exact ⟨ret_int HPC.out,⟨vo,vx,hv,(HAW.out _).drewN _⟩,(Fr.old hbs (hg.out.alloc _)).drewN _⟩
    ·have d2:decide (pc<Y.til)=false:=decide_eq_false t2
     have HNXT:Hid (h.caughtL pc (m.hands.drop (q+1))=R):=HS.out (by rw [HD.out,d2,Bool.false_and,Bool.and_false])
     go_wp2
     go_quiet (fail)
     go_wp2
     go_roundw
     case rel=>exact ⟨q+1,by omega,by go_num,bl_drewN (hg.out.alloc _) _,HQ7.out _,HNXT⟩
     case measure=>simp [intOf];omega
   ·have d1:decide (Y.fr≤pc)=false:=decide_eq_false t1
    have HNXT:Hid (h.caughtL pc (m.hands.drop (q+1))=R):=HS.out (by rw [HD.out,d1,Bool.false_and])
    go_wp2
    go_quiet (fail)
    go_wp2
    go_roundw
    case rel=>exact ⟨q+1,by omega,by go_num,bl_drewN (hg.out.alloc _) _,HQ7.out _,HNXT⟩
    case measure=>simp [intOf];omega
  ·obtain rfl:q=m.hands.length:=by omega
   have HE:Hid (-1=R):=by have:=hr.out;rw [List.drop_length] at this;exact this
   go_wp2
   go_ret
   exact ⟨ret_int HE.out,⟨vo,vx,hv,HA.out.old hg.out⟩,Fr.old hbs hg.out⟩
structure Ca where
 q:Nat
 lb:Nat
 lc:Nat
 P:Option Addr
 C:Option Addr
 K:Option Addr
 p:Nat
 c:Nat
 k:Nat
def calRow (a:Ca) (c:Cal) (A:Option Addr) (cap:Nat):Array Value :=
 #[.slice a.P c.m.params.length a.p,.int .i64 c.m.ret.kind,.int .i64 c.m.ret.cls,.int .i64 c.m.stack,.int .i64 c.m.locs,.int .i64 c.m.regs,.slice a.C c.m.code.length a.c,.slice a.K c.m.hands.length a.k,
  .slice (some ⟨a.lb,0,none⟩) c.locs.length a.lc,.slice A c.stk.length cap,.int .i64 c.pc]
def StkAt (lb:Nat) (w:World) (A:Option Addr) (l:List Va):Prop :=
 l.length=0∨∃b off cs f,A=some ⟨b,off,none⟩∧w.heap[b]?=some (.cells cs 62 f)∧b≠lb ∧
  ∀i,i<l.length→cs[off+i*2]?=some (.int .i64 (nth va0 l i).kind)∧cs[off+i*2+1]?=some (.int .i64 (nth va0 l i).n)
structure CalAt (w0 w:World) (a:Ca) (c:Cal) (A:Option Addr) (cap:Nat):Prop where
 own:w0.heap.size≤a.q
 ownl:w0.heap.size≤a.lb
 blk:w.heap[a.q]?=some (.cells (calRow a c A cap) 113 (0,0))
 loc:LocBox w a.lb c.locs
 stk:StkAt a.lb w A c.stk
 me:MeAt w0 c.m a.P a.C a.K
 cap:c.stk.length≤cap
def Cs (w0 w:World) (a:Ca) (c:Cal):Prop:=∃A cap,CalAt w0 w a c A cap
structure Fq (B:Nat) (T:TypeId) (a:Ca) (w w':World):Prop where
 bl:Below B w w'
 keep:∀(b:Nat) (cs:Array Value) (t:TypeId) (f:Nat×Nat),w.heap[b]?=some (.cells cs t f)→¬heapT T t→b≠a.q→b≠a.lb→w'.heap[b]?=some (.cells cs t f)
theorem Fr.fq {B:Nat} {T:TypeId} {a:Ca} {w w':World} (h:Fr B T w w'):Fq B T a w w':=⟨h.bl,fun b cs t f e n _ _=>h.keep b cs t f e n⟩
theorem Fq.refl (B:Nat) (T:TypeId) (a:Ca) (w:World):Fq B T a w w:=(Fr.refl B T w).fq
theorem Fq.trans {B:Nat} {T:TypeId} {a:Ca} {x y z:World} (h:Fq B T a x y) (k:Fq B T a y z):Fq B T a x z :=
 ⟨h.bl.trans k.bl,fun b cs t f e n n1 n2=>k.keep b cs t f (h.keep b cs t f e n n1 n2) n n1 n2⟩
theorem Fq.fr {B:Nat} {T:TypeId} {a:Ca} {x y z:World} (h:Fr B T x y) (k:Fq B T a y z) (hq:x.heap.size≤a.q) (hl:x.heap.size≤a.lb):Fr B T x z :=
 ⟨h.bl.trans k.bl,fun b cs t f e n=>k.keep b cs t f (h.keep b cs t f e n) n (by have:=lt_some e;omega) (by have:=lt_some e;omega)⟩
theorem StkAt.keep {lb:Nat} {w w':World} {A:Option Addr} {l:List Va} (h:StkAt lb w A l)
  (k:∀b cs f,w.heap[b]?=some (.cells cs 62 f)→b≠lb→w'.heap[b]?=some (.cells cs 62 f)):StkAt lb w' A l:=by
 rcases h with h|⟨b,off,cs,f,h1,h2,h3,h4⟩
 ·exact Or.inl h
 ·exact Or.inr ⟨b,off,cs,f,h1,k b cs f h2 h3,h3,h4⟩
theorem StkAt.fr {B lb:Nat} {T:TypeId} {w w':World} {A:Option Addr} {l:List Va} (h:StkAt lb w A l) (k:Tk T) (f:Fr B T w w'):StkAt lb w' A l :=
 h.keep fun b cs fz e _=>f.keep b cs _ fz e k.nv
theorem LocBox.frr {B:Nat} {T:TypeId} {w w':World} {b:Nat} {l:List Va} (h:LocBox w b l) (k:Tk T) (f:Fr B T w w'):LocBox w' b l:=⟨f.keep _ _ _ _ h.blk k.nv,h.len⟩
theorem CalAt.fr {B:Nat} {T:TypeId} {w0 w w':World} {a:Ca} {c:Cal} {A:Option Addr} {cap:Nat} (h:CalAt w0 w a c A cap) (k:Tk T) (f:Fr B T w w'):CalAt w0 w' a c A cap :=
 ⟨h.own,h.ownl,f.keep _ _ _ _ h.blk k.nc,h.loc.frr k f,h.stk.fr k f,h.me,h.cap⟩
theorem Cs.fr {B:Nat} {T:TypeId} {w0 w w':World} {a:Ca} {c:Cal} (h:Cs w0 w a c) (k:Tk T) (f:Fr B T w w'):Cs w0 w' a c:=by
 obtain ⟨A,cap,h⟩:=h
 exact ⟨A,cap,h.fr k f⟩
theorem StkAt.vas {lb:Nat} {w:World} {A:Option Addr} {l:List Va} (h:StkAt lb w A l) (hm:l.length≤maxLen):VasAt w A l:=by
 refine ⟨hm,?_⟩
 rcases h with h|⟨b,off,cs,f,h1,h2,h3,h4⟩
 ·exact Or.inl h
 ·exact Or.inr ⟨b,off,h1,fun i hi=>⟨(cell_blk h2).trans (h4 i hi).1,(cell_blk h2).trans (h4 i hi).2⟩⟩
theorem StkAt.take {lb:Nat} {w:World} {A:Option Addr} {l:List Va} (h:StkAt lb w A l) (n:Nat):StkAt lb w A (l.take n):=by
 rcases h with h|⟨b,off,cs,f,h1,h2,h3,h4⟩
 ·left;rw [List.length_take];omega
 ·refine Or.inr ⟨b,off,cs,f,h1,h2,h3,fun i hi=>?_⟩
  simp only [List.length_take] at hi
  rw [nth_take (by omega)]
  exact h4 i (by omega)
theorem StkAt.drop {lb:Nat} {w:World} {b off:Nat} {l:List Va} (h:StkAt lb w (some ⟨b,off,none⟩) l) (n:Nat):StkAt lb w (some ⟨b,off+n*2,none⟩) (l.drop n):=by
 rcases h with h|⟨b',off',cs,f,h1,h2,h3,h4⟩
 ·left;rw [List.length_drop];omega
 ·simp only [Option.some.injEq,Addr.mk.injEq] at h1
  obtain ⟨rfl,rfl,-⟩:=h1
  refine Or.inr ⟨b,off+n*2,cs,f,rfl,h2,h3,fun i hi=>?_⟩
  simp only [List.length_drop] at hi
  rw [nth_drop]
  have:=h4 (n+i) (by omega)
  have e1:off+n*2+i*2=off+(n+i)*2:=by omega
  have e2:off+n*2+i*2+1=off+(n+i)*2+1:=by omega
  rw [e1]
  exact this
structure CalCells (w:World) (a:Ca) (c:Cal) (A:Option Addr) (cap:Nat):Prop where
 c0:w.cell? ⟨a.q,0,none⟩=some (.slice a.P c.m.params.length a.p)
 c1:w.cell? ⟨a.q,1,none⟩=some (.int .i64 c.m.ret.kind)
 c2:w.cell? ⟨a.q,2,none⟩=some (.int .i64 c.m.ret.cls)
 c3:w.cell? ⟨a.q,3,none⟩=some (.int .i64 c.m.stack)
 c4:w.cell? ⟨a.q,4,none⟩=some (.int .i64 c.m.locs)
 c5:w.cell? ⟨a.q,5,none⟩=some (.int .i64 c.m.regs)
 c6:w.cell? ⟨a.q,6,none⟩=some (.slice a.C c.m.code.length a.c)
 c7:w.cell? ⟨a.q,7,none⟩=some (.slice a.K c.m.hands.length a.k)
 c8:w.cell? ⟨a.q,8,none⟩=some (.slice (some ⟨a.lb,0,none⟩) c.locs.length a.lc)
 c9:w.cell? ⟨a.q,9,none⟩=some (.slice A c.stk.length cap)
 c10:w.cell? ⟨a.q,10,none⟩=some (.int .i64 c.pc)
theorem CalAt.cells {w0 w:World} {a:Ca} {c:Cal} {A:Option Addr} {cap:Nat} (H:CalAt w0 w a c A cap):CalCells w a c A cap:=by
 constructor<;>(rw [cell_blk H.blk];rfl)
theorem CalAt.free {w0 w:World} {a:Ca} {c:Cal} {A:Option Addr} {cap:Nat} (H:CalAt w0 w a c A cap) (i:Nat):w.frozen? ⟨a.q,i,none⟩=false:=free_blk H.blk i
theorem CalAt.apart {w0 w:World} {a:Ca} {c:Cal} {A:Option Addr} {cap:Nat} (H:CalAt w0 w a c A cap):a.lb≠a.q:=by
 intro h
 have h1:=H.loc.blk
 rw [h,H.blk] at h1
 simp at h1
theorem CalAt.setStk {w0 w:World} {a:Ca} {c:Cal} {A:Option Addr} {cap:Nat} (H:CalAt w0 w a c A cap) {A':Option Addr} {cap':Nat} {l:List Va} (h:StkAt a.lb w A' l) (hc:l.length≤cap') :
  CalAt w0 (w.setCell ⟨a.q,9,none⟩ (.slice A' l.length cap')) a { c with stk:=l } A' cap':=by
 refine ⟨H.own,H.ownl,by rw [block_set H.blk];rfl,⟨?_,H.loc.len⟩,?_,H.me,hc⟩
 ·rw [block_far H.apart];exact H.loc.blk
 ·refine h.keep fun b cs f e n=>?_
  rw [block_far]
  ·exact e
  ·rintro rfl;rw [H.blk] at e;simp at e
theorem CalAt.setPc {w0 w:World} {a:Ca} {c:Cal} {A:Option Addr} {cap:Nat} (H:CalAt w0 w a c A cap) (n:Int) :
  CalAt w0 (w.setCell ⟨a.q,10,none⟩ (.int .i64 n)) a { c with pc:=n } A cap:=by
 refine ⟨H.own,H.ownl,by rw [block_set H.blk];rfl,⟨?_,H.loc.len⟩,?_,H.me,H.cap⟩
 ·rw [block_far H.apart];exact H.loc.blk
 ·refine H.stk.keep fun b cs f e n=>?_
  rw [block_far]
  ·exact e
  ·rintro rfl;rw [H.blk] at e;simp at e
theorem CalAt.cf {T:TypeId} {w0 w:World} {a:Ca} {c:Cal} {A:Option Addr} {cap:Nat} (H:CalAt w0 w a c A cap) (k:Tk T) (i:Nat) (v:Value):Cf w0.heap.size T w (w.setCell ⟨a.q,i,none⟩ v) :=
 (Cf.refl _ _ w).set H.blk k.nc H.own v
theorem CalAt.fq {w0 w:World} {a:Ca} {c:Cal} {A:Option Addr} {cap:Nat} (H:CalAt w0 w a c A cap) (T:TypeId) (i:Nat) (v:Value):Fq w0.heap.size T a w (w.setCell ⟨a.q,i,none⟩ v) :=
 ⟨(Below.refl _ w).setCell H.own v,fun b cs t f e n n1 n2=>by rw [block_far n1];exact e⟩
theorem Only.cf {w0 w w':World} {T:TypeId} {b:Nat} {l:List Va} (h:Only b w w') (k:Tk T) (hL:LocBox w b l) (hb:w0.heap.size≤b) (hs:w0.heap.size≤w.heap.size):Cf w0.heap.size T w w' :=
 ⟨⟨h.os,h.tape,h.output,h.size,fun i hi=>h.block i (by omega) (by omega)⟩,fun i cs t f e n=>by
  have hi:=lt_some e
  rw [h.block i hi]
  ·exact e
  ·rintro rfl;rw [hL.blk] at e;simp at e;exact k.nv (e.2.1▸n)⟩
theorem Only.fq {w0 w w':World} {a:Ca} {T:TypeId} (h:Only a.lb w w') (hb:w0.heap.size≤a.lb) (hs:w0.heap.size≤w.heap.size):Fq w0.heap.size T a w w' :=
 ⟨⟨h.os,h.tape,h.output,h.size,fun i hi=>h.block i (by omega) (by omega)⟩,fun i cs t f e n n1 n2=>by rw [h.block i (lt_some e) n2];exact e⟩
theorem CalAt.setLoc {w0 w w':World} {a:Ca} {c:Cal} {A:Option Addr} {cap:Nat} (H:CalAt w0 w a c A cap) (h:Only a.lb w w') {l:List Va} (hl:LocBox w' a.lb l) (hn:l.length=c.locs.length) :
  CalAt w0 w' a { c with locs:=l } A cap:=by
 refine ⟨H.own,H.ownl,?_,hl,?_,H.me,H.cap⟩
 ·rw [h.block _ (lt_some H.blk) (Ne.symm H.apart),H.blk]
  simp only [calRow,hn]
 ·exact H.stk.keep fun b cs f e n=>by rw [h.block _ (lt_some e) n];exact e
theorem must_is (h:Hp) (ho:h.over=false) (b:Bool):h.mustB b=b:=by unfold Hp.mustB;rw [ho];simp
theorem info_va3:(Tryz.prog.info? 62).map (fun i=>(i.zero,i.size,i.bytes))=some (some (.agg #[.int .i64 0,.int .i64 0]),2,16):=by kernel_rfl
theorem rep_at:∀(k j:Nat),j<k*2→(vaCells (List.replicate k va0))[j]?=some (.int .i64 0)
 | 0,j,h=>by omega
 | k+1,0,_=>by rw [List.replicate_succ];rfl
 | k+1,1,_=>by rw [List.replicate_succ];rfl
 | k+1,j+2,h=>by
  rw [List.replicate_succ]
  show (vaCells (List.replicate k va0))[j]?=_
  exact rep_at k j (by omega)
theorem made_va (k:Nat):madeCells #[.int .i64 0,.int .i64 0] (k*2)=(vaCells (List.replicate k va0)).toArray:=by
 apply Array.ext_getElem?
 intro j
 by_cases hj:j<k*2
 ·have h2:=rep_at k j hj
  simp only [List.getElem?_toArray,h2]
  unfold madeCells
  have hm:j%2=0∨j%2=1:=by omega
  rcases hm with hm|hm<;>simp [hj,hm]
 ·rw [Array.getElem?_eq_none (by rw [size_madeCells];omega),Array.getElem?_eq_none (by simp [vaCells_length];omega)]
theorem make_va (n:Nat) (hn:n≤1000000) (u:World):(Instr.makeSlice 58 (.int .i64 (n:Int)) (.int .i64 (n:Int))).run Tryz.prog u=.ok (.slice (some ⟨u.heap.size,0,none⟩) n n) (u.alloc (.cells (vaCells (List.replicate n va0)).toArray 62)):=by
 obtain ⟨i,hi,hz,hs,hb⟩:=info_parts info_va3
 have h:=run_make u 58 62 i _ Tryz.underlying58 hi hz .i64 .i64 (n:Int) (n:Int) (by omega) (Int.le_refl _) (by rw [hb];omega) (by omega)
 rw [hs] at h
 simp only [Int.toNat_natCast] at h
 rw [←made_va]
 exact h
theorem LocBox.new (w:World) (l:List Va) (hl:l.length≤maxLen):LocBox (w.alloc (.cells (vaCells l).toArray 62)) w.heap.size l:=⟨blk_new _ _ _,hl⟩
theorem LocBox.stk {w:World} {b lb:Nat} {l:List Va} (h:LocBox w b l) (hb:b≠lb):StkAt lb w (some ⟨b,0,none⟩) l :=
 Or.inr ⟨b,0,_,_,rfl,h.blk,hb,fun i hi=>by
  have:=va_cells l i hi
  simpa using this⟩
def TakeEnd (w0:World) (g:Ad) (p:Nat) (a:Ca) (A:Option Addr) (w:World) (many:Nat) (h:Hp) (c:Cal) (l:List Va) (same:Bool) (e:Ending) (w':World):Prop :=
 ∃A1 cap1 cap2,e=.returned (.slice A1 many cap1)∧StkAt a.lb w' A1 l∧Hs w0 g w' p h∧CalAt w0 w' a c A cap2∧Fq w0.heap.size g.T a w w'∧(same=true→∀x y,A=some x→A1=some y→y.block=x.block)
theorem take_yes (w0:World) (g:Ad) (k:Tk g.T) (p:Nat) (h:Hp) (a:Ca) (c:Cal) (many:Nat) (w:World) (A:Option Addr) (cap:Nat) (hH:Hs w0 g w p h) (H:CalAt w0 w a c A cap) (ho:h.over=false) (hm:many≤c.stk.length) (hs:c.stk.length≤1000) :
  Calls Tryz.prog 56 #[.pointer (some ⟨p,0,none⟩),.pointer (some ⟨a.q,0,none⟩),.int .i64 (many:Int)] w fun e w' =>
   TakeEnd w0 g p a A w many h (c.cut many) (c.top many) true e w':=by
 have HC:Hid (CalAt w0 w a c A cap):=H
 have HH:Hid (Hs w0 g w p h):=hH
 have c9:=H.cells.c9
 have f9:=H.free 9
 have hcap:=H.cap
 have hmt:(!h.over)=true:=by rw [ho];rfl
 obtain ⟨n,hn⟩:∃n,c.stk.length=n+many:=⟨c.stk.length-many,by omega⟩
 have e1:c.top many=c.stk.drop n:=by unfold Cal.top;rw [if_pos hm];congr 1;omega
 have e2:c.cut many={ c with stk:=c.stk.take n }:=by unfold Cal.cut;rw [if_pos hm];congr 2;omega
 rw [e1,e2]
 clear e1 e2 H hH hm
 have hlt:(c.stk.take n).length=n:=by simp;omega
 have hld:(c.stk.drop n).length=many:=by simp;omega
 have HS:Hid (StkAt a.lb w A c.stk):=HC.out.stk
 have HN:Hid (c.stk.length=n+many):=hn
 rw [hn] at c9 hs hcap
 clear hn
 go_enter Tryz.func56,Tryz.ntmps56
 go_wp2_with (go_at_call 55;refine (must_true w0 g p h _ HH.out).mono ?_;rintro e w1 ⟨he,hw1⟩;rw [hmt] at he;subst he;subst hw1)
 ·go_ret
  refine ⟨A,_,n,rfl,Or.inl (by omega),HH.out.cf (HC.out.cf k 9 _),?_,HC.out.fq _ 9 _,fun _ x y h1 h2=>by rw [h1] at h2;simp at h2;rw [h2]⟩
  have hx:=HC.out.setStk (cap':=n) (HS.out.take n) (by omega)
  rw [hlt] at hx
  exact hx
 ·go_ret
  refine ⟨_,_,cap,rfl,?_,HH.out.cf (HC.out.cf k 9 _),?_,HC.out.fq _ 9 _,fun _ x y h1 h2=>by subst h1;simp at h2;rw [←h2];unfold Addr.add;split<;>rfl⟩
  ·rcases HS.out with h0|⟨b,off,cs,f,rfl,-⟩
   ·exact Or.inl (by rw [hld];have:=HN.out;omega)
   ·have e:(⟨b,off,none⟩:Addr).add (n*2)=⟨b,off+n*2,none⟩:=by simp [Addr.add]
    have hx:=HC.out.setStk (cap':=cap) (HS.out.take n) (by omega)
    rw [hlt] at hx
    have hy:=HS.out.drop n
    show StkAt a.lb _ (some ((⟨b,off,none⟩:Addr).add (n*2))) _
    rw [e]
    refine hy.keep fun b' cs' f' e' n'=>?_
    rw [block_far]
    ·exact e'
    ·rintro rfl;rw [HC.out.blk] at e';simp at e'
  ·have hx:=HC.out.setStk (cap':=cap) (HS.out.take n) (by omega)
   rw [hlt] at hx
   exact hx
set_option maxRecDepth 10000 in
theorem take_no (w0:World) (g:Ad) (k:Tk g.T) (p:Nat) (h:Hp) (a:Ca) (c:Cal) (many:Nat) (w:World) (A:Option Addr) (cap:Nat) (hH:Hs w0 g w p h) (H:CalAt w0 w a c A cap) (ho:h.over=false) (hm:c.stk.length<many) (hs:many≤4) :
  Calls Tryz.prog 56 #[.pointer (some ⟨p,0,none⟩),.pointer (some ⟨a.q,0,none⟩),.int .i64 (many:Int)] w fun e w' =>
   TakeEnd w0 g p a A w many (h.fin 6) c (List.replicate many va0) false e w':=by
 have HC:Hid (CalAt w0 w a c A cap):=H
 have HH:Hid (Hs w0 g w p h):=hH
 have c9:=H.cells.c9
 have hcap:=H.cap
 have HMU:Hid (h.must false=h.fin 6):=rfl
 have HMB:Hid (h.mustB false=false):=rfl
 clear H hH ho
 generalize hL:c.stk.length=L at c9 hm hcap
 clear hL
 have hd:decide (many≤L)=false:=decide_eq_false (by omega)
 have hmk:=make_va many (by omega)
 go_enter Tryz.func56,Tryz.ntmps56
 go_wp2_with (go_at_call 55;refine (must_any w0 g k p h false _ HH.out).mono ?_;rintro e w1 ⟨he,h1,f1⟩;rw [HMB.out] at he;subst he;rw [HMU.out] at h1)
 go_ret
 have hbs:=h1.base
 have hlb:a.lb<w1.heap.size:=lt_some (HC.out.fr k f1).loc.blk
 have F:Fr w0.heap.size g.T w1 (w1.alloc (.cells (vaCells (List.replicate many va0)).toArray 62)):=(Fr.refl _ _ _).alloc hbs _
 exact ⟨_,_,cap,rfl,(LocBox.new w1 (List.replicate many va0) (by unfold maxLen;simp;omega)).stk (by omega),h1.cf ((Cf.refl _ _ _).alloc hbs _),(HC.out.fr k f1).fr k F,(f1.trans F).fq,fun h=>by simp at h⟩
theorem take_any (w0:World) (g:Ad) (k:Tk g.T) (p:Nat) (h:Hp) (a:Ca) (c:Cal) (many:Nat) (w:World) (A:Option Addr) (cap:Nat) (hH:Hs w0 g w p h) (H:CalAt w0 w a c A cap) (ho:h.over=false) (hm:many≤4) (hs:c.stk.length≤1000) :
  Calls Tryz.prog 56 #[.pointer (some ⟨p,0,none⟩),.pointer (some ⟨a.q,0,none⟩),.int .i64 (many:Int)] w fun e w' =>
   TakeEnd w0 g p a A w many (h.must (c.has many)) (c.cut many) (c.top many) (c.has many) e w':=by
 by_cases hl:many≤c.stk.length
 ·have e:h.must (c.has many)=h:=by unfold Hp.must;rw [if_pos (has_le hl)]
  rw [e,has_le hl]
  exact take_yes w0 g k p h a c many w A cap hH H ho hl hs
 ·have e:h.must (c.has many)=h.fin 6:=by unfold Hp.must Cal.has;rw [if_neg (by simpa using hl)]
  have e1:c.top many=List.replicate many va0:=by unfold Cal.top;rw [if_neg hl]
  have e2:c.cut many=c:=by unfold Cal.cut;rw [if_neg hl]
  have e3:c.has many=false:=by unfold Cal.has;exact decide_eq_false hl
  rw [e,e1,e2,e3]
  exact take_no w0 g k p h a c many w A cap hH H ho (by omega) hm
theorem StkAt.news {lb:Nat} {w:World} {b off:Nat} {l:List Va} (h:StkAt lb w (some ⟨b,off,none⟩) l) (hl:0<l.length):∀j u,(vaCells l)[j]?=some u→w.cell? ((⟨b,off,none⟩:Addr).add j)=some u:=by
 rcases h with h|⟨b',off',cs,f,h1,h2,h3,h4⟩
 ·omega
 simp only [Option.some.injEq,Addr.mk.injEq] at h1
 obtain ⟨rfl,rfl,-⟩:=h1
 intro j u hu
 have hj:j<l.length*2:=by
  rw [←vaCells_length]
  exact (List.getElem?_eq_some_iff.mp hu).1
 have e:(⟨b,off,none⟩:Addr).add j=⟨b,off+j,none⟩:=by simp [Addr.add]
 rw [e,cell_blk h2]
 have hx:=va_cells l (j/2) (by omega)
 have hy:=h4 (j/2) (by omega)
 have hm:j=j/2*2∨j=j/2*2+1:=by omega
 rcases hm with hm|hm
 ·have e2:off+j=off+j/2*2:=by omega
  rw [hm,hx.1] at hu
  rw [e2,hy.1];exact hu
 ·have e2:off+j=off+j/2*2+1:=by omega
  rw [hm,hx.2] at hu
  rw [e2,hy.2];exact hu
theorem step_put1 {ops:Array Oper} {o:Oper} {a:Act} {W:World} {K:Act→World→Prop} {Q:Exit→Act→World→Prop} {E:Prop} (hgd:o.guard=none) (s x:Operand)
  (ho:o.op=.call { callee:=.builtin .append,args:=#[s,x],argTypes:=#[58,58] })
  (base B:Nat) (hs:a.eval s=.slice (some ⟨B,0,none⟩) 0 0) (hB:W.heap[B]?=some (.cells #[] 62 (0,0))) (hb:base≤B)
  (A:Option Addr) (n cap lb:Nat) (l:List Va) (hx:a.eval x=.slice A n cap) (hn:l.length=n) (hst:StkAt lb W A l) (hl:n≤1000)
  (h:∀v' w',w'.ownsRow base 62 2 v' n (vaCells l)→W.grownBy w' (some B)→v'.ownBlock=some B∨v'.ownBlock=some W.heap.size→K (a.put o.dst v') w') :
  if Region.wanted o (yielded ops a.tmps)=true then Oper.wp Tryz.prog o a W K Q else E:=by
 obtain ⟨i,hi,hz,hsz,hby⟩:=info_parts info_va3
 have hw:Region.wanted o (yielded ops a.tmps)=true:=by simp [Region.wanted,hgd]
 rw [if_pos hw]
 have hBlt:=lt_some hB
 have hown:W.ownsRow base 62 2 (.slice (some ⟨B,0,none⟩) 0 0) 0 []:=⟨rfl,Or.inr ⟨B,0,#[],rfl,hb,hB,Nat.le_refl _,by unfold maxLen;omega,rfl,rfl⟩⟩
 by_cases h0:n=0
 ·have hl0:l=[]:=List.eq_nil_of_length_eq_zero (by omega)
  subst hl0
  subst h0
  have hsrc:Src Tryz.prog i.size 58 (.slice A 0 cap) 0 [] W:=by
   cases A with
   | none=>exact Src.ofNil W Tryz.underlying58 cap
   | some ad=>exact Src.ofSlice W Tryz.underlying58 ad 0 cap [] (by simp) (by simp) (by simp)
  have hr:=run_append_nothing (P:=Tryz.prog) W 58 58 o.type 62 i Tryz.underlying58 hi (some ⟨B,0,none⟩) 0 0 (Nat.le_refl _) (.slice A 0 cap) hsrc
  unfold Oper.wp execOp
  simp only [ho,resolve,invoke,builtin,Sem.run_bind,Sem.run_pure,Result.andThen_ok,List.map_toArray,List.map_cons,List.map_nil,hs,hx,hr]
  exact h _ _ hown ⟨rfl,rfl,rfl,Nat.le_refl _,fun _ _ _=>rfl⟩ (Or.inl rfl)
 ·rcases hst with h1|⟨b,off,cs,f,rfl,h2,h3,h4⟩
  ·omega
  obtain ⟨v',w',hr,o1,o2,-,o3⟩:=run_append_own_at (P:=Tryz.prog) W base 58 o.type 62 i _ 2 16 Tryz.underlying58 hi hz hsz hby rfl (by omega)
   (.slice (some ⟨B,0,none⟩) 0 0) 0 [] hown ⟨b,off,none⟩ n cap (vaCells l) (by rw [vaCells_length,hn])
   (StkAt.news (Or.inr ⟨b,off,cs,f,rfl,h2,h3,h4⟩:StkAt lb W (some ⟨b,off,none⟩) l) (by omega)) (vaCells_one l) (by unfold maxLen;omega) (by omega) (by omega)
  unfold Oper.wp execOp
  simp only [ho,resolve,invoke,builtin,Sem.run_bind,Sem.run_pure,Result.andThen_ok,List.map_toArray,List.map_cons,List.map_nil,hs,hx,hr]
  exact h _ _ (by simpa using o1) o2 o3
theorem blk_at {w:World} {b:Nat} {cs:Array Value} {t:TypeId} (hb:b=w.heap.size):(w.alloc (.cells cs t)).heap[b]?=some (.cells cs t (0,0)):=by subst hb;exact blk_new _ _ _
theorem blk_up {w:World} {b:Nat} {o o':Obj} (hb:b<w.heap.size) (h:w.heap[b]?=some o):(w.alloc o').heap[b]?=some o:=(Below.heap_alloc _ _ _ hb).trans h
theorem bl_grown {W0 W w1:World} (h:Bl W0 W) {row:Option Nat} (hg:W.grownBy w1 row) (hr:∀k,row=some k→W0.heap.size≤k):Bl W0 w1:=Below.grown h hg h.size hr
theorem Hs.old {w0 w w':World} {g:Ad} {p:Nat} {h:Hp} (H:Hs w0 g w p h) (hb:Bl w w'):Hs w0 g w' p h:=by
 obtain ⟨vo,vx,hv,H⟩:=H
 exact ⟨vo,vx,hv,H.old hb⟩
theorem CalAt.old {w0 w w':World} {a:Ca} {c:Cal} {A:Option Addr} {cap:Nat} (h:CalAt w0 w a c A cap) (hb:Bl w w'):CalAt w0 w' a c A cap :=
 ⟨h.own,h.ownl,(hb.block _ (lt_some h.blk)).trans h.blk,⟨(hb.block _ (lt_some h.loc.blk)).trans h.loc.blk,h.loc.len⟩,h.stk.keep fun b cs f e _=>(hb.block _ (lt_some e)).trans e,h.me,h.cap⟩
theorem own_stk {w:World} {base lb n:Nat} {b cap:Nat} {l:List Va} (h:w.ownsRow base 62 2 (.slice (some ⟨b,0,none⟩) n cap) n (vaCells l)) (hl:lb<base) (hn:n=l.length):StkAt lb w (some ⟨b,0,none⟩) l∧l.length≤cap:=by
 subst hn
 rcases h.2 with ⟨h1,h2⟩|⟨gb,cp,cur,h1,h2,h3,h4,h5,h6,h7⟩
 ·simp at h1
 ·simp at h1
  obtain ⟨rfl,rfl⟩:=h1
  refine ⟨Or.inr ⟨b,0,cur,(0,0),rfl,h3,by omega,fun i hi=>?_⟩,h4⟩
  have hv:=va_cells l i hi
  rw [←h7] at hv
  rw [List.getElem?_take,if_pos (by omega),List.getElem?_take,if_pos (by omega)] at hv
  simpa using hv
theorem size_at (A:Option Addr) (c n:Nat) (l:List Va) (w:World) (hl:VasAt w A l) (hb:l.length≤1000000) (hn:n=l.length) :
  Calls Tryz.prog 53 #[.slice A n c] w fun e w'=>e=.returned (.int .i64 (sizP l:Nat))∧w'=w:=by
 subst hn
 exact size_any A c l w hl hb
theorem put_done {w0:World} {g:Ad} (k:Tk g.T) {p:Nat} {h:Hp} {a:Ca} {c:Cal} {v:Va} {w w2:World} {A:Option Addr} {cap gg cap2:Nat} (HH:Hs w0 g (w.alloc (vaO v)) p h) (HC:CalAt w0 (w.alloc (vaO v)) a c A cap) (hlb:a.lb<w.heap.size) (hbs:w0.heap.size≤w.heap.size)
  (hb:Bl (w.alloc (vaO v)) w2) (ho:w2.ownsRow (w.heap.size+1) 62 2 (.slice (some ⟨gg,0,none⟩) (c.stk.length+1) cap2) (c.stk.length+1) (vaCells c.stk++[.int .i64 v.kind,.int .i64 v.n])) :
  CalAt w0 (w2.setCell ⟨a.q,9,none⟩ (.slice (some ⟨gg,0,none⟩) (c.stk.length+1) cap2)) a (c.put v) (some ⟨gg,0,none⟩) cap2 ∧
  Hs w0 g (w2.setCell ⟨a.q,9,none⟩ (.slice (some ⟨gg,0,none⟩) (c.stk.length+1) cap2)) p h ∧
  Fq w0.heap.size g.T a w (w2.setCell ⟨a.q,9,none⟩ (.slice (some ⟨gg,0,none⟩) (c.stk.length+1) cap2)):=by
 have e:vaCells c.stk++[.int .i64 v.kind,.int .i64 v.n]=vaCells (c.stk++[v]):=by rw [vaCells_append];rfl
 rw [e] at ho
 obtain ⟨hs,hc⟩:=own_stk ho (lb:=a.lb) (by omega) (by simp)
 have H2:=HC.old hb
 have h1:=H2.setStk hs hc
 have el:(c.stk++[v]).length=c.stk.length+1:=by simp
 rw [el] at h1
 refine ⟨h1,(HH.old hb).cf (H2.cf k 9 _),Fq.trans (Fr.fq ?_) (H2.fq _ 9 _)⟩
 exact Fr.old hbs (Bl.trans ((Bl.refl w).alloc _) hb)
theorem cput_any (w0:World) (g:Ad) (k:Tk g.T) (p:Nat) (h:Hp) (a:Ca) (c:Cal) (v:Va) (w:World) (hH:Hs w0 g w p h) (hC:Cs w0 w a c) (hs:c.stk.length≤1000) :
  Calls Tryz.prog 60 #[.pointer (some ⟨p,0,none⟩),.pointer (some ⟨a.q,0,none⟩),vaV v] w fun e w' =>
   e=.returned (.tuple #[])∧Hs w0 g w' p (h.putH c v)∧Cs w0 w' a (c.put v)∧Fq w0.heap.size g.T a w w':=by
 have hbs:=hH.base
 have HF:Hid (Fr w0.heap.size g.T w (w.alloc (vaO v))):=(Fr.refl _ _ w).alloc hbs _
 have HH:Hid (Hs w0 g (w.alloc (vaO v)) p h):=hH.cf ((Cf.refl _ _ w).alloc hbs _)
 have HV:Hid (VaBox (w.alloc (vaO v)) w.heap.size v):=VaBox.new w v
 obtain ⟨A,cap,H0⟩:=hC
 have hq0:a.q<w.heap.size:=lt_some H0.blk
 have hlb:a.lb<w.heap.size:=lt_some H0.loc.blk
 have H:=H0.fr k HF.out
 have HC:Hid (CalAt w0 (w.alloc (vaO v)) a c A cap):=H
 have c9:=H.cells.c9
 have f9:=H.free 9
 have v0:=HV.out.c0
 have v1:=HV.out.c1
 clear H hH H0
 obtain ⟨i0,hi0,hz0,hz1,hz2⟩:=info_parts info_va3
 have hsz:(w.alloc (vaO v)).heap.size=w.heap.size+1:=by simp
 have k1:a.q<w.heap.size+1:=by omega
 have k2:a.q<w.heap.size+1+1:=by omega
 have k3:a.q<w.heap.size+1+1+1:=by omega
 go_enter Tryz.func60,Tryz.ntmps60
 go_wp2
 have HS:Hid (∀W,Bl (w.alloc (vaO v)) W→StkAt a.lb W A c.stk):=fun W hb=>HC.out.stk.keep fun b cs f e _=>(hb.block _ (lt_some e)).trans e
 have HQ:Hid (∀W,Bl (w.alloc (vaO v)) W→W.cell? ⟨a.q,9,none⟩=some (.slice A c.stk.length cap)∧W.frozen? ⟨a.q,9,none⟩=false∧W.cell? ⟨w.heap.size,0,none⟩=some (.int .i64 v.kind)∧W.cell? ⟨w.heap.size,1,none⟩=some (.int .i64 v.n)) :=
  fun W hb=>⟨hb.cell HC.out.cells.c9,(Below.frozen hb (p:=⟨a.q,9,none⟩) (by simp;omega)).trans (HC.out.free 9),hb.cell HV.out.c0,hb.cell HV.out.c1⟩
 go_region_law (first
  | (refine step_put1 rfl _ _ rfl (w.heap.size+1) _ rfl (by first|exact blk_at (by simp)|exact blk_up (by simp) (blk_at (by simp))) (by simp) A c.stk.length cap a.lb c.stk rfl rfl (HS.out _ (by repeat (first|exact Bl.refl _|refine Bl.alloc ?_ _|refine Bl.drew ?_))) hs ?_;intro v1 w1 own1 hg1 hat1;have hb1:Bl (w.alloc (vaO v)) w1:=(bl_grown (by repeat (first|exact Bl.refl _|refine Bl.alloc ?_ _|refine Bl.drew ?_)) hg1 (by intro k hk;simp at hk;rw [hsz];omega));have ha1:∀k,v1.ownBlock=some k→w.heap.size+1≤k:=(by intro k hk;rw [hk] at hat1;simp at hat1;omega);obtain ⟨q9,z9,r0,r1⟩:=HQ.out w1 hb1)
  | (refine step_append_lies _ rfl _ _ _ rfl (w.heap.size+1) 62 i0 _ 2 16 Tryz.underlying58 hi0 hz0 hz1 hz2 rfl (by omega) v1 c.stk.length (vaCells c.stk) rfl (by first|exact own1|exact own1.alloc _) _ 1 1 [.int .i64 v.kind,.int .i64 v.n] rfl rfl (World.news_of_block (cs:=#[.int .i64 v.kind,.int .i64 v.n]) (t:=62) (fr:=(0,0)) (by first|exact blk_at rfl|(rw [hg1.block _ (by simp) (by simp)];first|exact blk_at (by simp)|exact blk_up (by simp) (blk_at (by simp))))) (by simp [Value.oneCell']) (by omega) (by unfold maxLen;omega) (by omega) (by have:=hb1.size;rw [hsz] at this;simp;omega) _ rfl ?_;intro gg cap2 w2 own2 hgrow hat hlt;have hb2:Bl (w.alloc (vaO v)) w2:=(bl_grown (by first|exact hb1|exact hb1.alloc _) hgrow (by rw [hsz];exact ha1));obtain ⟨p9,y9,-,-⟩:=HQ.out w2 hb2))
 all_goals
  obtain ⟨HCF,HHF,HFQ⟩:=put_done k HH.out HC.out hlb hbs hb2 own2
  have HCF':Hid (CalAt w0 (w2.setCell ⟨a.q,9,none⟩ (.slice (some ⟨gg,0,none⟩) (c.stk.length+1) cap2)) a (c.put v) (some ⟨gg,0,none⟩) cap2):=HCF
  have HHF':Hid (Hs w0 g (w2.setCell ⟨a.q,9,none⟩ (.slice (some ⟨gg,0,none⟩) (c.stk.length+1) cap2)) p h):=HHF
  have HFQ':Hid (Fq w0.heap.size g.T a w (w2.setCell ⟨a.q,9,none⟩ (.slice (some ⟨gg,0,none⟩) (c.stk.length+1) cap2))):=HFQ
  have s3:=HCF.cells.c3
  have hms:(c.put v).m.stack=c.m.stack:=rfl
  rw [hms] at s3
  clear hms HCF HHF HFQ own2 hgrow hat hlt
  cases hst:h.stops
  ·go_wp2_with (first
    | (go_at_call 53;refine (size_at _ _ _ (c.stk++[v]) _ (HCF'.out.stk.vas (by unfold maxLen;simp [Cal.put];omega)) (by simp;omega) (by simp)).mono ?_;rintro e w3 ⟨rfl,hw3⟩;rw [hw3];clear hw3 w3)
    | (go_at_call 112;refine (stops_any w0 g p h _ HHF'.out).mono ?_;rintro e w4 ⟨he,hw4⟩;rw [hst] at he;subst he;rw [hw4];clear hw4 w4)
    | (go_at_call 55;refine (must_any w0 g k p h _ _ HHF'.out).mono ?_;rintro e w5 ⟨rfl,h5,f5⟩))
   go_end0
   refine ⟨rfl,?_,⟨_,_,HCF'.out.fr k f5⟩,HFQ'.out.trans f5.fq⟩
   have hr:h.putH c v=h.must (decide ((sizP (c.stk++[v]):Int)≤c.m.stack)):=by unfold Hp.putH;rw [if_neg (by rw [hst];decide)]
   rw [hr]
   exact h5
  ·go_wp2_with (first
    | (go_at_call 53;refine (size_at _ _ _ (c.stk++[v]) _ (HCF'.out.stk.vas (by unfold maxLen;simp [Cal.put];omega)) (by simp;omega) (by simp)).mono ?_;rintro e w3 ⟨rfl,hw3⟩;rw [hw3];clear hw3 w3)
    | (go_at_call 112;refine (stops_any w0 g p h _ HHF'.out).mono ?_;rintro e w4 ⟨he,hw4⟩;rw [hst] at he;subst he;rw [hw4];clear hw4 w4))
   go_end0
   have hr:h.putH c v=h:=by unfold Hp.putH;rw [if_pos hst]
   rw [hr]
   exact ⟨rfl,HHF'.out,⟨_,_,HCF'.out⟩,HFQ'.out⟩
end Go.Proofs.YtgiiapenmjollaaGreat
