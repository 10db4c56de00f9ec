import Derived.Test.YtgiiapenmjollabGreatRsae
namespace Go.Proofs.YtgiiapenmjollabGreat
set_option linter.all false
set_option maxHeartbeats 40000000
set_option maxRecDepth 100000
open Go.RowKit
theorem info_he:(Tryz.prog.info? 285).map (fun i=>(i.zero,i.size,i.bytes))=some (some (.agg #[.int .i64 0,.int .i64 0,.int .i64 0,.int .i64 0]),4,32):=by kernel_rfl
theorem info_ob:(Tryz.prog.info? 152).map (fun i=>(i.zero,i.size,i.bytes))=some (some (.agg #[.int .i64 0,.slice none 0 0]),2,32):=by kernel_rfl
abbrev vzO:Obj:=.cells #[.int .i64 0,.int .i64 0] 82
structure Mk (w wr:World) (c:Int) (u:Value) (l:List Hel):Prop where
 bl:Bl w wr
 res:VaBox wr w.heap.size va0
 box:wr.heap[w.heap.size+1]?=some (.cells #[.int .i64 c,u] 152 (0,0))
 row:wr.ownsRow (w.heap.size+2) 285 4 u l.length (heCells l)
theorem Mk.lt {w wr:World} {c:Int} {u:Value} {l:List Hel} (h:Mk w wr c u l):w.heap.size+1<wr.heap.size:=lt_some h.box
theorem Mk.alloc {w wr:World} {c:Int} {u:Value} {l:List Hel} (h:Mk w wr c u l) (o:Obj):Mk w (wr.alloc o) c u l :=
 ⟨h.bl.alloc o,⟨(Below.heap_alloc _ _ _ (lt_some h.res.blk)).trans h.res.blk⟩,(Below.heap_alloc _ _ _ h.lt).trans h.box,h.row.alloc o⟩
theorem Mk.far {w wr:World} {c:Int} {u:Value} {l:List Hel} (h:Mk w wr c u l) {b i:Nat} {cs:Array Value} {t:TypeId} {f:Nat×Nat} (hb:wr.heap[b]?=some (.cells cs t f)) (ht:t≠285) (h2:w.heap.size+1<b) (v:Value):Mk w (wr.setCell ⟨b,i,none⟩ v) c u l :=
 ⟨h.bl.setCell (by show w.heap.size≤b;omega) v,⟨by rw [block_far (by omega)];exact h.res.blk⟩,by rw [block_far (by omega)];exact h.box,row_far h.row hb ht v⟩
theorem Mk.more {w wr w2:World} {c:Int} {u u':Value} {l:List Hel} {x:Hel} (h:Mk w wr c u l) (hg:wr.grownBy w2 u.ownBlock)
  (ho:w2.ownsRow (w.heap.size+2) 285 4 u' (l.length+1) (heCells l++heCells [x])):Mk w (w2.setCell ⟨w.heap.size+1,1,none⟩ u') c u' (l++[x]):=by
 have hx:=grown_keep hg h.row h.box (by decide)
 refine ⟨?_,⟨by rw [block_far (by omega)];exact grown_keep hg h.row h.res.blk (by decide)⟩,by rw [block_set hx];rfl,?_⟩
 ·have hb:Bl w w2:=Below.trans h.bl (Below.mono (grown_base hg h.row h.lt) (by omega))
  exact hb.setCell (by show w.heap.size≤w.heap.size+1;omega) _
 ·have:=row_far (i:=1) ho hx (by decide) u'
  rw [heCells_append]
  simpa using this
theorem news_four (w6:World) (o o':Obj) (a b c d:Value) (t:TypeId):∀(j:Nat) (u:Value),[a,b,c,d][j]?=some u→(((w6.alloc o).alloc o').alloc (.cells #[a,b,c,d] t)).cell? ((⟨w6.heap.size+1+1,0,none⟩:Addr).add j)=some u:=by
 have h2:((w6.alloc o).alloc o').heap.size=w6.heap.size+1+1:=by rw [World.size_alloc,World.size_alloc]
 intro j u hj
 have hb:=blk_new ((w6.alloc o).alloc o') #[a,b,c,d] t
 rw [h2] at hb
 rw [show ((⟨w6.heap.size+1+1,0,none⟩:Addr).add j)=⟨w6.heap.size+1+1,j,none⟩ from by simp [Addr.add];intro h;exact h.symm,cell_blk hb]
 simpa using hj
theorem Mk.start (w:World) (c:Int):Mk w ((w.alloc vzO).alloc (.cells #[.int .i64 c,.slice none 0 0] 152)) c (.slice none 0 0) []:=by
 have h1:(w.alloc vzO).heap.size=w.heap.size+1:=World.size_alloc ..
 refine ⟨((Bl.refl w).alloc _).alloc _,⟨?_⟩,?_,World.ownsRow_nil _ _ _ _⟩
 ·rw [Below.heap_alloc _ _ _ (by omega)];exact blk_new _ _ _
 ·rw [←h1];exact blk_new _ _ _
theorem new_any (w0:World) (g:Ad) (k:Tk g.T) (p:Nat) (h:Hp) (c:Int) (w:World) (hH:Hs w0 g w p h) (hA:ClsAt w0 g.A h.file.classes) (ht:Tree h.file.classes) (hc:0≤c∧c<h.file.classes.length)
  (hcl:h.file.classes.length≤12) (hf:∀d,d<h.file.classes.length→(nth cl0 h.file.classes d).fields.length≤6) :
  Calls Tryz.prog 230 #[.pointer (some ⟨p,0,none⟩),.int .i64 c] w fun e w'=>e=.returned (vaV h.newV)∧Hs w0 g w' p (h.new c)∧Fr w0.heap.size g.T w w':=by
 obtain ⟨i0,hi0,hz0,hz1,hz2⟩:=info_parts info_he
 obtain ⟨i1,hi1,hy0,hy1,hy2⟩:=info_parts info_ob
 have hbs:=hH.base
 obtain ⟨vo,vx,hv,H⟩:=hH
 have HA:Hid (HpAt w0 g w p h vo vx hv):=H
 have hp0:=lt_some H.blk
 have HW1:Hid (Bl w (w.alloc vzO)):=(Bl.refl w).alloc _
 have HR1:Hid (VaBox (w.alloc vzO) w.heap.size va0):=VaBox.new w va0
 have c2:=(H.old HW1.out).cells.c2
 have HT:Hid (Tree h.file.classes):=ht
 have HC:Hid (ClsAt w g.A h.file.classes):=hA.bl H.bl
 have HLE:Hid (∀q,q≤h.file.classes.length→(heldTo h.file.classes c.toNat q).length≤6*q):=heldTo_le hf c.toNat
 have HFL:Hid (∀d,d<h.file.classes.length→(nth cl0 h.file.classes d).fields.length≤6):=hf
 clear H hA ht hf
 by_cases hfull:100≤h.objs.length
 ·have e0:h.full=true:=decide_eq_true hfull
  have e1:h.newV=va0:=by unfold Hp.newV;rw [if_pos e0]
  have e2:h.new c=h.fin 4:=by unfold Hp.new;rw [if_pos e0]
  rw [e1,e2]
  clear e0 e1 e2
  obtain ⟨gb,cap,hvo,-,hom,-⟩:=obs_cell HA.out.obs (by omega)
  rw [hvo] at c2
  unfold maxLen at hom
  go_enter Tryz.func230,Tryz.ntmps230
  go_wp2_with (go_at_call 158;refine (end_any w0 g k p h 4 _ ⟨vo,vx,hv,HA.out.old HW1.out⟩).mono ?_;rintro e w1 ⟨rfl,h1,f1⟩;have b1:=HR1.out.keep k f1;have r0:=b1.c0;have r1:=b1.c1;have r2:=b1.fr 0;have r3:=b1.fr 1;have HB1:Hid (VaBox w1 w.heap.size va0):=b1;clear b1)
  (try simp only [Exit.inBlock,Exit.then])
  refine bodyPost_ret (results_cell_row rfl _ _ w.heap.size _ _ _ _ rfl (HB1.out.set va0).blk Tryz.underlying82 rfl info_va) rfl ?_
  exact ⟨rfl,h1.cf (HB1.out.cf k hbs _ _),((((Fr.old hbs HW1.out).trans f1).new (Nat.le_refl _) hbs _).new (Nat.le_refl _) hbs _)⟩
 ·have e0:h.full=false:=decide_eq_false hfull
  have e1:h.newV=⟨3,(h.objs.length:Nat)⟩:=by unfold Hp.newV;rw [if_neg (by rw [e0];decide)]
  have e2:h.new c={ h with objs:=h.objs++[⟨c,newHeld h.file.classes c.toNat⟩] }:=by unfold Hp.new;rw [if_neg (by rw [e0];decide)]
  rw [e1,e2,newHeld_to]
  clear e0 e1 e2
  obtain ⟨A0,cap0,rfl⟩:∃A0 cap0,vo=.slice A0 h.objs.length cap0:=by
   rcases HA.out.obs.row.2 with ⟨e,e'⟩|⟨gb,cap,cur,e,-⟩
   ·exact ⟨none,0,by rw [e,e']⟩
   ·exact ⟨_,cap,e⟩
  have dl:decide ((100:Int)≤(h.objs.length:Int))=false:=decide_eq_false (by omega)
  go_enter Tryz.func230,Tryz.ntmps230
  go_wp2
  go_loopw [6] (fun i wr=>∃(q:Nat) (u:Value),q≤h.file.classes.length∧i=.int .i64 q∧Hid (Mk w wr c u (heldTo h.file.classes c.toNat q))) (fun i _=>h.file.classes.length-(intOf i).toNat)
  case atStart=>exact ⟨0,.slice none 0 0,Nat.zero_le _,rfl,Mk.start w c⟩
  case round =>
   obtain ⟨q,u,hq,rfl,hM⟩:=hrel
   obtain ⟨w5,hw5⟩:∃w5,w5=wr:=⟨wr,rfl⟩
   subst hw5
   clear c2
   have c0:=(HA.out.old hM.out.bl).cells.c0
   by_cases hql:q<h.file.classes.length
   ·have hcls:=HC.out.bl hM.out.bl
    have hcI:clsI h.file.classes c (q:Int)=true:=decide_eq_true (by omega)
    cases hb:belN h.file.classes c.toNat q
    ·have HM2:Hid (Mk w w5 c u (heldTo h.file.classes c.toNat (q+1))):=by rw [heldTo_not hb];exact hM
     have hans:(clsI h.file.classes c (q:Int)&&belN h.file.classes c.toNat (q:Int).toNat)=false:=by rw [hcI,Int.toNat_natCast,hb];rfl
     clear hcI hb hM
     have HCL:Hid (ClsAt w5 g.A h.file.classes):=hcls
     clear hcls
     go_wp2_with (go_at_call 160;refine (rbelow_any _ _ _ _ _ _ HCL.out HT.out).mono ?_;rintro e w6 ⟨he,hw6⟩;rw [hans] at he;subst he;rw [hw6];clear hw6 w6)
     go_roundw
     case rel=>exact ⟨q+1,u,by omega,by go_num,HM2⟩
     case measure=>simp [intOf];omega
    ·have HIS:Hid (heldTo h.file.classes c.toNat (q+1)=heldTo h.file.classes c.toNat q++fieldsTo h.file.classes q (nth cl0 h.file.classes q).fields.length):=heldTo_is hb
     have hans:(clsI h.file.classes c (q:Int)&&belN h.file.classes c.toNat (q:Int).toNat)=true:=by rw [hcI,Int.toNat_natCast,hb];rfl
     have HCL:Hid (ClsAt w5 g.A h.file.classes):=hcls
     clear hcI hb hcls
     go_wp2_with (go_at_call 160;refine (rbelow_any _ _ _ _ _ _ HCL.out HT.out).mono ?_;rintro e w6 ⟨he,hw6⟩;rw [hans] at he;subst he;rw [hw6];clear hw6 w6)
     go_loopw [7] (fun i wr=>∃(j:Nat) (u:Value),j≤(nth cl0 h.file.classes q).fields.length∧i=.int .i64 j∧Hid (Mk w wr c u (heldTo h.file.classes c.toNat q++fieldsTo h.file.classes q j))) (fun i _=>(nth cl0 h.file.classes q).fields.length-(intOf i).toNat)
     case atStart=>exact ⟨0,u,Nat.zero_le _,rfl,by rw [fieldsTo_zero,List.append_nil];exact hM⟩
     case round =>
      clear hM c0 HCL
      obtain ⟨j,u,hj,rfl,hM⟩:=hrel
      rename World=>w6
      have c0:=(HA.out.old hM.out.bl).cells.c0
      have hcls:=HC.out.bl hM.out.bl
      rcases hcls.2 with h0|⟨b,off,hgA,hcell⟩
      ·omega
      obtain ⟨-,-,A',c',hfl,hty⟩:=hcell q hql
      rw [hgA] at c0
      have hfm:=hty.1
      have hcm:=hcls.1
      unfold maxLen at hfm hcm
      by_cases hjl:j<(nth cl0 h.file.classes q).fields.length
      ·rcases hty.2 with h0|⟨b',off',hA',htc⟩
       ·omega
       obtain ⟨t1,t2,-,-⟩:=htc j hjl
       rw [hA'] at hfl
       have hlen:=HLE.out q (by omega)
       have hfl6:=HFL.out q hql
       have hlw:=hM.out.lt
       have hln:(heldTo h.file.classes c.toNat q++fieldsTo h.file.classes q j).length≤78:=by rw [List.length_append,fieldsTo_length];omega
       have HSU:Hid (fieldsTo h.file.classes q (j+1)=fieldsTo h.file.classes q j++[⟨(q:Nat),(j:Nat),initV (nth ty0 (nth cl0 h.file.classes q).fields j)⟩]):=fieldsTo_succ _ _ _
       have hj0:(0:Int)≤(j:Int):=by omega
       have hj1:(j:Int)<((nth cl0 h.file.classes q).fields.length:Int):=by omega
       have hq1:(q:Int)<(h.file.classes.length:Int):=by omega
       generalize hT:nth ty0 (nth cl0 h.file.classes q).fields j=t at *
       generalize hL:heldTo h.file.classes c.toNat q++fieldsTo h.file.classes q j=L at *
       have HLL:Hid (heldTo h.file.classes c.toNat q++fieldsTo h.file.classes q j=L):=hL
       have hne:w.heap.size≠w6.heap.size:=by omega
       have box1:∀o o',((w6.alloc o).alloc o').cell? ⟨w.heap.size+1,1,none⟩=some u:=fun o o'=>by rw [cell_blk ((hM.out.alloc o).alloc o').box];rfl
       clear hcell hty hcls htc hT hL hA' hgA
       by_cases hk3:t.kind=3
       ·have HIV:Hid (initV t=⟨3,-1⟩):=by unfold initV;rw [if_pos hk3,hk3];rfl
        rw [hk3] at t1
        clear hk3
        have M4:Hid (Mk w (((w6.alloc (.cells #[.int .i64 3,.int .i64 t.cls] 46)).alloc (.cells #[.int .i64 3,.int .i64 (-1)] 82)).alloc (.cells #[.int .i64 (q:Int),.int .i64 (j:Int),.int .i64 3,.int .i64 (-1)] 285)) c u L):=((hM.out.alloc _).alloc _).alloc _
        have HNW:Hid (∀(i:Nat) (x:Value),[Value.int .i64 (q:Int),.int .i64 (j:Int),.int .i64 3,.int .i64 (-1)][i]?=some x→(((w6.alloc (.cells #[.int .i64 3,.int .i64 t.cls] 46)).alloc (.cells #[.int .i64 3,.int .i64 (-1)] 82)).alloc (.cells #[.int .i64 (q:Int),.int .i64 (j:Int),.int .i64 3,.int .i64 (-1)] 285)).cell? ((⟨w6.heap.size+1+1,0,none⟩:Addr).add i)=some x):=news_four w6 _ _ _ _ _ _ _
        clear hM
        go_wp2_with (at_builtin;refine wpList_append_lies _ rfl (.tmp 74) (.tmp 79) 150 rfl (w.heap.size+2) 285 i0 _ 4 32 Tryz.underlying150 hi0 hz0 hz1 hz2 rfl (by omega) u L.length (heCells L) (by rfl) (by exact M4.out.row) ⟨w6.heap.size+1+1,0,none⟩ 1 1 [.int .i64 (q:Int),.int .i64 (j:Int),.int .i64 3,.int .i64 (-1)] (by rfl) (by rfl) (by exact HNW.out) (by simp [Value.oneCell']) (by omega) (by unfold maxLen;omega) (by omega) (by simp;omega) (w6.heap.size+1+1+1) (by simp) ?_;intro gg cap w7 hown1 hgrow hat hlt;have hx7:=grown_keep hgrow M4.out.row M4.out.box (by decide);have q7:w7.cell? ⟨w.heap.size+1,1,none⟩=some u:=(cell_blk hx7).trans rfl;have z7:=free_blk hx7 1;clear hx7)
        go_roundw
        case rel=>exact ⟨j+1,_,by omega,by go_num,by
         rw [HSU.out,←List.append_assoc,HLL.out]
         have:=M4.out.more (x:=⟨(q:Int),(j:Int),⟨3,(-1)⟩⟩) hgrow hown1
         rw [HIV.out]
         exact this⟩
        case measure=>simp [intOf];omega
       ·have HIV:Hid (initV t=⟨t.kind,0⟩):=by unfold initV;rw [if_neg hk3];rfl
        have k3:(t.kind==3)=false:=by simpa using hk3
        clear hk3
        have M4:Hid (Mk w (((w6.alloc (.cells #[.int .i64 t.kind,.int .i64 t.cls] 46)).alloc (.cells #[.int .i64 t.kind,.int .i64 0] 82)).alloc (.cells #[.int .i64 (q:Int),.int .i64 (j:Int),.int .i64 t.kind,.int .i64 0] 285)) c u L):=((hM.out.alloc _).alloc _).alloc _
        have HNW:Hid (∀(i:Nat) (x:Value),[Value.int .i64 (q:Int),.int .i64 (j:Int),.int .i64 t.kind,.int .i64 0][i]?=some x→(((w6.alloc (.cells #[.int .i64 t.kind,.int .i64 t.cls] 46)).alloc (.cells #[.int .i64 t.kind,.int .i64 0] 82)).alloc (.cells #[.int .i64 (q:Int),.int .i64 (j:Int),.int .i64 t.kind,.int .i64 0] 285)).cell? ((⟨w6.heap.size+1+1,0,none⟩:Addr).add i)=some x):=news_four w6 _ _ _ _ _ _ _
        clear hM
        go_wp2_with (at_builtin;refine wpList_append_lies _ rfl (.tmp 74) (.tmp 79) 150 rfl (w.heap.size+2) 285 i0 _ 4 32 Tryz.underlying150 hi0 hz0 hz1 hz2 rfl (by omega) u L.length (heCells L) (by rfl) (by exact M4.out.row) ⟨w6.heap.size+1+1,0,none⟩ 1 1 [.int .i64 (q:Int),.int .i64 (j:Int),.int .i64 t.kind,.int .i64 0] (by rfl) (by rfl) (by exact HNW.out) (by simp [Value.oneCell']) (by omega) (by unfold maxLen;omega) (by omega) (by simp;omega) (w6.heap.size+1+1+1) (by simp) ?_;intro gg cap w7 hown1 hgrow hat hlt;have hx7:=grown_keep hgrow M4.out.row M4.out.box (by decide);have q7:w7.cell? ⟨w.heap.size+1,1,none⟩=some u:=(cell_blk hx7).trans rfl;have z7:=free_blk hx7 1;clear hx7)
        go_roundw
        case rel=>exact ⟨j+1,_,by omega,by go_num,by
         rw [HSU.out,←List.append_assoc,HLL.out]
         have:=M4.out.more (x:=⟨(q:Int),(j:Int),⟨t.kind,0⟩⟩) hgrow hown1
         rw [HIV.out]
         exact this⟩
        case measure=>simp [intOf];omega
      ·obtain rfl:j=(nth cl0 h.file.classes q).fields.length:=by omega
       have HM2:Hid (Mk w w6 c u (heldTo h.file.classes c.toNat (q+1))):=by rw [HIS.out];exact hM
       clear hM hcell hty hcls HIS
       go_wp2
       go_roundw
       case rel=>exact ⟨q+1,u,by omega,by go_num,HM2⟩
       case measure=>simp [intOf];omega
   ·obtain rfl:q=h.file.classes.length:=by omega
    have c2:=(HA.out.old hM.out.bl).cells.c2
    have f2:=(HA.out.old hM.out.bl).free 2
    have HROW:Hid (w5.ownsRow w0.heap.size 152 2 (.slice A0 h.objs.length cap0) h.objs.length (obCells h.objs hv)):=(HA.out.old hM.out.bl).obs.row
    have x0:w5.cell? ⟨w.heap.size+1,0,none⟩=some (.int .i64 c):=by rw [cell_blk hM.out.box];rfl
    have x1:w5.cell? ⟨w.heap.size+1,1,none⟩=some u:=by rw [cell_blk hM.out.box];rfl
    have hl5:=hM.out.lt
    have hone:u.oneCell'=true:=by
     rcases hM.out.row.2 with ⟨rfl,-⟩|⟨gb,cap,cur,rfl,-⟩<;>rfl
    have hb5:w0.heap.size≤w5.heap.size:=by omega
    have hp5:p<w5.heap.size:=by omega
    have qc2:∀o,(w5.alloc o).cell? ⟨p,2,none⟩=some (.slice A0 h.objs.length cap0):=fun o=>((Bl.refl w5).alloc o).cell c2
    have hne1:w.heap.size≠p:=by omega
    have hne2:p≠w.heap.size:=by omega
    have HBLD:Hid (Bl w (w5.alloc (.cells #[.int .i64 c,u] 152)).drew):=(hM.out.bl.alloc _).drew
    have HRD:Hid ((w5.alloc (.cells #[.int .i64 c,u] 152)).drew.ownsRow w0.heap.size 152 2 (.slice A0 h.objs.length cap0) h.objs.length (obCells h.objs hv)):=(HROW.out.alloc _).drew
    have HVB:Hid (VaBox (w5.alloc (.cells #[.int .i64 c,u] 152)).drew w.heap.size va0):=⟨(hM.out.alloc _).res.blk⟩
    have HHE:Hid ((w5.alloc (.cells #[.int .i64 c,u] 152)).drew.ownsRow (w.heap.size+2) 285 4 u (heldTo h.file.classes c.toNat h.file.classes.length).length (heCells (heldTo h.file.classes c.toNat h.file.classes.length))):=(hM.out.row.alloc _).drew
    have HLT:Hid (∀i,i<h.objs.length→∀b,(nth hv0 hv i).ownBlock=some b→b<w.heap.size+2):=fun i hi b hb=>by have:=((HA.out.obs.held i hi).lt b hb).2;omega
    clear hM HROW
    go_wp2
    go_region_law ((refine step_append_lies _ (by rfl) _ _ _ (by rfl) w0.heap.size 152 i1 _ 2 32 Tryz.underlying76 hi1 hy0 hy1 hy2 rfl (by omega) (.slice A0 h.objs.length cap0) h.objs.length (obCells h.objs hv) (by rfl) (by exact HRD.out) ⟨w5.heap.size,0,none⟩ 1 1 [.int .i64 c,u] (by rfl) (by rfl) (World.news_of_block (cs:=#[.int .i64 c,u]) (t:=152) (fr:=(0,0)) (heap_alloc_new w5 _)) (by simp [hone];rfl) (by omega) (by unfold maxLen;omega) (by omega) (by simp;omega) (w5.heap.size+1) (by simp) ?_;intro gg cap w7 hown1 hgrow hat hlt;have hp2:=grown_keep hgrow HRD.out (HA.out.old HBLD.out).blk k.o;have q2:w7.cell? ⟨p,2,none⟩=some (.slice A0 h.objs.length cap0):=(cell_blk hp2).trans rfl;have z2:=free_blk hp2 2;have hr2:=grown_keep hgrow HRD.out HVB.out.blk (by decide);have s0:w7.cell? ⟨w.heap.size,0,none⟩=some (.int .i64 0):=(cell_blk hr2).trans rfl;have s1:w7.cell? ⟨w.heap.size,1,none⟩=some (.int .i64 0):=(cell_blk hr2).trans rfl;have s2:=free_blk hr2 0;have s3:=free_blk hr2 1;have HR7:Hid (VaBox w7 w.heap.size va0):=⟨hr2⟩;clear hp2 hr2))
    all_goals go_wp2
    all_goals
     (try simp only [Exit.inBlock,Exit.then])
     have hh:=HpAt.objsAdd (HA.out.old HBLD.out) k hgrow (o:=⟨c,heldTo h.file.classes c.toNat h.file.classes.length⟩) hown1 HHE.out (by omega) HLT.out
     have hr8:VaBox (w7.setCell ⟨p,2,none⟩ (.slice (some ⟨gg,0,none⟩) (h.objs.length+1) cap)) w.heap.size va0:=⟨by rw [block_far hne1];exact HR7.out.blk⟩
     refine bodyPost_ret (results_cell_row rfl _ _ w.heap.size _ _ _ _ rfl (hr8.set ⟨3,(h.objs.length:Nat)⟩).blk Tryz.underlying82 rfl info_va) rfl ?_
     exact ⟨rfl,⟨_,vx,_,hh.1.cf (hr8.cf k hbs _ _)⟩,((((Fr.old hbs HBLD.out).trans hh.2).new (Nat.le_refl _) hbs _).new (Nat.le_refl _) hbs _)⟩
structure Cw (w0:World) (g:Ad) (h:Hp):Prop where
 k:Tk g.T
 cls:ClsAt w0 g.A h.file.classes
 tree:Tree h.file.classes
 ge:4≤h.file.classes.length
 le:h.file.classes.length≤12
 fl:∀d,d<h.file.classes.length→(nth cl0 h.file.classes d).fields.length≤6
theorem raise_any (w0:World) (g:Ad) (p:Nat) (h:Hp) (c:Int) (w:World) (hH:Hs w0 g w p h) (C:Cw w0 g h) (hc:0≤c∧c<4) :
  Calls Tryz.prog 226 #[.pointer (some ⟨p,0,none⟩),.int .i64 c] w fun e w'=>e=.returned (.tuple #[])∧Hs w0 g w' p (h.raise c)∧Fr w0.heap.size g.T w w':=by
 have HH:Hid (Hs w0 g w p h):=hH
 have HC:Hid (Cw w0 g h):=C
 have hlen:=C.ge
 clear hH C
 generalize hV:h.newV=v
 have hr:h.raise c=if (h.new c).over=true then h.new c else { h.new c with thrown:=v.n }:=by unfold Hp.raise;rw [hV]
 rw [hr]
 cases ho:(h.new c).over
 ·rw [if_neg (by decide)]
  clear hr
  go_enter Tryz.func226,Tryz.ntmps226
  go_wp2_with (go_at_call 230;refine (new_any w0 g HC.out.k p h c _ HH.out HC.out.cls HC.out.tree (by omega) HC.out.le HC.out.fl).mono ?_;rintro e w1 ⟨he,h1,f1⟩;rw [hV] at he;subst he;have hb1:=h1.base;obtain ⟨vo,vx,hv,H⟩:=h1.cf ((Cf.refl _ _ w1).alloc hb1 (vaO v));have c12:=H.cells.c12;have f13:=H.free 13;rw [ho] at c12;have c13:=H.cells.c13;have HA:Hid (HpAt w0 g (w1.alloc (vaO v)) p (h.new c) vo vx hv):=H;have hp1:=lt_some H.blk;clear H h1)
  go_end0
  exact ⟨rfl,⟨vo,vx,hv,HA.out.set HC.out.k { h.new c with thrown:=v.n } rfl rfl rfl⟩,(f1.alloc hb1 _).trans (HA.out.frSet 13 _)⟩
 ·rw [if_pos rfl]
  clear hr
  go_enter Tryz.func226,Tryz.ntmps226
  go_wp2_with (go_at_call 230;refine (new_any w0 g HC.out.k p h c _ HH.out HC.out.cls HC.out.tree (by omega) HC.out.le HC.out.fl).mono ?_;rintro e w1 ⟨he,h1,f1⟩;rw [hV] at he;subst he;have hb1:=h1.base;obtain ⟨vo,vx,hv,H⟩:=h1.cf ((Cf.refl _ _ w1).alloc hb1 (vaO v));have c12:=H.cells.c12;rw [ho] at c12;have HA:Hid (HpAt w0 g (w1.alloc (vaO v)) p (h.new c) vo vx hv):=H;clear H h1)
  go_end0
  exact ⟨rfl,⟨vo,vx,hv,HA.out⟩,f1.alloc hb1 _⟩
theorem throw_any (w0:World) (g:Ad) (p:Nat) (h:Hp) (v:Va) (w:World) (hH:Hs w0 g w p h) (C:Cw w0 g h) :
  Calls Tryz.prog 163 #[.pointer (some ⟨p,0,none⟩),vaV v] w fun e w'=>e=.returned (.tuple #[])∧Hs w0 g w' p (h.throw v)∧Fr w0.heap.size g.T w w':=by
 have hbs:=hH.base
 have HF:Hid (Fr w0.heap.size g.T w (w.alloc (vaO v))):=(Fr.refl _ _ w).alloc hbs _
 have HH:Hid (Hs w0 g (w.alloc (vaO v)) p h):=hH.cf ((Cf.refl _ _ w).alloc hbs _)
 have HV:Hid (VaBox (w.alloc (vaO v)) w.heap.size v):=VaBox.new w v
 have HC:Hid (Cw w0 g h):=C
 have hk:(v.kind==3)=isRef v:=by unfold isRef;rw [Bool.eq_iff_iff];simp
 clear hH C
 cases hm:h.mustB (isRef v)
 ·have hr:h.throw v=h.must (isRef v):=by unfold Hp.throw;rw [if_neg (by rw [hm];decide)]
  rw [hr]
  clear hr
  go_enter Tryz.func163,Tryz.ntmps163
  go_wp2_with (go_at_call 85;refine (must_any w0 g HC.out.k p h _ _ HH.out).mono ?_;rintro e w1 ⟨he,h1,f1⟩;rw [hm] at he;subst he)
  (try simp only [Exit.inBlock,Exit.then])
  first|exact bodyPost_ret (results_none rfl _ _ _) rfl ⟨rfl,h1,HF.out.trans f1⟩|(go_end0;exact ⟨rfl,h1,HF.out.trans f1⟩)
 ·obtain ⟨hb,hov,hmu⟩:=mustB_true hm
  by_cases hn:v.n<0
  ·have hr:h.throw v=h.raise 1:=by unfold Hp.throw;rw [if_pos hm,if_pos hn]
   rw [hr]
   clear hr hov hb
   have HMU:Hid (h.must (isRef v)=h):=hmu
   clear hmu
   go_enter Tryz.func163,Tryz.ntmps163
   go_wp2_with (first
    | (go_at_call 85;refine (must_any w0 g HC.out.k p h _ _ HH.out).mono ?_;rintro e w1 ⟨he,h1,f1⟩;rw [hm] at he;subst he;rw [HMU.out] at h1;have r1:=(HV.out.keep HC.out.k f1).c1)
    | (go_at_call 226;refine (raise_any w0 g p h 1 _ h1 HC.out (by omega)).mono ?_;rintro e w2 ⟨rfl,h2,f2⟩))
   (try simp only [Exit.inBlock,Exit.then])
   first|exact bodyPost_ret (results_none rfl _ _ _) rfl ⟨rfl,h2,(HF.out.trans f1).trans f2⟩|(go_end0;exact ⟨rfl,h2,(HF.out.trans f1).trans f2⟩)
  ·have hr:h.throw v={ h with thrown:=v.n }:=by unfold Hp.throw;rw [if_pos hm,if_neg hn]
   rw [hr]
   clear hr hov hb
   have HMU:Hid (h.must (isRef v)=h):=hmu
   clear hmu
   go_enter Tryz.func163,Tryz.ntmps163
   go_wp2_with (go_at_call 85;refine (must_any w0 g HC.out.k p h _ _ HH.out).mono ?_;rintro e w1 ⟨he,h1,f1⟩;rw [hm] at he;subst he;rw [HMU.out] at h1;have r1:=(HV.out.keep HC.out.k f1).c1;obtain ⟨vo,vx,hv,H⟩:=h1;have f13:=H.free 13;have c13:=H.cells.c13;have HA:Hid (HpAt w0 g w1 p h vo vx hv):=H;clear H)
   (try simp only [Exit.inBlock,Exit.then])
   first|exact bodyPost_ret (results_none rfl _ _ _) rfl ⟨rfl,⟨vo,vx,hv,HA.out.set HC.out.k { h with thrown:=v.n } rfl rfl rfl⟩,(HF.out.trans f1).trans (HA.out.frSet 13 _)⟩|(go_end0;exact ⟨rfl,⟨vo,vx,hv,HA.out.set HC.out.k { h with thrown:=v.n } rfl rfl rfl⟩,(HF.out.trans f1).trans (HA.out.frSet 13 _)⟩)
end Go.Proofs.YtgiiapenmjollabGreat
