import Derived.Test.YtgiiapenmjollabGreatRsaj
import Derived.Deep.RegionLaw
namespace Go.Proofs.YtgiiapenmjollabGreat
set_option linter.all false
set_option maxHeartbeats 40000000
set_option maxRecDepth 100000
open Go.RowKit
theorem both_all (cs:List Cl) (vj:Value) (v u:Ty) (w:World) (hJ:JnAt w vj cs) (hcs:cs.length≤12) (hv:refOk cs.length v) (hu:refOk cs.length u) :
  Calls Tryz.prog 325 #[vj,fvV v,fvV u] w fun e w'=>e=.returned (fvV (bothT cs v u))∧Bl w w':=by
 unfold bothT
 by_cases h1:v.kind≠3∨u.kind≠3
 ·rw [if_pos h1];exact both_any cs vj v u w h1
 ·rw [if_neg h1]
  have k1:v.kind=3:=by omega
  have k2:u.kind=3:=by omega
  by_cases h2:v.cls=-1
  ·rw [if_pos h2];exact both_l cs vj v u w k1 k2 h2
  ·rw [if_neg h2]
   by_cases h3:u.cls=-1
   ·rw [if_pos h3];exact both_r cs vj v u w k1 k2 h2 h3
   ·rw [if_neg h3]
    have a1:=(hv k1).resolve_left h2
    have a2:=(hu k2).resolve_left h3
    obtain ⟨i,hi⟩:∃i:Nat,v.cls=i:=⟨v.cls.toNat,by omega⟩
    obtain ⟨j,hj⟩:∃j:Nat,u.cls=j:=⟨u.cls.toNat,by omega⟩
    obtain ⟨jb,jo,jc,rfl,hJ⟩:=hJ
    obtain ⟨rb,ro,rc,c1,c2⟩:=hJ i (by omega)
    have:=both_j cs jb jo jc rb ro rc v u i j w k1 k2 hi hj (by omega) (by omega) hcs c1 (c2 j (by omega))
    rw [hi,hj,Int.toNat_natCast,Int.toNat_natCast]
    exact this
theorem fbelow_any (cs:List Cl) (p:Nat) (vj:Value) (i j:Nat) (w:World) (hp:w.cell? ⟨p,14,none⟩=some vj) (hJ:JnAt w vj cs) (hi:i<cs.length) (hj:j<cs.length) :
  Calls Tryz.prog 320 #[.pointer (some ⟨p,0,none⟩),.int .i64 (i:Int),.int .i64 (j:Int)] w fun e w'=>e=.returned (.bool (decide (joinN cs i j=j)))∧w'=w:=by
 obtain ⟨jb,jo,jc,rfl,hJ⟩:=hJ
 obtain ⟨rb,ro,rc,c1,c2⟩:=hJ i hi
 have c3:=c2 j hj
 have hpl:=cell_lt hp
 have hjl:=cell_lt c1
 have hrl:=cell_lt c3
 clear hJ c2
 generalize hn:cs.length=n at *
 have hi0:(0:Int)≤(i:Int):=by omega
 have hi1:(i:Int)<(n:Int):=by omega
 have hj0:(0:Int)≤(j:Int):=by omega
 have hj1:(j:Int)<(n:Int):=by omega
 have hd:decide (((joinN cs i j:Nat):Int)=(j:Int))=decide (joinN cs i j=j):=by by_cases h:joinN cs i j=j<;>simp [h]<;>omega
 generalize joinN cs i j=z at *
 go_enter Tryz.func320,Tryz.ntmps320
 go_wp2
 go_ret
 exact ⟨by rw [←hd];rfl,rfl⟩
theorem neq_fv (a b c d:Int) (w:World):(binOp .neq 243 (.agg #[.int .i64 a,.int .i64 b]) (.agg #[.int .i64 c,.int .i64 d])).run Tryz.prog w=.ok (.bool (!(decide (a=c)&&decide (b=d)))) w:=by
 rw [run_neq_struct,run_equalIn_agg w 9999 _ _ _ fv_fields fv_held]
 simp [go_sem,Tryz.underlying243,Tryz.underlying3]
 by_cases h1:a=c<;>by_cases h2:b=d<;>simp [h1,h2]
abbrev ftyO (t:Ty):Obj:=.cells #[.int .i64 t.kind,.int .i64 t.cls] 46
structure Bt3 (w:World) (b:Nat) (v t:Ty):Prop where
 one:w.heap[b]?=some (.cells #[.int .i64 v.kind,.int .i64 v.cls] 243 (0,0))
 two:w.heap[b+1]?=some (.cells #[.int .i64 t.kind,.int .i64 t.cls] 46 (0,0))
 res:w.heap[b+2]?=some (.cells #[.int .i64 0,.int .i64 0] 243 (0,0))
theorem Bt3.new (w:World) (v t:Ty):Bt3 (((w.alloc (fvO v)).alloc (ftyO t)).alloc fvZ) w.heap.size v t :=
 ⟨((heap_alloc_old _ _ (by simp;omega)).trans (heap_alloc_old _ _ (by simp))).trans (mblk rfl),(heap_alloc_old _ _ (by simp)).trans (mblk (by simp)),mblk (by simp)⟩
theorem Bt3.bl {w w':World} {b:Nat} {v t:Ty} (h:Bt3 w b v t) (k:Bl w w'):Bt3 w' b v t :=
 ⟨(k.block _ (lt_some h.one)).trans h.one,(k.block _ (lt_some h.two)).trans h.two,(k.block _ (lt_some h.res)).trans h.res⟩
abbrev fitE (cs:List Cl) (v t:Ty):Ending:=if fitB cs v t=true then .returned (fvV v) else upE
theorem mustfit_kind (p:Nat) (v t:Ty) (w:World) (h:v.kind≠t.kind) :
  Calls Tryz.prog 307 #[.pointer (some ⟨p,0,none⟩),fvV v,.agg #[.int .i64 t.kind,.int .i64 t.cls]] w fun e w'=>e=upE∧Bl w w':=by
 have HB:Hid (Bl w (((w.alloc (fvO v)).alloc (ftyO t)).alloc fvZ)):=(((Bl.refl w).alloc _).alloc _).alloc _
 have HH:Hid (v.kind≠t.kind):=h
 clear h
 go_enter Tryz.func307,Tryz.ntmps307
 go_wp2_with (go_at_call 279;refine (fmust_no _ _ _ HH.out).mono ?_;rintro e w1 ⟨rfl,b1⟩)
 exact ⟨rfl,rfl,HB.out.trans b1⟩
theorem mustfit_num (p:Nat) (v t:Ty) (w:World) (h:v.kind=t.kind) (h3:t.kind≠3) :
  Calls Tryz.prog 307 #[.pointer (some ⟨p,0,none⟩),fvV v,.agg #[.int .i64 t.kind,.int .i64 t.cls]] w fun e w'=>e=.returned (fvV v)∧Bl w w':=by
 have HB:Hid (Bl w (((w.alloc (fvO v)).alloc (ftyO t)).alloc fvZ)):=(((Bl.refl w).alloc _).alloc _).alloc _
 have H3:Hid (Bt3 (((w.alloc (fvO v)).alloc (ftyO t)).alloc fvZ) w.heap.size v t):=Bt3.new w v t
 have HH:Hid (v.kind=t.kind):=h
 have hz:(t.kind==3)=false:=by simpa using h3
 clear h h3
 go_enter Tryz.func307,Tryz.ntmps307
 go_wp2_with (go_at_call 279;refine (fmust_yes _ _ _ HH.out).mono ?_;rintro e w1 ⟨rfl,b1⟩;have B1:Hid (Bl _ w1):=HB.out.trans b1;have C1:Hid (Bt3 w1 w.heap.size v t):=H3.out.bl b1;clear b1)
 have x0:∀x:Fut w1,x.to.cell? ⟨w.heap.size+1,0,none⟩=some (.int .i64 t.kind):=fut_cell ((cell_blk C1.out.two).trans rfl)
 refine wp_region_fut (by kernel_rfl) (by kernel_rfl) fun hne=>?_
 repeat (go_big_quiet_step (fail))
 refine wpQuiet_nil ?_
 rintro W2 ⟨⟨w2,hw2⟩,hE⟩
 replace hE:w2=W2:=hE.symm
 subst hE
 clear x0 hne
 have B2:Hid (Bl _ w2):=B1.out.trans hw2
 have C2:Hid (Bt3 w2 w.heap.size v t):=C1.out.bl hw2
 clear hw2
 have c0:=(cell_blk (i:=0) C2.out.one).trans rfl
 have c1:=(cell_blk (i:=1) C2.out.one).trans rfl
 have r0:=(cell_blk (i:=0) C2.out.res).trans rfl
 have r1:=(cell_blk (i:=1) C2.out.res).trans rfl
 have rf:=free_blk C2.out.res
 go_wp2
 refine bodyPost_ret (results_cell_row rfl _ _ (w.heap.size+2) _ _ _ _ rfl (block_set (block_set C2.out.res _) _) Tryz.underlying243 rfl info_fv) rfl ?_
 exact ⟨rfl,(B2.out.setCell (by show _≤w.heap.size+2;omega) _).setCell (by show _≤w.heap.size+2;omega) _⟩
theorem mustfit_nil (p:Nat) (v t:Ty) (w:World) (h:v.kind=t.kind) (h3:t.kind=3) (hn:v.cls=-1) :
  Calls Tryz.prog 307 #[.pointer (some ⟨p,0,none⟩),fvV v,.agg #[.int .i64 t.kind,.int .i64 t.cls]] w fun e w'=>e=.returned (fvV v)∧Bl w w':=by
 have HB:Hid (Bl w (((w.alloc (fvO v)).alloc (ftyO t)).alloc fvZ)):=(((Bl.refl w).alloc _).alloc _).alloc _
 have H3:Hid (Bt3 (((w.alloc (fvO v)).alloc (ftyO t)).alloc fvZ) w.heap.size v t):=Bt3.new w v t
 have HH:Hid (v.kind=t.kind):=h
 have hz:(t.kind==3)=true:=by simpa using h3
 have hq:∀w,_:=fun w=>neq_fv v.kind v.cls 3 (-1) w
 have hd:(!(decide (v.kind=3)&&decide (v.cls=-1)))=false:=by simp [h,h3,hn]
 rw [hd] at hq
 clear h h3 hn hd
 go_enter Tryz.func307,Tryz.ntmps307
 go_wp2_with (go_at_call 279;refine (fmust_yes _ _ _ HH.out).mono ?_;rintro e w1 ⟨rfl,b1⟩;have B1:Hid (Bl _ w1):=HB.out.trans b1;have C1:Hid (Bt3 w1 w.heap.size v t):=H3.out.bl b1;clear b1)
 have x0:∀x:Fut w1,x.to.cell? ⟨w.heap.size+1,0,none⟩=some (.int .i64 t.kind):=fut_cell ((cell_blk C1.out.two).trans rfl)
 have x1:∀x:Fut w1,x.to.cell? ⟨w.heap.size,0,none⟩=some (.int .i64 v.kind):=fut_cell ((cell_blk C1.out.one).trans rfl)
 have x2:∀x:Fut w1,x.to.cell? ⟨w.heap.size,1,none⟩=some (.int .i64 v.cls):=fut_cell ((cell_blk C1.out.one).trans rfl)
 refine wp_region_fut (by kernel_rfl) (by kernel_rfl) fun hne=>?_
 repeat (go_big_quiet_step ((go_at_call 292;exact Calls.fut_eq _ (fnot_any _) rfl)))
 refine wpQuiet_nil ?_
 rintro W2 ⟨⟨w2,hw2⟩,hE⟩
 replace hE:w2=W2:=hE.symm
 subst hE
 clear x0 x1 x2 hne hq
 have B2:Hid (Bl _ w2):=B1.out.trans hw2
 have C2:Hid (Bt3 w2 w.heap.size v t):=C1.out.bl hw2
 clear hw2
 have c0:=(cell_blk (i:=0) C2.out.one).trans rfl
 have c1:=(cell_blk (i:=1) C2.out.one).trans rfl
 have r0:=(cell_blk (i:=0) C2.out.res).trans rfl
 have r1:=(cell_blk (i:=1) C2.out.res).trans rfl
 have rf:=free_blk C2.out.res
 go_wp2
 refine bodyPost_ret (results_cell_row rfl _ _ (w.heap.size+2) _ _ _ _ rfl (block_set (block_set C2.out.res _) _) Tryz.underlying243 rfl info_fv) rfl ?_
 exact ⟨rfl,(B2.out.setCell (by show _≤w.heap.size+2;omega) _).setCell (by show _≤w.heap.size+2;omega) _⟩
theorem mustfit_ref (cs:List Cl) (p:Nat) (vj:Value) (v t:Ty) (i j:Nat) (w:World) (hp:w.cell? ⟨p,14,none⟩=some vj) (hJ:JnAt w vj cs) (h:v.kind=t.kind) (h3:t.kind=3) (hi:v.cls=i) (hj:t.cls=j) (hil:i<cs.length) (hjl:j<cs.length) :
  Calls Tryz.prog 307 #[.pointer (some ⟨p,0,none⟩),fvV v,.agg #[.int .i64 t.kind,.int .i64 t.cls]] w fun e w'=>e=(if joinN cs i j=j then .returned (fvV v) else upE)∧Bl w w':=by
 have HB:Hid (Bl w (((w.alloc (fvO v)).alloc (ftyO t)).alloc fvZ)):=(((Bl.refl w).alloc _).alloc _).alloc _
 have H3:Hid (Bt3 (((w.alloc (fvO v)).alloc (ftyO t)).alloc fvZ) w.heap.size v t):=Bt3.new w v t
 have HH:Hid (v.kind=t.kind):=h
 have hz:(t.kind==3)=true:=by simpa using h3
 have hq:∀w,_:=fun w=>neq_fv v.kind v.cls 3 (-1) w
 have hd:(!(decide (v.kind=3)&&decide (v.cls=-1)))=true:=by simp [h,h3,hi]
 rw [hd] at hq
 have HI:Hid (v.cls=(i:Int)):=hi
 have HJ:Hid (t.cls=(j:Int)):=hj
 have HP:Hid (w.cell? ⟨p,14,none⟩=some vj):=hp
 have HN:Hid (JnAt w vj cs):=hJ
 have HIL:Hid (i<cs.length):=hil
 have HJL:Hid (j<cs.length):=hjl
 clear h h3 hi hj hd hp hJ hil hjl
 have fin:∀b:Bool,decide (joinN cs i j=j)=b→Calls Tryz.prog 307 #[.pointer (some ⟨p,0,none⟩),fvV v,.agg #[.int .i64 t.kind,.int .i64 t.cls]] w fun e w'=>e=(if b=true then .returned (fvV v) else upE)∧Bl w w':=by
  intro b hb
  go_enter Tryz.func307,Tryz.ntmps307
  go_wp2_with (go_at_call 279;refine (fmust_yes _ _ _ HH.out).mono ?_;rintro e w1 ⟨rfl,b1⟩;have B1:Hid (Bl _ w1):=HB.out.trans b1;have C1:Hid (Bt3 w1 w.heap.size v t):=H3.out.bl b1;clear b1)
  have x0:∀x:Fut w1,x.to.cell? ⟨w.heap.size+1,0,none⟩=some (.int .i64 t.kind):=fut_cell ((cell_blk C1.out.two).trans rfl)
  have x1:∀x:Fut w1,x.to.cell? ⟨w.heap.size,0,none⟩=some (.int .i64 v.kind):=fut_cell ((cell_blk C1.out.one).trans rfl)
  have x2:∀x:Fut w1,x.to.cell? ⟨w.heap.size,1,none⟩=some (.int .i64 v.cls):=fut_cell ((cell_blk C1.out.one).trans rfl)
  have x3:∀x:Fut w1,x.to.cell? ⟨w.heap.size+1,1,none⟩=some (.int .i64 t.cls):=fut_cell ((cell_blk C1.out.two).trans rfl)
  refine wp_region_fut (by kernel_rfl) (by kernel_rfl) fun hne=>?_
  repeat (go_big_quiet_step (first
   | (go_at_call 292;exact Calls.fut_eq _ (fnot_any _) rfl)
   | (go_at_call 320;rw [HI.out,HJ.out];exact Calls.fut_same_eq _ (fbelow_any cs p vj i j _ (((B1.out).trans (Fut.is _)).cell HP.out) (HN.out.bl ((B1.out).trans (Fut.is _))) HIL.out HJL.out) (congrArg Value.bool hb))))
  refine wpQuiet_nil ?_
  rintro W2 ⟨⟨w2,hw2⟩,hE⟩
  replace hE:w2=W2:=hE.symm
  subst hE
  clear x0 x1 x2 x3 hne hq
  have B2:Hid (Bl _ w2):=B1.out.trans hw2
  have C2:Hid (Bt3 w2 w.heap.size v t):=C1.out.bl hw2
  clear hw2 hb
  cases b
  ·go_wp2_with (go_at_call 286;refine (up_any _).mono ?_;rintro e w3 ⟨rfl,hw⟩;rw [hw];clear hw w3)
   exact ⟨rfl,rfl,B2.out⟩
  ·have c0:=(cell_blk (i:=0) C2.out.one).trans rfl
   have c1:=(cell_blk (i:=1) C2.out.one).trans rfl
   have r0:=(cell_blk (i:=0) C2.out.res).trans rfl
   have r1:=(cell_blk (i:=1) C2.out.res).trans rfl
   have rf:=free_blk C2.out.res
   go_wp2
   refine bodyPost_ret (results_cell_row rfl _ _ (w.heap.size+2) _ _ _ _ rfl (block_set (block_set C2.out.res _) _) Tryz.underlying243 rfl info_fv) rfl ?_
   exact ⟨rfl,(B2.out.setCell (by show _≤w.heap.size+2;omega) _).setCell (by show _≤w.heap.size+2;omega) _⟩
 by_cases hx:joinN cs i j=j
 ·have:=fin true (decide_eq_true hx)
  rw [if_pos rfl] at this
  rw [if_pos hx];exact this
 ·have:=fin false (decide_eq_false hx)
  rw [if_neg (by decide)] at this
  rw [if_neg hx];exact this
theorem mustfit_any (cs:List Cl) (p:Nat) (vj:Value) (v t:Ty) (w:World) (hp:w.cell? ⟨p,14,none⟩=some vj) (hJ:JnAt w vj cs) (hv:refOk cs.length v) (ht:t.kind=3→0≤t.cls∧t.cls<cs.length) :
  Calls Tryz.prog 307 #[.pointer (some ⟨p,0,none⟩),fvV v,.agg #[.int .i64 t.kind,.int .i64 t.cls]] w fun e w'=>e=fitE cs v t∧Bl w w':=by
 unfold fitE fitB
 by_cases hk:v.kind=t.kind
 ·by_cases h3:t.kind=3
  ·by_cases hn:v.cls=-1
   ·have e:(decide (v.kind=t.kind)&&(decide (t.kind≠3)||(decide (v.cls=-1)||decide (joinN cs v.cls.toNat t.cls.toNat=t.cls.toNat))))=true:=by simp [hk,hn]
    rw [e,if_pos rfl];exact mustfit_nil p v t w hk h3 hn
   ·have a1:=(hv (hk.trans h3)).resolve_left hn
    have a2:=ht h3
    obtain ⟨i,hi⟩:∃i:Nat,v.cls=i:=⟨v.cls.toNat,by omega⟩
    obtain ⟨j,hj⟩:∃j:Nat,t.cls=j:=⟨t.cls.toNat,by omega⟩
    have:=mustfit_ref cs p vj v t i j w hp hJ hk h3 hi hj (by omega) (by omega)
    have e:(decide (v.kind=t.kind)&&(decide (t.kind≠3)||(decide (v.cls=-1)||decide (joinN cs v.cls.toNat t.cls.toNat=t.cls.toNat))))=decide (joinN cs i j=j):=by rw [hi,hj,Int.toNat_natCast,Int.toNat_natCast];simp [hk,h3]
    rw [e]
    by_cases hx:joinN cs i j=j
    ·rw [if_pos hx] at this;rw [decide_eq_true hx,if_pos rfl];exact this
    ·rw [if_neg hx] at this;rw [decide_eq_false hx,if_neg (by decide)];exact this
  ·have e:(decide (v.kind=t.kind)&&(decide (t.kind≠3)||(decide (v.cls=-1)||decide (joinN cs v.cls.toNat t.cls.toNat=t.cls.toNat))))=true:=by simp [hk,h3]
   rw [e,if_pos rfl];exact mustfit_num p v t w hk h3
 ·have e:(decide (v.kind=t.kind)&&(decide (t.kind≠3)||(decide (v.cls=-1)||decide (joinN cs v.cls.toNat t.cls.toNat=t.cls.toNat))))=false:=by simp [hk]
  rw [e,if_neg (by decide)];exact mustfit_kind p v t w hk
section
structure Gf where
 p:Nat
 q:Nat
 sb:Nat
 sc:Nat
 c2:Value
 c3:Value
 c4:Value
 c5:Value
 c6:Value
 c7:Value
 c8:Value
 c9:Value
 c10:Value
 c14:Value
def flRow (g:Gf) (n:Nat) (vs vk vw:Value) (at':Int):Array Value:=#[vs,vk,g.c2,g.c3,g.c4,g.c5,g.c6,g.c7,g.c8,g.c9,g.c10,.int .i64 at',.slice (some ⟨g.sb,0,none⟩) n g.sc,vw,g.c14]
def tv (t:Ty):Va:=⟨t.kind,t.cls⟩
def tyCs (l:List Ty):List Value:=vaCells (l.map tv)
theorem tyCs_length (l:List Ty):(tyCs l).length=l.length*2:=by unfold tyCs;rw [vaCells_length,List.length_map]
def rtF (cur:As) (st:List (Option As)) (r:Nat):List Ty :=
 if r=0 then cur.slots else if r=1 then cur.stk else match nth none st ((r-2)/2) with
  | none=>[]
  | some s=>if r%2=0 then s.slots else s.stk
theorem rtF_slots {cur:As} {st:List (Option As)} {k:Nat} {s:As} (h:nth none st k=some s):rtF cur st (2+2*k)=s.slots:=by
 unfold rtF
 rw [if_neg (by omega),if_neg (by omega),show (2+2*k-2)/2=k by omega,h]
 dsimp only
 rw [if_pos (by omega)]
theorem rtF_stk {cur:As} {st:List (Option As)} {k:Nat} {s:As} (h:nth none st k=some s):rtF cur st (3+2*k)=s.stk:=by
 unfold rtF
 rw [if_neg (by omega),if_neg (by omega),show (3+2*k-2)/2=k by omega,h]
 dsimp only
 rw [if_neg (by omega)]
theorem rtF_cur {cur cur':As} {st:List (Option As)} {r:Nat} (h:2≤r):rtF cur st r=rtF cur' st r:=by
 unfold rtF
 rw [if_neg (by omega),if_neg (by omega),if_neg (by omega),if_neg (by omega)]
def spV:Option Nat→Value
 | none=>.pointer none
 | some b=>.pointer (some ⟨b,0,none⟩)
structure FarF (g:Gf) (rv:Nat→Value) (vw:Value) (sp:Nat→Option Nat) (b:Nat):Prop where
 p:b≠g.p
 s:b≠g.sb
 r:∀r,(rv r).ownBlock≠some b
 w:vw.ownBlock≠some b
 k:∀k,sp k≠some b
structure Fz (w1:World) (g:Gf) (w:World):Prop where
 os:w.os=w1.os
 tape:w.tape=w1.tape
 output:w.output=w1.output
 size:w1.heap.size≤w.heap.size
 block:∀b,b<w1.heap.size→b≠g.p→b≠g.sb→w.heap[b]?=w1.heap[b]?
structure KX (X:Nat→Prop) (wx w:World):Prop where
 size:wx.heap.size≤w.heap.size
 blk:∀b,X b→b<wx.heap.size∧w.heap[b]?=wx.heap[b]?
structure FA (X:Nat→Prop) (wx w1:World) (g:Gf) (b0:Nat) (w:World) (cur:As) (at':Int) (st:List (Option As)) (wt:List Int) (rv:Nat→Value) (vw:Value) (sp:Nat→Option Nat):Prop where
 fz:Fz w1 g w
 pin:g.p<w1.heap.size∧g.sb<w1.heap.size
 blk:w.heap[g.p]?=some (.cells (flRow g st.length (rv 0) (rv 1) vw at') 277 (0,0))
 row0:w.ownsRow b0 243 2 (rv 0) cur.slots.length (tyCs cur.slots)
 row1:w.ownsRow w1.heap.size 243 2 (rv 1) cur.stk.length (tyCs cur.stk)
 rows:∀r,2≤r→w.ownsRow w1.heap.size 243 2 (rv r) (rtF cur st r).length (tyCs (rtF cur st r))
 sep:∀r r' b,r≠r'→(rv r).ownBlock=some b→(rv r').ownBlock≠some b
 sbk:w.heap[g.sb]?=some (.cells ((List.range st.length).map (fun k=>spV (sp k))).toArray 167 (0,0))
 sts:∀k b,sp k=some b→k<st.length∧(∃s,nth none st k=some s)∧w1.heap.size≤b∧w.heap[b]?=some (.cells #[rv (2+2*k),rv (3+2*k)] 166 (0,0))
 stn:∀k,sp k=none→nth none st k=none
 inj:∀k j b,sp k=some b→sp j=some b→k=j
 wts:w.ownsRow w1.heap.size 3 1 vw wt.length (wt.map (Value.int .i64))
 far:∀b,X b→FarF g rv vw sp b
 kept:KX X wx w
def FX (X:Nat→Prop) (wx w1:World) (g:Gf) (b0:Nat) (w:World) (cur:As) (at':Int) (st:List (Option As)) (wt:List Int):Prop:=∃rv vw sp,FA X wx w1 g b0 w cur at' st wt rv vw sp
def FE (X:Nat→Prop) (wx w1:World) (g:Gf) (w:World):Prop:=∃b0 cur at' st wt,FX X wx w1 g b0 w cur at' st wt
theorem FX.fe {X:Nat→Prop} {wx w1:World} {g:Gf} {b0:Nat} {w:World} {cur:As} {at':Int} {st:List (Option As)} {wt:List Int} (h:FX X wx w1 g b0 w cur at' st wt):FE X wx w1 g w:=⟨b0,cur,at',st,wt,h⟩
section
variable {X:Nat→Prop} {wx w1:World} {g:Gf} {b0:Nat} {w w':World} {cur:As} {at':Int} {st:List (Option As)} {wt:List Int} {rv:Nat→Value} {vw:Value} {sp:Nat→Option Nat}
theorem grownBl {w w':World} (h:Bl w w') (row:Option Nat):w.grownBy w' row:=⟨h.os,h.tape,h.output,h.size,fun i hi _=>h.block i hi⟩
theorem rowBl {base:Nat} {e:TypeId} {size n:Nat} {v:Value} {xs:List Value} (h:w.ownsRow base e size v n xs) (b:Bl w w'):w'.ownsRow base e size v n xs:=h.kept (grownBl b none) (by cases hv:v.ownBlock<;>simp)
theorem FA.lt0 (H:FA X wx w1 g b0 w cur at' st wt rv vw sp):∀r b,(rv r).ownBlock=some b→b<w.heap.size:=fun r b e=>by
 by_cases h0:r=0
 ·subst h0;exact (H.row0.lt b e).2
 ·by_cases h1:r=1
  ·subst h1;exact (H.row1.lt b e).2
  ·exact ((H.rows r (by omega)).lt b e).2
theorem FA.farNew (H:FA X wx w1 g b0 w cur at' st wt rv vw sp) {b:Nat} (hb:w.heap.size≤b):FarF g rv vw sp b :=
 ⟨by have:=lt_some H.blk;omega,by have:=lt_some H.sbk;omega,fun r e=>by have:=H.lt0 r b e;omega,fun e=>by have:=(H.wts.lt b e).2;omega,fun k e=>by have:=lt_some (H.sts k b e).2.2.2;omega⟩
theorem FA.bl (H:FA X wx w1 g b0 w cur at' st wt rv vw sp) (h:Bl w w'):FA X wx w1 g b0 w' cur at' st wt rv vw sp :=
 ⟨⟨h.os.trans H.fz.os,h.tape.trans H.fz.tape,h.output.trans H.fz.output,Nat.le_trans H.fz.size h.size,fun b hb h1 h2=>(h.block b (Nat.lt_of_lt_of_le hb H.fz.size)).trans (H.fz.block b hb h1 h2)⟩,H.pin,bl_blk h H.blk,rowBl H.row0 h,rowBl H.row1 h,fun r hr=>rowBl (H.rows r hr) h,H.sep,bl_blk h H.sbk,
  fun k b e=>⟨(H.sts k b e).1,(H.sts k b e).2.1,(H.sts k b e).2.2.1,bl_blk h (H.sts k b e).2.2.2⟩,H.stn,H.inj,rowBl H.wts h,H.far,⟨Nat.le_trans H.kept.size h.size,fun b hx=>⟨(H.kept.blk b hx).1,(h.block b (Nat.lt_of_lt_of_le (H.kept.blk b hx).1 H.kept.size)).trans (H.kept.blk b hx).2⟩⟩⟩
theorem FX.bl (H:FX X wx w1 g b0 w cur at' st wt) (h:Bl w w'):FX X wx w1 g b0 w' cur at' st wt:=by
 obtain ⟨rv,vw,sp,H⟩:=H;exact ⟨rv,vw,sp,H.bl h⟩
def Xf (X:Nat→Prop) (n m:Nat) (b:Nat):Prop:=X b∨(n≤b∧b<m)
theorem FA.wide (H:FA X wx w1 g b0 w cur at' st wt rv vw sp) (h:Bl w w'):FA (Xf X w.heap.size w'.heap.size) w' w1 g b0 w' cur at' st wt rv vw sp:=by
 have K:=H.bl h
 refine ⟨K.fz,K.pin,K.blk,K.row0,K.row1,K.rows,K.sep,K.sbk,K.sts,K.stn,K.inj,K.wts,fun b hb=>?_,⟨Nat.le_refl _,fun b hb=>⟨?_,rfl⟩⟩⟩
 ·rcases hb with hb|hb
  ·exact K.far b hb
  ·exact H.farNew hb.1
 ·rcases hb with hb|hb
  ·have:=(H.kept.blk b hb).1;have:=H.kept.size;have:=h.size;omega
  ·exact hb.2
theorem FX.wide (H:FX X wx w1 g b0 w cur at' st wt) (h:Bl w w'):FX (Xf X w.heap.size w'.heap.size) w' w1 g b0 w' cur at' st wt:=by
 obtain ⟨rv,vw,sp,H⟩:=H;exact ⟨rv,vw,sp,H.wide h⟩
theorem FA.back (H:FX X wx w1 g b0 w cur at' st wt) (h:Bl w w') {b0':Nat} {w2:World} {cur':As} {at2:Int} {st':List (Option As)} {wt':List Int} {rv':Nat→Value} {vw':Value} {sp':Nat→Option Nat} (K:FA (Xf X w.heap.size w'.heap.size) w' w1 g b0' w2 cur' at2 st' wt' rv' vw' sp'):FA X wx w1 g b0' w2 cur' at2 st' wt' rv' vw' sp':=by
 obtain ⟨rv,vw,sp,H⟩:=H
 refine ⟨K.fz,K.pin,K.blk,K.row0,K.row1,K.rows,K.sep,K.sbk,K.sts,K.stn,K.inj,K.wts,fun b hb=>K.far b (Or.inl hb),⟨Nat.le_trans H.kept.size (Nat.le_trans h.size K.kept.size),fun b hb=>⟨(H.kept.blk b hb).1,?_⟩⟩⟩
 rw [(K.kept.blk b (Or.inl hb)).2,h.block b (Nat.lt_of_lt_of_le (H.kept.blk b hb).1 H.kept.size)]
 exact (H.kept.blk b hb).2
theorem FX.back (H:FX X wx w1 g b0 w cur at' st wt) (h:Bl w w') {b0':Nat} {w2:World} {cur':As} {at2:Int} {st':List (Option As)} {wt':List Int} (K:FX (Xf X w.heap.size w'.heap.size) w' w1 g b0' w2 cur' at2 st' wt'):FX X wx w1 g b0' w2 cur' at2 st' wt':=by
 obtain ⟨rv,vw,sp,K⟩:=K;exact ⟨rv,vw,sp,FA.back H h K⟩
theorem FE.back (H:FX X wx w1 g b0 w cur at' st wt) (h:Bl w w') {w2:World} (K:FE (Xf X w.heap.size w'.heap.size) w' w1 g w2):FE X wx w1 g w2:=by
 obtain ⟨a,b,c,d,e,K⟩:=K;exact ⟨a,b,c,d,e,H.back h K⟩
theorem FX.box {n m:Nat} {W w2:World} {b0':Nat} {cur':As} {at2:Int} {st':List (Option As)} {wt':List Int} (K:FX (Xf X n m) W w1 g b0' w2 cur' at2 st' wt') {b:Nat} {o:Obj} (h1:n≤b) (h2:b<m) (h:W.heap[b]?=some o):w2.heap[b]?=some o:=by
 obtain ⟨rv,vw,sp,K⟩:=K
 exact (K.kept.blk b (Or.inr ⟨h1,h2⟩)).2.trans h
theorem FX.old (H:FX X wx w1 g b0 w cur at' st wt) {b:Nat} {o:Obj} (h:w1.heap[b]?=some o) (h1:b≠g.p) (h2:b≠g.sb):w.heap[b]?=some o:=by
 obtain ⟨rv,vw,sp,H⟩:=H
 exact (H.fz.block b (lt_some h) h1 h2).trans h
theorem FX.oldc (H:FX X wx w1 g b0 w cur at' st wt) {b o:Nat} {v:Value} (h:w1.cell? ⟨b,o,none⟩=some v) (h1:b≠g.p) (h2:b≠g.sb):w.cell? ⟨b,o,none⟩=some v:=by
 obtain ⟨rv,vw,sp,H⟩:=H
 have e:=H.fz.block b (cell_lt h) h1 h2
 rw [←h];exact World.cell?_of_block e
theorem FA.newcur (H:FA X wx w1 g b0 w cur at' st wt rv vw sp) (os:w'.os=w.os) (tape:w'.tape=w.tape) (output:w'.output=w.output) (size:w.heap.size≤w'.heap.size)
  (blk:∀b,b<w.heap.size→b≠g.p→(w1.heap.size≤b→(rv 0).ownBlock≠some b∧(rv 1).ownBlock≠some b)→w'.heap[b]?=w.heap[b]?)
  {b1:Nat} {cur':As} {at2:Int} {v0 v1:Value} (hp:w'.heap[g.p]?=some (.cells (flRow g st.length v0 v1 vw at2) 277 (0,0)))
  (h0:w'.ownsRow b1 243 2 v0 cur'.slots.length (tyCs cur'.slots)) (h1:w'.ownsRow w1.heap.size 243 2 v1 cur'.stk.length (tyCs cur'.stk))
  (s0:∀b,v0.ownBlock=some b→(rv 0).ownBlock=some b∨(rv 1).ownBlock=some b∨w.heap.size≤b) (s1:∀b,v1.ownBlock=some b→(rv 0).ownBlock=some b∨(rv 1).ownBlock=some b∨w.heap.size≤b) (s01:∀b,v0.ownBlock=some b→v1.ownBlock≠some b) :
  FA X wx w1 g b1 w' cur' at2 st wt (fun r=>if r=0 then v0 else if r=1 then v1 else rv r) vw sp:=by
 have hrv:∀r,2≤r→(if r=0 then v0 else if r=1 then v1 else rv r)=rv r:=fun r hr=>by rw [if_neg (by omega),if_neg (by omega)]
 have hkeep:∀b,b<w.heap.size→b≠g.p→(rv 0).ownBlock≠some b→(rv 1).ownBlock≠some b→w'.heap[b]?=w.heap[b]?:=fun b hb h1 h2 h3=>blk b hb h1 (fun _=>⟨h2,h3⟩)
 have hgr:∀r,2≤r→∀b,(rv r).ownBlock=some b→w'.heap[b]?=w.heap[b]?:=fun r hr b e=>by
  refine hkeep b (H.lt0 r b e) (fun x=>?_) (fun x=>H.sep 0 r b (by omega) x e) (fun x=>H.sep 1 r b (by omega) x e)
  exact own_far (H.rows r hr) H.blk (by decide) (x▸e)
 have hown:∀{base:Nat} {e:TypeId} {sz n:Nat} {v:Value} {xs:List Value},w.ownsRow base e sz v n xs→(∀b,v.ownBlock=some b→w'.heap[b]?=w.heap[b]?)→w'.ownsRow base e sz v n xs:=by
  intro base e sz n v xs ho hb
  refine ⟨ho.1,?_⟩
  rcases ho.2 with h|⟨gb,cap,cu,rfl,x1,x2,x3⟩
  ·exact Or.inl h
  ·exact Or.inr ⟨gb,cap,cu,rfl,x1,(hb gb rfl).trans x2,x3⟩
 have hblk0:∀b cs t,w.heap[b]?=some (.cells cs t (0,0))→t≠243→b≠g.p→w'.heap[b]?=some (.cells cs t (0,0)):=fun b cs t hb ht hbp =>
  (hkeep b (lt_some hb) hbp (own_far H.row0 hb ht) (own_far H.row1 hb ht)).trans hb
 refine ⟨⟨os.trans H.fz.os,tape.trans H.fz.tape,output.trans H.fz.output,Nat.le_trans H.fz.size size,fun b hb x1 x2=>(blk b (Nat.lt_of_lt_of_le hb H.fz.size) x1 (fun x=>by omega)).trans (H.fz.block b hb x1 x2)⟩,H.pin,hp,?_,?_,fun r hr=>?_,fun r r' b hne e=>?_,?_,fun k b e=>?_,H.stn,H.inj,?_,fun b hx=>?_,?_⟩
 ·exact h0
 ·exact h1
 ·try dsimp only
  rw [hrv r hr,rtF_cur (cur':=cur) hr]
  exact hown (H.rows r hr) (hgr r hr)
 ·try dsimp only at e ⊢
  have old:∀(v:Value) (b r:Nat),(∀b,v.ownBlock=some b→(rv 0).ownBlock=some b∨(rv 1).ownBlock=some b∨w.heap.size≤b)→2≤r→v.ownBlock=some b→(rv r).ownBlock≠some b:=fun v b r s hr e1 e2=>by
   rcases s b e1 with x|x|x
   ·exact H.sep 0 r b (by omega) x e2
   ·exact H.sep 1 r b (by omega) x e2
   ·have:=H.lt0 r b e2;omega
  by_cases r0:r=0
  ·rw [if_pos r0] at e
   by_cases r1:r'=1
   ·rw [if_neg (by omega),if_pos r1];exact s01 b e
   ·rw [hrv r' (by omega)];exact old v0 b r' s0 (by omega) e
  ·rw [if_neg r0] at e
   by_cases r1:r=1
   ·rw [if_pos r1] at e
    by_cases q0:r'=0
    ·rw [if_pos q0];exact fun x=>s01 b x e
    ·rw [hrv r' (by omega)];exact old v1 b r' s1 (by omega) e
   ·rw [if_neg r1] at e
    by_cases q0:r'=0
    ·rw [if_pos q0];exact fun x=>old v0 b r s0 (by omega) x e
    ·rw [if_neg q0]
     by_cases q1:r'=1
     ·rw [if_pos q1];exact fun x=>old v1 b r s1 (by omega) x e
     ·rw [if_neg q1];exact H.sep r r' b hne e
 ·exact hblk0 _ _ _ H.sbk (by decide) (fun x=>by have:=H.sbk;rw [x,H.blk] at this;simp at this)
 ·obtain ⟨x1,x2,x3,x4⟩:=H.sts k b e
  refine ⟨x1,x2,x3,?_⟩
  try dsimp only
  rw [hrv _ (by omega),hrv _ (by omega)]
  exact hblk0 _ _ _ x4 (by decide) (by have:=H.pin.1;omega)
 ·refine hown H.wts (fun b e=>hkeep b (H.wts.lt b e).2 (fun x=>own_far H.wts H.blk (by decide) (x▸e)) (fun x=>?_) (fun x=>?_))
  ·rcases H.row0.2 with ⟨y,-⟩|⟨gb,cap,cu,y,y1,y2,-⟩
   ·rw [y] at x;simp [Value.ownBlock] at x
   ·rw [y] at x;simp [Value.ownBlock] at x;subst x
    exact own_far H.wts y2 (by decide) e
  ·rcases H.row1.2 with ⟨y,-⟩|⟨gb,cap,cu,y,y1,y2,-⟩
   ·rw [y] at x;simp [Value.ownBlock] at x
   ·rw [y] at x;simp [Value.ownBlock] at x;subst x
    exact own_far H.wts y2 (by decide) e
 ·have F:=H.far b hx
  have hlt:b<w.heap.size:=Nat.lt_of_lt_of_le (H.kept.blk b hx).1 H.kept.size
  refine ⟨F.p,F.s,fun r e=>?_,F.w,F.k⟩
  try dsimp only at e
  by_cases r0:r=0
  ·rw [if_pos r0] at e
   rcases s0 b e with x|x|x
   ·exact F.r 0 x
   ·exact F.r 1 x
   ·omega
  ·rw [if_neg r0] at e
   by_cases r1:r=1
   ·rw [if_pos r1] at e
    rcases s1 b e with x|x|x
    ·exact F.r 0 x
    ·exact F.r 1 x
    ·omega
   ·rw [if_neg r1] at e;exact F.r r e
 ·refine ⟨Nat.le_trans H.kept.size size,fun b hx=>⟨(H.kept.blk b hx).1,?_⟩⟩
  have F:=H.far b hx
  rw [hkeep b (Nat.lt_of_lt_of_le (H.kept.blk b hx).1 H.kept.size) F.p (F.r 0) (F.r 1)]
  exact (H.kept.blk b hx).2
end
end
structure Cx (w0 w1:World) (g:Gf) (f:Fi) (m:Me):Prop where
 old:w0.heap.size≤g.p∧w0.heap.size≤g.sb
 bl:Bl w0 w1
 cls:∃A c,g.c2=.slice A f.classes.length c∧ClsAt w0 A f.classes
 ret:g.c4=.int .i64 m.ret.kind∧g.c5=.int .i64 m.ret.cls
 code:∃A c,g.c9=.slice A m.code.length c∧InsAt w0 A m.code
 hands:∃A c,g.c10=.slice A m.hands.length c∧HdsAt w0 A m.hands
 jn:∃jb jo jc,g.c14=.slice (some ⟨jb,jo,none⟩) f.classes.length jc∧jb≠g.p∧jb≠g.sb∧∀i,i<f.classes.length→∃rb ro rc,w1.cell? ⟨jb,jo+i,none⟩=some (.slice (some ⟨rb,ro,none⟩) f.classes.length rc)∧rb≠g.p∧rb≠g.sb∧∀j,j<f.classes.length→w1.cell? ⟨rb,ro+j,none⟩=some (.int .i64 (joinN f.classes i j:Nat))
 may:mayB f.classes=true
 me:rmeB f.classes f.methods m=true
 mes:∀x∈f.methods,rmeB f.classes f.methods x=true
structure Qx (X:Nat→Prop) (wx w0:World) (g:Gf) (f:Fi) (hv:Value):Prop where
 x:X g.q
 blk:∃A c,wx.heap[g.q]?=some (.cells #[.pointer (some ⟨g.p,0,none⟩),.slice A f.methods.length c,hv] 227 (0,0))∧MesAt w0 A f.methods
theorem Qx.at {X:Nat→Prop} {wx w0 w1:World} {g:Gf} {b0:Nat} {w:World} {cur:As} {at':Int} {st:List (Option As)} {wt:List Int} {f:Fi} {hv:Value} (Q:Qx X wx w0 g f hv) (H:FX X wx w1 g b0 w cur at' st wt):∃A c,w.heap[g.q]?=some (.cells #[.pointer (some ⟨g.p,0,none⟩),.slice A f.methods.length c,hv] 227 (0,0))∧MesAt w0 A f.methods:=by
 obtain ⟨A,c,h,hm⟩:=Q.blk
 obtain ⟨rv,vw,sp,H⟩:=H
 exact ⟨A,c,(H.kept.blk _ Q.x).2.trans h,hm⟩
theorem Qx.q0 {X:Nat→Prop} {wx w0 w1:World} {g:Gf} {b0:Nat} {w:World} {cur:As} {at':Int} {st:List (Option As)} {wt:List Int} {f:Fi} {hv:Value} (Q:Qx X wx w0 g f hv) (H:FX X wx w1 g b0 w cur at' st wt):w.cell? ⟨g.q,0,none⟩=some (.pointer (some ⟨g.p,0,none⟩)):=by
 obtain ⟨A,c,h,-⟩:=Q.at H
 exact (cell_blk h).trans rfl
theorem Qx.wide {X:Nat→Prop} {wx w0 w1:World} {g:Gf} {b0:Nat} {w w':World} {cur:As} {at':Int} {st:List (Option As)} {wt:List Int} {f:Fi} {hv:Value} (Q:Qx X wx w0 g f hv) (H:FX X wx w1 g b0 w cur at' st wt) (h:Bl w w'):Qx (Xf X w.heap.size w'.heap.size) w' w0 g f hv:=by
 obtain ⟨A,c,hb,hm⟩:=Q.at H
 exact ⟨Or.inl Q.x,A,c,bl_blk h hb,hm⟩
theorem Cx.bl0 {X:Nat→Prop} {wx w0 w1:World} {g:Gf} {b0:Nat} {w:World} {cur:As} {at':Int} {st:List (Option As)} {wt:List Int} {f:Fi} {m:Me} (C:Cx w0 w1 g f m) (H:FX X wx w1 g b0 w cur at' st wt):Bl w0 w:=by
 obtain ⟨rv,vw,sp,H⟩:=H
 exact ⟨H.fz.os.trans C.bl.os,H.fz.tape.trans C.bl.tape,H.fz.output.trans C.bl.output,Nat.le_trans C.bl.size H.fz.size,fun b hb=>(H.fz.block b (Nat.lt_of_lt_of_le hb C.bl.size) (by have:=C.old.1;omega) (by have:=C.old.2;omega)).trans (C.bl.block b hb)⟩
theorem Cx.jnAt {X:Nat→Prop} {wx w0 w1:World} {g:Gf} {b0:Nat} {w:World} {cur:As} {at':Int} {st:List (Option As)} {wt:List Int} {f:Fi} {m:Me} (C:Cx w0 w1 g f m) (H:FX X wx w1 g b0 w cur at' st wt):JnAt w g.c14 f.classes:=by
 obtain ⟨jb,jo,jc,h1,h2,h3,h4⟩:=C.jn
 refine ⟨jb,jo,jc,h1,fun i hi=>?_⟩
 obtain ⟨rb,ro,rc,a1,a2,a3,a4⟩:=h4 i hi
 exact ⟨rb,ro,rc,H.oldc a1 h2 h3,fun j hj=>H.oldc (a4 j hj) a2 a3⟩
theorem FX.pc {X:Nat→Prop} {wx w1:World} {g:Gf} {b0:Nat} {w:World} {cur:As} {at':Int} {st:List (Option As)} {wt:List Int} (H:FX X wx w1 g b0 w cur at' st wt):w.cell? ⟨g.p,2,none⟩=some g.c2∧w.cell? ⟨g.p,4,none⟩=some g.c4∧w.cell? ⟨g.p,5,none⟩=some g.c5∧w.cell? ⟨g.p,6,none⟩=some g.c6∧w.cell? ⟨g.p,9,none⟩=some g.c9∧w.cell? ⟨g.p,10,none⟩=some g.c10∧w.cell? ⟨g.p,11,none⟩=some (.int .i64 at')∧w.cell? ⟨g.p,12,none⟩=some (.slice (some ⟨g.sb,0,none⟩) st.length g.sc)∧w.cell? ⟨g.p,14,none⟩=some g.c14:=by
 obtain ⟨rv,vw,sp,H⟩:=H
 refine ⟨?_,?_,?_,?_,?_,?_,?_,?_,?_⟩<;>(rw [cell_blk H.blk];rfl)
theorem rowCell {w:World} {base:Nat} {e:TypeId} {vs:Value} {l:List Ty} (h:w.ownsRow base e 2 vs l.length (tyCs l)):∃A cap,vs=.slice A l.length cap∧l.length≤cap∧cap≤maxLen∧(l.length=0∨∃gb,A=some ⟨gb,0,none⟩∧gb<w.heap.size∧(∃cu,w.heap[gb]?=some (.cells cu e (0,0))∧cu.size=cap*2)∧∀i,i<l.length→w.cell? ⟨gb,i*2,none⟩=some (.int .i64 (nth ty0 l i).kind)∧w.cell? ⟨gb,i*2+1,none⟩=some (.int .i64 (nth ty0 l i).cls)):=by
 rcases h.2 with ⟨h1,h0⟩|⟨gb,cap,cur,rfl,hg,hh,hn,hcap,hsz,htake⟩
 ·exact ⟨none,0,by rw [h1,h0],by omega,by unfold maxLen;omega,Or.inl h0⟩
 ·refine ⟨_,cap,rfl,hn,hcap,Or.inr ⟨gb,rfl,lt_some hh,⟨cur,hh,hsz⟩,fun i hi=>?_⟩⟩
  have hx:=va_cells (l.map tv) i (by rw [List.length_map];exact hi)
  have e2:nth va0 (l.map tv) i=tv (nth ty0 l i):=by
   rw [nth_get (l:=l.map tv) (by rw [List.length_map];exact hi),nth_get hi,List.getElem_map]
  have ht:cur.toList.take (l.length*2)=vaCells (l.map tv):=htake
  rw [e2,←ht,List.getElem?_take,List.getElem?_take,if_pos (by omega),if_pos (by omega)] at hx
  refine ⟨?_,?_⟩
  ·rw [cell_blk hh]
   have hx1:cur[i*2]?=some (.int .i64 (tv (nth ty0 l i)).kind):=by simpa using hx.1
   exact hx1
  ·rw [cell_blk hh]
   have hx1:cur[i*2+1]?=some (.int .i64 (tv (nth ty0 l i)).n):=by simpa using hx.2
   exact hx1
section
section
variable (X:Nat→Prop) (wx w1:World) (g:Gf) (b0:Nat) (at':Int) (st:List (Option As)) (wt:List Int)
def AsQ (r:Option As) (e:Ending) (w':World):Prop:=match r with
 | none=>e=upE∧FE X wx w1 g w'
 | some s=>e=.returned (.tuple #[])∧FX X wx w1 g b0 w' s at' st wt
end
end

theorem tyCs_set (l:List Ty) (i:Nat) (v:Ty) (h:i<l.length):tyCs (l.set i v)=((tyCs l).set (i*2) (.int .i64 v.kind)).set (i*2+1) (.int .i64 v.cls):=by
 unfold tyCs
 rw [List.map_set,vaCells_set _ _ _ (by rw [List.length_map];exact h)]
 rfl
theorem rowSet {w:World} {base:Nat} {e:TypeId} {gb cap:Nat} {l:List Ty} (h:w.ownsRow base e 2 (.slice (some ⟨gb,0,none⟩) l.length cap) l.length (tyCs l)) (i:Nat) (v:Ty) (hi:i<l.length) :
  ((w.setCell ⟨gb,i*2,none⟩ (.int .i64 v.kind)).setCell ⟨gb,i*2+1,none⟩ (.int .i64 v.cls)).ownsRow base e 2 (.slice (some ⟨gb,0,none⟩) (l.set i v).length cap) (l.set i v).length (tyCs (l.set i v)):=by
 refine ⟨tyCs_length _,?_⟩
 rcases h.2 with ⟨h0,-⟩|⟨g',cap',cur,hv,hg,hh,hn,hcap,hsz,htake⟩
 ·cases h0
 ·cases hv
  refine Or.inr ⟨gb,cap,(cur.setIfInBounds (i*2) (.int .i64 v.kind)).setIfInBounds (i*2+1) (.int .i64 v.cls),by rw [List.length_set],hg,block_set (block_set hh _) _,by rw [List.length_set];exact hn,hcap,by simp [hsz],?_⟩
  rw [tyCs_set l i v hi,←htake,List.length_set]
  simp only [Array.toList_setIfInBounds]
  refine List.ext_getElem? fun q=>?_
  rw [List.getElem?_take]
  by_cases hq:q<l.length*2
  ·rw [if_pos hq]
   by_cases e1:i*2+1=q
   ·subst e1
    rw [List.getElem?_set_self (by simp;omega),List.getElem?_set_self (by simp;omega)]
   ·rw [List.getElem?_set_ne e1,List.getElem?_set_ne e1]
    by_cases e2:i*2=q
    ·subst e2
     rw [List.getElem?_set_self (by simp;omega),List.getElem?_set_self (by simp;omega)]
    ·rw [List.getElem?_set_ne e2,List.getElem?_set_ne e2,List.getElem?_take,if_pos hq]
  ·rw [if_neg hq,List.getElem?_eq_none (by simp;omega)]
theorem grown2 (w:World) (gb i j:Nat) (u v:Value):w.grownBy ((w.setCell ⟨gb,i,none⟩ u).setCell ⟨gb,j,none⟩ v) (some gb):=grown_trans (grown_set gb i u) (grown_set gb j v)
structure Sl (w:World) (b gb cap base:Nat) (l:List Ty):Prop where
 c:w.cell? ⟨b,0,none⟩=some (.slice (some ⟨gb,0,none⟩) l.length cap)
 ne:b≠gb
 row:w.ownsRow base 243 2 (.slice (some ⟨gb,0,none⟩) l.length cap) l.length (tyCs l)
theorem Sl.cells {w:World} {b gb cap base:Nat} {l:List Ty} (H:Sl w b gb cap base l) {i:Nat} (hi:i<l.length):w.cell? ⟨gb,i*2,none⟩=some (.int .i64 (nth ty0 l i).kind)∧w.cell? ⟨gb,i*2+1,none⟩=some (.int .i64 (nth ty0 l i).cls)∧(∀k,w.frozen? ⟨gb,k,none⟩=false):=by
 obtain ⟨A,c,h1,h2,h3,h4⟩:=rowCell H.row
 have hA:A=some ⟨gb,0,none⟩:=by injection h1 with a1 a2 a3;exact a1.symm
 rcases h4 with h4|⟨gb',h5,h6,⟨cu,h7,-⟩,h8⟩
 ·omega
 ·rw [hA] at h5;cases h5
  exact ⟨(h8 i hi).1,(h8 i hi).2,fun k=>free_blk h7 k⟩
theorem Sl.set {w:World} {b gb cap base:Nat} {l:List Ty} (H:Sl w b gb cap base l) (i:Nat) (v:Ty) (hi:i<l.length):Sl ((w.setCell ⟨gb,i*2,none⟩ (.int .i64 v.kind)).setCell ⟨gb,i*2+1,none⟩ (.int .i64 v.cls)) b gb cap base (l.set i v):=by
 have hg:=grown2 w gb (i*2) (i*2+1) (.int .i64 v.kind) (.int .i64 v.cls)
 refine ⟨?_,H.ne,rowSet H.row i v hi⟩
 rw [List.length_set]
 exact hg.cell H.c (fun e=>H.ne (Option.some.inj e))
theorem Sl.bl {w w':World} {b gb cap base:Nat} {l:List Ty} (H:Sl w b gb cap base l) (h:Bl w w'):Sl w' b gb cap base l:=⟨h.cell H.c,H.ne,rowBl H.row h⟩
theorem flose_any (b gb cap base:Nat) (l:List Ty) (a:Nat) (w:World) (H:Sl w b gb cap base l) (ha:a<l.length) (hl:l.length≤3000) (T2:(nth ty0 l a).kind=2→a+1<l.length) (T4:(nth ty0 l a).kind=4→1≤a) :
  Calls Tryz.prog 303 #[.pointer (some ⟨b,0,none⟩),.int .i64 (a:Int)] w fun e w'=>e=.returned (.tuple #[])∧Sl w' b gb cap base (losT l a)∧w.grownBy w' (some gb):=by
 have HH:=hid H
 obtain ⟨c0,-,cf⟩:=H.cells ha
 have hb:=cell_lt H.c
 have hgb:=cell_lt c0
 have hc:=H.c
 have ha0:(0:Int)≤(a:Int):=by omega
 have ha1:(a:Int)<(l.length:Int):=by omega
 clear H
 by_cases h2:(nth ty0 l a).kind=2
 ·have h1':=T2 h2
  obtain ⟨d0,d1,-⟩:=HH.out.cells h1'
  have e1:Hid (losT l a=l.set (a+1) ty0):=by show losT l a=_;unfold losT;rw [if_pos h2]
  have ha2:(a:Int)+1<(l.length:Int):=by omega
  have hz:((nth ty0 l a).kind==2)=true:=by simpa using h2
  have hi:((a+1:Nat):Int)=(a:Int)+1:=by omega
  have hw:IntKind.i64.wrap ((a:Int)+1)=(a:Int)+1:=by rw [IntKind.wrap_i64];omega
  have H1:=hid h1'
  clear T2 T4 h2 h1'
  generalize (nth ty0 l a).kind=ka at *
  go_enter Tryz.func303,Tryz.ntmps303
  go_wp2
  go_end0
  exact ⟨rfl,by rw [e1.out];exact HH.out.set (a+1) ty0 H1.out,grown2 _ _ _ _ _ _⟩
 ·have hz:((nth ty0 l a).kind==2)=false:=by simpa using h2
  by_cases h4:(nth ty0 l a).kind=4
  ·have h1':=T4 h4
   obtain ⟨c,rfl⟩:∃c,a=c+1:=⟨a-1,by omega⟩
   obtain ⟨d0,d1,-⟩:=HH.out.cells (i:=c) (by omega)
   have e1:Hid (losT l (c+1)=l.set c ty0):=by show losT l (c+1)=_;unfold losT;rw [if_neg h2,if_pos h4];rfl
   have hz4:((nth ty0 l (c+1)).kind==4)=true:=by simpa using h4
   have ha2:(c:Int)<(l.length:Int):=by omega
   have hc0:(0:Int)≤(c:Int):=by omega
   have hi:((c+1:Nat):Int)-1=(c:Int):=by omega
   have hw:IntKind.i64.wrap (c:Int)=(c:Int):=by rw [IntKind.wrap_i64];omega
   have H1:=hid (show c<l.length by omega)
   clear T2 T4 h2 h4 h1'
   generalize (nth ty0 l (c+1)).kind=ka at *
   go_enter Tryz.func303,Tryz.ntmps303
   go_wp2
   go_end0
   exact ⟨rfl,by rw [e1.out];exact HH.out.set c ty0 H1.out,grown2 _ _ _ _ _ _⟩
  ·have hz4:((nth ty0 l a).kind==4)=false:=by simpa using h4
   have e1:Hid (losT l a=l):=by show losT l a=_;unfold losT;rw [if_neg h2,if_neg h4]
   clear T2 T4 h2 h4
   generalize (nth ty0 l a).kind=ka at *
   go_enter Tryz.func303,Tryz.ntmps303
   go_wp2
   go_end0
   exact ⟨rfl,by rw [e1.out];exact HH.out,⟨rfl,rfl,rfl,Nat.le_refl _,fun _ _ _=>rfl⟩⟩
theorem losT_T2 (l:List Ty) (a:Nat) (ha:a+1<l.length) (P:PairT l):(nth ty0 (losT l a) (a+1)).kind=2→a+1+1<(losT l a).length:=fun h=>by
 rw [losT_length]
 rcases losT_nth2 l a (a+1) (by omega) P (by omega) with e|e
 ·rw [e] at h;exact absurd h (by decide)
 ·rw [e] at h;exact (P.1 (a+1) ha h).1
theorem grown_bl' {w w' w2:World} {row:Option Nat} (h:Bl w w') (k:w'.grownBy w2 row):w.grownBy w2 row:=⟨k.os.trans h.os,k.tape.trans h.tape,k.output.trans h.output,Nat.le_trans h.size k.size,fun i hi hn=>(k.block i (Nat.lt_of_lt_of_le hi h.size) hn).trans (h.block i hi)⟩
theorem grown_bl2 {w w' w2:World} {row:Option Nat} (h:w.grownBy w' row) (k:Bl w' w2):w.grownBy w2 row:=⟨k.os.trans h.os,k.tape.trans h.tape,k.output.trans h.output,Nat.le_trans h.size k.size,fun i hi hn=>(k.block i (Nat.lt_of_lt_of_le hi h.size)).trans (h.block i hi hn)⟩
theorem fwrite_any (b gb cap base:Nat) (l:List Ty) (a:Nat) (v:Ty) (w:World) (H:Sl w b gb cap base l) (ha:a<l.length) (hl:l.length≤3000) (T:PairT l) (hv:v.kind=2→a+1<l.length) :
  Calls Tryz.prog 271 #[.pointer (some ⟨b,0,none⟩),.int .i64 (a:Int),fvV v] w fun e w'=>e=.returned (.tuple #[])∧Sl w' b gb cap base (wrT l a v)∧w.grownBy w' (some gb):=by
 have HB:Hid (Bl w (w.alloc (fvO v))):=(Bl.refl w).alloc _
 have HL:=hid (mblk (w:=w) (cs:=#[.int .i64 v.kind,.int .i64 v.cls]) (t:=243) rfl)
 have hgbw:gb<w.heap.size:=cell_lt (H.cells ha).1
 have HG:=hid hgbw
 have HS:=hid (flose_any b gb cap base l a _ (H.bl HB.out) ha hl (fun h=>(T.1 a ha h).1) (fun h=>(T.2 a ha h).1))
 have ha0:(0:Int)≤(a:Int):=by omega
 have ha1:(a:Int)<(l.length:Int):=by omega
 have hbw:=cell_lt H.c
 have ll:=losT_length l a
 by_cases h2:v.kind=2
 ·have hv1:=hv h2
  have hz:(v.kind==2)=true:=by simpa using h2
  have HT:=hid (losT_T2 l a hv1 T)
  have E1:Hid (wrT l a v=((losT (losT l a) (a+1)).set (a+1) ⟨4,0⟩).set a v):=by show wrT l a v=_;unfold wrT;rw [if_pos h2]
  have hw:IntKind.i64.wrap ((a:Int)+1)=(a:Int)+1:=by rw [IntKind.wrap_i64];omega
  have hi:((a+1:Nat):Int)=(a:Int)+1:=by omega
  have ha2:(a:Int)+1<(l.length:Int):=by omega
  have H1:=hid hv1
  have HA:=hid ha
  have HLL:=hid hl
  have L2:Hid ((losT (losT l a) (a+1)).length=l.length):=by show (losT (losT l a) (a+1)).length=_;rw [losT_length,ll]
  have L1:=hid ll
  clear H h2 T hv hv1 ha hl ll
  go_enter Tryz.func271,Tryz.ntmps271
  go_wp2_with (first
   | (go_at_call_of 303 (Value.int IntKind.i64 (a:Int));refine HS.out.mono ?_;rintro e w2 ⟨rfl,s2,g2⟩;have S2:=hid s2;have G2:=hid (grown_bl' HB.out g2);have Z2:=hid ((g2.block w.heap.size (by simp) (by intro e;have:=Option.some.inj e;omega)).trans HL.out);have z0:=c0_of Z2.out;have z1:=c1_of Z2.out;clear s2 g2)
   | (go_at_call 303;rw [←hi];refine (flose_any b gb cap base (losT l a) (a+1) _ S2.out (by rw [L1.out];exact H1.out) (by rw [L1.out];exact HLL.out) HT.out (fun _=>by omega)).mono ?_;rintro e w3 ⟨rfl,s3,g3⟩;have S3:=hid s3;have G3:=hid (grown_trans G2.out g3);have Z3:=hid ((g3.block w.heap.size (lt_some Z2.out) (by intro e;have:=Option.some.inj e;omega)).trans Z2.out);have hc3:=s3.c;rw [L2.out] at hc3;obtain ⟨d0,d1,df⟩:=s3.cells (i:=a+1) (by rw [L2.out];exact H1.out);have hb3:=cell_lt hc3;have hgb3:=cell_lt d0;clear s3 g3 z0 z1))
  have S4:=hid (S3.out.set (a+1) ⟨4,0⟩ (by rw [L2.out];exact H1.out))
  have G4:=hid (grown_trans G3.out (grown2 w3 gb ((a+1)*2) ((a+1)*2+1) (.int .i64 4) (.int .i64 0)))
  have Z4:=hid (((grown2 w3 gb ((a+1)*2) ((a+1)*2+1) (.int .i64 4) (.int .i64 0)).block w.heap.size (lt_some Z3.out) (by intro e;have:=Option.some.inj e;omega)).trans Z3.out)
  have L4:Hid (((losT (losT l a) (a+1)).set (a+1) ⟨4,0⟩).length=l.length):=by show ((losT (losT l a) (a+1)).set (a+1) ⟨4,0⟩).length=_;rw [List.length_set,L2.out]
  generalize (losT (losT l a) (a+1)).set (a+1) ⟨4,0⟩=l4 at *
  clear hc3 d0 d1 df hb3 hgb3 S3 G3 Z3
  have S4:Hid (Sl ((w3.setCell ⟨gb,(a+1)*2,none⟩ (.int .i64 4)).setCell ⟨gb,(a+1)*2+1,none⟩ (.int .i64 0)) b gb cap base l4):=S4
  generalize (w3.setCell ⟨gb,(a+1)*2,none⟩ (.int .i64 4)).setCell ⟨gb,(a+1)*2+1,none⟩ (.int .i64 0)=w4 at *
  have hc4:=S4.out.c
  rw [L4.out] at hc4
  obtain ⟨e0,e1,ef⟩:=S4.out.cells (i:=a) (by rw [L4.out];exact HA.out)
  have hb4:=cell_lt hc4
  have hgb4:=cell_lt e0
  have y0:=c0_of Z4.out
  have y1:=c1_of Z4.out
  have hz4:=cell_lt y0
  go_region
  go_wp2
  go_end0
  exact ⟨rfl,by rw [E1.out];exact (S4.out.set a v (by rw [L4.out];exact HA.out)).bl (Bl.refl _).drew,grown_bl2 (grown_trans G4.out (grown2 _ _ _ _ _ _)) (Bl.refl _).drew⟩
 ·have hz:(v.kind==2)=false:=by simpa using h2
  have E1:Hid (wrT l a v=(losT l a).set a v):=by show wrT l a v=_;unfold wrT;rw [if_neg h2]
  have HA:=hid ha
  have L1:=hid ll
  clear H h2 T hv ha hl ll
  go_enter Tryz.func271,Tryz.ntmps271
  go_wp2_with (go_at_call 303;refine HS.out.mono ?_;rintro e w2 ⟨rfl,s2,g2⟩;have S2:=hid s2;have G2:=hid (grown_bl' HB.out g2);have Z2:=hid ((g2.block w.heap.size (by simp) (by intro e;have:=Option.some.inj e;omega)).trans HL.out);have z0:=c0_of Z2.out;have z1:=c1_of Z2.out;clear s2 g2)
  have hc4:=S2.out.c
  rw [L1.out] at hc4
  obtain ⟨e0,e1,ef⟩:=S2.out.cells (i:=a) (by rw [L1.out];exact HA.out)
  have hb4:=cell_lt hc4
  have hgb4:=cell_lt e0
  have hz4:=cell_lt z0
  go_region
  go_wp2
  go_end0
  exact ⟨rfl,by rw [E1.out];exact (S2.out.set a v (by rw [L1.out];exact HA.out)).bl (Bl.refl _).drew,grown_bl2 (grown_trans G2.out (grown2 _ _ _ _ _ _)) (Bl.refl _).drew⟩
end Go.Proofs.YtgiiapenmjollabGreat
