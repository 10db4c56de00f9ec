import Derived.Test.YtgiiapenmjollaaGreatSsac
import Derived.Laws.StructEq
import Derived.Deep.RegionHeld3
namespace Go.Proofs.YtgiiapenmjollaaGreat
set_option linter.all false
set_option maxHeartbeats 40000000
set_option maxRecDepth 100000
open Go.RowKit
def bothT (cs:List Cl) (v u:Ty):Ty:=if v.kind≠3∨u.kind≠3 then ty0 else if v.cls=-1 then u else if u.cls=-1 then v else ⟨3,(joinN cs v.cls.toNat u.cls.toNat:Nat)⟩
def eqT (x y:Ty):Bool:=decide (x.kind=y.kind)&&decide (x.cls=y.cls)
theorem eqT_eq {x y:Ty}:eqT x y=true↔x=y:=by
 unfold eqT
 rw [Bool.and_eq_true,decide_eq_true_eq,decide_eq_true_eq]
 constructor
 ·rintro ⟨h1,h2⟩
  cases x;cases y
  dsimp only at h1 h2
  subst h1;subst h2;rfl
 ·rintro rfl;exact ⟨rfl,rfl⟩
def m1 (cs:List Cl) (x y:Ty):Ty:=if eqT x y=true then x else bothT cs x y
def mergeTo (cs:List Cl) (a b:List Ty) (k:Nat):List Ty:=(List.range a.length).map fun j=>if j<k then m1 cs (nth ty0 a j) (nth ty0 b j) else nth ty0 a j
def mergeL (cs:List Cl) (a b:List Ty):List Ty:=mergeTo cs a b a.length
def lessTo (cs:List Cl) (a b:List Ty) (k:Nat):Bool:=(List.range k).any fun j=>!eqT (m1 cs (nth ty0 a j) (nth ty0 b j)) (nth ty0 a j)
theorem mergeTo_length (cs:List Cl) (a b:List Ty) (k:Nat):(mergeTo cs a b k).length=a.length:=by unfold mergeTo;simp
theorem mergeTo_nth (cs:List Cl) (a b:List Ty) (k j:Nat) (hj:j<a.length):nth ty0 (mergeTo cs a b k) j=if j<k then m1 cs (nth ty0 a j) (nth ty0 b j) else nth ty0 a j:=by
 rw [nth_get (by rw [mergeTo_length];exact hj)]
 unfold mergeTo
 simp
theorem ext_nth {a b:List Ty} (hl:a.length=b.length) (h:∀j,j<a.length→nth ty0 a j=nth ty0 b j):a=b:=by
 refine List.ext_getElem hl fun j h1 h2=>?_
 have:=h j h1
 rw [nth_get h1,nth_get h2] at this;exact this
theorem mergeTo_zero (cs:List Cl) (a b:List Ty):mergeTo cs a b 0=a:=ext_nth (mergeTo_length cs a b 0) fun j hj=>by
 rw [mergeTo_length] at hj
 rw [mergeTo_nth cs a b 0 j hj,if_neg (by omega)]
theorem mergeTo_succ (cs:List Cl) (a b:List Ty) (k:Nat) (hk:k<a.length):(mergeTo cs a b k).set k (m1 cs (nth ty0 a k) (nth ty0 b k))=mergeTo cs a b (k+1):=ext_nth (by rw [List.length_set,mergeTo_length,mergeTo_length]) fun j hj=>by
 rw [List.length_set,mergeTo_length] at hj
 rw [nth_setI (by rw [mergeTo_length];exact hk),mergeTo_nth cs a b (k+1) j hj]
 by_cases e:k=j
 ·subst e;rw [if_pos rfl,if_pos (by omega)]
 ·rw [if_neg e,mergeTo_nth cs a b k j hj]
  by_cases e2:j<k
  ·rw [if_pos e2,if_pos (by omega)]
  ·rw [if_neg e2,if_neg (by omega)]
theorem mergeTo_same (cs:List Cl) (a b:List Ty) (k:Nat) (hk:k<a.length) (he:m1 cs (nth ty0 a k) (nth ty0 b k)=nth ty0 a k):mergeTo cs a b k=mergeTo cs a b (k+1):=by
 rw [←mergeTo_succ cs a b k hk,he]
 refine ext_nth (by rw [List.length_set]) fun j hj=>?_
 rw [mergeTo_length] at hj
 rw [nth_setI (by rw [mergeTo_length];exact hk)]
 by_cases e:k=j
 ·subst e;rw [if_pos rfl,mergeTo_nth cs a b k k hj,if_neg (by omega)]
 ·rw [if_neg e]
theorem lessTo_succ (cs:List Cl) (a b:List Ty) (k:Nat):lessTo cs a b (k+1)=(lessTo cs a b k||!eqT (m1 cs (nth ty0 a k) (nth ty0 b k)) (nth ty0 a k)):=by
 unfold lessTo
 rw [List.range_succ,List.any_append]
 simp
def htT (t:Ty):Nat:=if t.kind=3 then (if t.cls=-1 then 20 else 2+t.cls.toNat) else if t.kind=0∧t.cls=0 then 0 else 1
theorem m1_refOk {cs:List Cl} (ht:Tree cs) {x y:Ty} (hx:refOk cs.length x) (hy:refOk cs.length y):refOk cs.length (m1 cs x y):=by
 unfold m1 bothT
 split
 ·exact hx
 split
 ·exact fun e=>absurd e (by decide)
 split
 ·exact hy
 split
 ·exact hx
 ·rename_i h1 h2 h3
  have k1:x.kind=3:=by omega
  have k2:y.kind=3:=by omega
  have a1:=(hx k1).resolve_left h2
  have a2:=(hy k2).resolve_left h3
  intro _
  right
  have:=(join_there ht x.cls.toNat y.cls.toNat (by omega) (by omega)).1
  have:=ups_le ht _ (by omega) _ this
  dsimp only
  omega
theorem m1_le {cs:List Cl} (ht:Tree cs) {x y:Ty} (hx:refOk cs.length x) (hy:refOk cs.length y):leT cs x (m1 cs x y)∧leT cs y (m1 cs x y):=by
 unfold m1
 split
 ·rename_i h
  rw [eqT_eq] at h
  subst h
  exact ⟨leT.refl cs x,leT.refl cs x⟩
 unfold bothT
 split
 ·exact ⟨Or.inl rfl,Or.inl rfl⟩
 rename_i h1
 have k1:x.kind=3:=by omega
 have k2:y.kind=3:=by omega
 split
 ·rename_i h2
  exact ⟨Or.inr (Or.inr ⟨k1,k2,Or.inl h2⟩),leT.refl cs y⟩
 split
 ·rename_i h2 h3
  exact ⟨leT.refl cs x,Or.inr (Or.inr ⟨k2,k1,Or.inl h3⟩)⟩
 rename_i h2 h3
 have a1:=(hx k1).resolve_left h2
 have a2:=(hy k2).resolve_left h3
 have J:=join_there ht x.cls.toNat y.cls.toNat (by omega) (by omega)
 have l1:=ups_le ht _ (by omega) _ J.1
 refine ⟨Or.inr (Or.inr ⟨k1,rfl,Or.inr ⟨a1.1,a1.2,by dsimp only;omega,by dsimp only;omega,?_⟩⟩),Or.inr (Or.inr ⟨k2,rfl,Or.inr ⟨a2.1,a2.2,by dsimp only;omega,by dsimp only;omega,?_⟩⟩)⟩
 ·dsimp only;rw [Int.toNat_natCast];exact bel_iff.2 J.1
 ·dsimp only;rw [Int.toNat_natCast];exact bel_iff.2 J.2.1
theorem m1_ht {cs:List Cl} (ht:Tree cs) (h12:cs.length≤12) {x y:Ty} (hx:refOk cs.length x) (hy:refOk cs.length y) (hn:eqT (m1 cs x y) x=false):htT (m1 cs x y)<htT x:=by
 have hne:m1 cs x y≠x:=fun e=>by rw [eqT_eq.2 e] at hn;exact absurd hn (by decide)
 unfold m1 at hne ⊢
 split at hne
 ·exact absurd rfl hne
 rename_i hxy
 rw [if_neg hxy]
 have hxy':x≠y:=fun e=>hxy (eqT_eq.2 e)
 unfold bothT at hne ⊢
 split at hne
 ·rename_i h1
  rw [if_pos h1]
  have h0:htT ty0=0:=rfl
  rw [h0]
  unfold htT
  split
  ·split<;>omega
  split
  ·rename_i h3 h4
   exfalso
   apply hne
   cases x
   dsimp only at h4
   rw [show ty0=(⟨0,0⟩:Ty) from rfl,h4.1,h4.2]
  ·omega
 rename_i h1
 rw [if_neg h1]
 have k1:x.kind=3:=by omega
 have k2:y.kind=3:=by omega
 split at hne
 ·rename_i h2
  rw [if_pos h2]
  unfold htT
  rw [if_pos k2,if_pos k1,if_pos h2]
  by_cases h3:y.cls=-1
  ·exfalso;apply hxy'
   cases x;cases y
   dsimp only at k1 k2 h2 h3
   rw [k1,k2,h2,h3]
  ·rw [if_neg h3]
   have:=(hy k2).resolve_left h3
   omega
 rename_i h2
 rw [if_neg h2]
 split at hne
 ·exact absurd rfl hne
 rename_i h3
 rw [if_neg h3]
 have a1:=(hx k1).resolve_left h2
 have a2:=(hy k2).resolve_left h3
 have J:=join_there ht x.cls.toNat y.cls.toNat (by omega) (by omega)
 have l1:=ups_le ht _ (by omega) _ J.1
 unfold htT
 dsimp only
 rw [if_pos rfl,if_neg (by omega),if_pos k1,if_neg h2,Int.toNat_natCast]
 have:joinN cs x.cls.toNat y.cls.toNat≠x.cls.toNat:=fun e=>by
  apply hne
  cases x
  dsimp only at k1 a1 e ⊢
  rw [k1,e]
  congr 1
  omega
 omega
def JnAt (w:World) (vj:Value) (cs:List Cl):Prop:=∃jb jo jc,vj=.slice (some ⟨jb,jo,none⟩) cs.length jc∧∀i,i<cs.length→∃rb ro rc,w.cell? ⟨jb,jo+i,none⟩=some (.slice (some ⟨rb,ro,none⟩) cs.length rc)∧∀j,j<cs.length→w.cell? ⟨rb,ro+j,none⟩=some (.int .i64 (joinN cs i j:Nat))
theorem JnAt.bl {w w':World} {vj:Value} {cs:List Cl} (h:JnAt w vj cs) (b:Bl w w'):JnAt w' vj cs:=by
 obtain ⟨jb,jo,jc,h1,h2⟩:=h
 refine ⟨jb,jo,jc,h1,fun i hi=>?_⟩
 obtain ⟨rb,ro,rc,h3,h4⟩:=h2 i hi
 exact ⟨rb,ro,rc,b.cell h3,fun j hj=>b.cell (h4 j hj)⟩
theorem fv_fields:Tryz.prog.underlying 233=some (.struct (Tryz.prog.fieldsOf 233)):=by kernel_rfl
theorem fv_held:Tryz.prog.stoodInHeld 233=false:=by kernel_rfl
theorem eql_fv (a b c d:Int) (w:World):(binOp .eql 233 (.agg #[.int .i64 a,.int .i64 b]) (.agg #[.int .i64 c,.int .i64 d])).run Tryz.prog w=.ok (.bool (decide (a=c)&&decide (b=d))) w:=by
 rw [run_eql_struct,run_equalIn_agg w 9999 _ _ _ fv_fields fv_held]
 simp [go_sem,Tryz.underlying233,Tryz.underlying3]
 by_cases h1:a=c<;>by_cases h2:b=d<;>simp [h1,h2]
abbrev fvO (t:Ty):Obj:=.cells #[.int .i64 t.kind,.int .i64 t.cls] 233
abbrev fvZ:Obj:=.cells #[.int .i64 0,.int .i64 0] 233
theorem both_any (cs:List Cl) (vj:Value) (v u:Ty) (w:World) (h:v.kind≠3∨u.kind≠3) :
  Calls Tryz.prog 256 #[vj,fvV v,fvV u] w fun e w'=>e=.returned (fvV ty0)∧Bl w w':=by
 have HB:Hid (Bl w (((w.alloc (fvO v)).alloc (fvO u)).alloc fvZ)):=(((Bl.refl w).alloc _).alloc _).alloc _
 by_cases h1:v.kind=3
 ·have h2:(u.kind !=3)=true:=by have:u.kind≠3:=(by omega);simpa using this
  have h1':(v.kind !=3)=false:=by simpa using h1
  clear h1 h
  go_enter Tryz.func256,Tryz.ntmps256
  go_wp2
  refine bodyPost_ret (results_cell_row rfl _ _ (w.heap.size+2) _ _ _ _ rfl (mblk (by simp)) Tryz.underlying233 rfl info_fv) rfl ?_
  exact ⟨rfl,HB.out⟩
 ·have h1':(v.kind !=3)=true:=by simpa using h1
  clear h1 h
  go_enter Tryz.func256,Tryz.ntmps256
  go_wp2
  refine bodyPost_ret (results_cell_row rfl _ _ (w.heap.size+2) _ _ _ _ rfl (mblk (by simp)) Tryz.underlying233 rfl info_fv) rfl ?_
  exact ⟨rfl,HB.out⟩
structure Bx3 (w:World) (b:Nat) (v u:Ty):Prop where
 one:w.heap[b]?=some (.cells #[.int .i64 v.kind,.int .i64 v.cls] 233 (0,0))
 two:w.heap[b+1]?=some (.cells #[.int .i64 u.kind,.int .i64 u.cls] 233 (0,0))
 res:w.heap[b+2]?=some (.cells #[.int .i64 0,.int .i64 0] 233 (0,0))
theorem Bx3.new (w:World) (v u:Ty):Bx3 (((w.alloc (fvO v)).alloc (fvO u)).alloc fvZ) w.heap.size v u :=
 ⟨((heap_alloc_old _ _ (by simp;omega)).trans (heap_alloc_old _ _ (by simp))).trans (mblk rfl),(heap_alloc_old _ _ (by simp)).trans (mblk (by simp)),mblk (by simp)⟩
theorem Bx3.bl {w w':World} {b:Nat} {v u:Ty} (h:Bx3 w b v u) (k:Bl w w'):Bx3 w' b v u :=
 ⟨(k.block _ (lt_some h.one)).trans h.one,(k.block _ (lt_some h.two)).trans h.two,(k.block _ (lt_some h.res)).trans h.res⟩
theorem both_l (cs:List Cl) (vj:Value) (v u:Ty) (w:World) (hv:v.kind=3) (hu:u.kind=3) (hn:v.cls=-1) :
  Calls Tryz.prog 256 #[vj,fvV v,fvV u] w fun e w'=>e=.returned (fvV u)∧Bl w w':=by
 have HB:Hid (Bl w (((w.alloc (fvO v)).alloc (fvO u)).alloc fvZ)):=(((Bl.refl w).alloc _).alloc _).alloc _
 have H3:Hid (Bx3 (((w.alloc (fvO v)).alloc (fvO u)).alloc fvZ) w.heap.size v u):=Bx3.new w v u
 have hv':(v.kind !=3)=false:=by simpa using hv
 have hu':(u.kind !=3)=false:=by simpa using hu
 have hq:∀w,_:=fun w=>eql_fv v.kind v.cls 3 (-1) w
 have hd:(decide (v.kind=3)&&decide (v.cls=-1))=true:=by simp [hv,hn]
 rw [hd] at hq
 clear hv hn hd hu
 go_enter Tryz.func256,Tryz.ntmps256
 go_wp2
 have x0:∀x:Fut (((w.alloc (fvO v)).alloc (fvO u)).alloc fvZ),x.to.cell? ⟨w.heap.size,0,none⟩=some (.int .i64 v.kind):=fut_cell ((cell_blk H3.out.one).trans rfl)
 have x1:∀x:Fut (((w.alloc (fvO v)).alloc (fvO u)).alloc fvZ),x.to.cell? ⟨w.heap.size,1,none⟩=some (.int .i64 v.cls):=fut_cell ((cell_blk H3.out.one).trans rfl)
 refine wp_region_fut (by kernel_rfl) (by kernel_rfl) fun hne=>?_
 repeat (go_big_quiet_step ((go_at_call 216;exact Calls.fut_eq _ (fnot_any _) rfl)))
 refine wpQuiet_nil ?_
 rintro W2 ⟨⟨w2,hw2⟩,hE⟩
 replace hE:w2=W2:=hE.symm
 subst hE
 clear x0 x1 hne hq
 have B2:Hid (Bx3 w2 w.heap.size v u):=H3.out.bl hw2
 have HW:Hid (Bl _ w2):=hw2
 clear hw2
 have c0:=(cell_blk (i:=0) B2.out.two).trans rfl
 have c1:=(cell_blk (i:=1) B2.out.two).trans rfl
 have r0:=(cell_blk (i:=0) B2.out.res).trans rfl
 have r1:=(cell_blk (i:=1) B2.out.res).trans rfl
 have rf:=free_blk B2.out.res
 go_wp2
 refine bodyPost_ret (results_cell_row rfl _ _ (w.heap.size+2) _ _ _ _ rfl (block_set (block_set B2.out.res _) _) Tryz.underlying233 rfl info_fv) rfl ?_
 exact ⟨rfl,((HB.out.trans HW.out).setCell (by show _≤w.heap.size+2;omega) _).setCell (by show _≤w.heap.size+2;omega) _⟩
theorem both_r (cs:List Cl) (vj:Value) (v u:Ty) (w:World) (hv:v.kind=3) (hu:u.kind=3) (hn:v.cls≠-1) (hm:u.cls=-1) :
  Calls Tryz.prog 256 #[vj,fvV v,fvV u] w fun e w'=>e=.returned (fvV v)∧Bl w w':=by
 have HB:Hid (Bl w (((w.alloc (fvO v)).alloc (fvO u)).alloc fvZ)):=(((Bl.refl w).alloc _).alloc _).alloc _
 have H3:Hid (Bx3 (((w.alloc (fvO v)).alloc (fvO u)).alloc fvZ) w.heap.size v u):=Bx3.new w v u
 have hv':(v.kind !=3)=false:=by simpa using hv
 have hu':(u.kind !=3)=false:=by simpa using hu
 have hq:∀w,_:=fun w=>eql_fv v.kind v.cls 3 (-1) w
 have hd:(decide (v.kind=3)&&decide (v.cls=-1))=false:=by simp [hv,hn]
 rw [hd] at hq
 have HQ2:Hid (∀w,_):=fun w=>eql_fv u.kind u.cls 3 (-1) w
 have hd2:(decide (u.kind=3)&&decide (u.cls=-1))=true:=by simp [hu,hm]
 rw [hd2] at HQ2
 clear hv hn hd hu hm hd2
 go_enter Tryz.func256,Tryz.ntmps256
 go_wp2
 have x0:∀x:Fut (((w.alloc (fvO v)).alloc (fvO u)).alloc fvZ),x.to.cell? ⟨w.heap.size,0,none⟩=some (.int .i64 v.kind):=fut_cell ((cell_blk H3.out.one).trans rfl)
 have x1:∀x:Fut (((w.alloc (fvO v)).alloc (fvO u)).alloc fvZ),x.to.cell? ⟨w.heap.size,1,none⟩=some (.int .i64 v.cls):=fut_cell ((cell_blk H3.out.one).trans rfl)
 refine wp_region_fut (by kernel_rfl) (by kernel_rfl) fun hne=>?_
 repeat (go_big_quiet_step ((go_at_call 216;exact Calls.fut_eq _ (fnot_any _) rfl)))
 refine wpQuiet_nil ?_
 rintro W2 ⟨⟨w2,hw2⟩,hE⟩
 replace hE:w2=W2:=hE.symm
 subst hE
 clear x0 x1 hne hq
 have B2:Hid (Bx3 w2 w.heap.size v u):=H3.out.bl hw2
 have HW:Hid (Bl _ w2):=hw2
 clear hw2
 have hq2:=HQ2.out
 go_wp2
 have x0:∀x:Fut w2,x.to.cell? ⟨w.heap.size+1,0,none⟩=some (.int .i64 u.kind):=fut_cell ((cell_blk B2.out.two).trans rfl)
 have x1:∀x:Fut w2,x.to.cell? ⟨w.heap.size+1,1,none⟩=some (.int .i64 u.cls):=fut_cell ((cell_blk B2.out.two).trans rfl)
 refine wp_region_fut (by kernel_rfl) (by kernel_rfl) fun hne=>?_
 repeat (go_big_quiet_step ((go_at_call 216;exact Calls.fut_eq _ (fnot_any _) rfl)))
 refine wpQuiet_nil ?_
 rintro W3 ⟨⟨w3,hw3⟩,hE⟩
 replace hE:w3=W3:=hE.symm
 subst hE
 clear x0 x1 hne hq2
 have B3:Hid (Bx3 w3 w.heap.size v u):=B2.out.bl hw3
 have HW3:Hid (Bl _ w3):=HW.out.trans hw3
 clear hw3
 have c0:=(cell_blk (i:=0) B3.out.one).trans rfl
 have c1:=(cell_blk (i:=1) B3.out.one).trans rfl
 have r0:=(cell_blk (i:=0) B3.out.res).trans rfl
 have r1:=(cell_blk (i:=1) B3.out.res).trans rfl
 have rf:=free_blk B3.out.res
 go_wp2
 refine bodyPost_ret (results_cell_row rfl _ _ (w.heap.size+2) _ _ _ _ rfl (block_set (block_set B3.out.res _) _) Tryz.underlying233 rfl info_fv) rfl ?_
 exact ⟨rfl,((HB.out.trans HW3.out).setCell (by show _≤w.heap.size+2;omega) _).setCell (by show _≤w.heap.size+2;omega) _⟩
theorem both_j (cs:List Cl) (jb jo jc rb ro rc:Nat) (v u:Ty) (i j:Nat) (w:World) (hv:v.kind=3) (hu:u.kind=3) (hi:v.cls=i) (hj:u.cls=j) (hil:i<cs.length) (hjl:j<cs.length) (hcs:cs.length≤12)
  (h1:w.cell? ⟨jb,jo+i,none⟩=some (.slice (some ⟨rb,ro,none⟩) cs.length rc)) (h2:w.cell? ⟨rb,ro+j,none⟩=some (.int .i64 (joinN cs i j:Nat))) :
  Calls Tryz.prog 256 #[.slice (some ⟨jb,jo,none⟩) cs.length jc,fvV v,fvV u] w fun e w'=>e=.returned (fvV ⟨3,(joinN cs i j:Nat)⟩)∧Bl w w':=by
 have HB:Hid (Bl w (((w.alloc (fvO v)).alloc (fvO u)).alloc fvZ)):=(((Bl.refl w).alloc _).alloc _).alloc _
 have H3:Hid (Bx3 (((w.alloc (fvO v)).alloc (fvO u)).alloc fvZ) w.heap.size v u):=Bx3.new w v u
 have hv':(v.kind !=3)=false:=by simpa using hv
 have hu':(u.kind !=3)=false:=by simpa using hu
 have hq:∀w,_:=fun w=>eql_fv v.kind v.cls 3 (-1) w
 have hd:(decide (v.kind=3)&&decide (v.cls=-1))=false:=by simp [hv,hi]
 rw [hd] at hq
 have HQ2:Hid (∀w,_):=fun w=>eql_fv u.kind u.cls 3 (-1) w
 have hd2:(decide (u.kind=3)&&decide (u.cls=-1))=false:=by simp [hu,hj]
 rw [hd2] at HQ2
 have HI:Hid (v.cls=(i:Int)):=hi
 have HJ:Hid (u.cls=(j:Int)):=hj
 have H1:Hid (w.cell? ⟨jb,jo+i,none⟩=some (.slice (some ⟨rb,ro,none⟩) cs.length rc)):=h1
 have H2:Hid (w.cell? ⟨rb,ro+j,none⟩=some (.int .i64 (joinN cs i j:Nat))):=h2
 have HL:Hid (cs.length≤12):=hcs
 clear hv hi hd hu hj hd2 h1 h2 hcs
 generalize hn:cs.length=n at *
 generalize (joinN cs i j:Nat)=z at *
 go_enter Tryz.func256,Tryz.ntmps256
 go_wp2
 have x0:∀x:Fut (((w.alloc (fvO v)).alloc (fvO u)).alloc fvZ),x.to.cell? ⟨w.heap.size,0,none⟩=some (.int .i64 v.kind):=fut_cell ((cell_blk H3.out.one).trans rfl)
 have x1:∀x:Fut (((w.alloc (fvO v)).alloc (fvO u)).alloc fvZ),x.to.cell? ⟨w.heap.size,1,none⟩=some (.int .i64 v.cls):=fut_cell ((cell_blk H3.out.one).trans rfl)
 refine wp_region_fut (by kernel_rfl) (by kernel_rfl) fun hne=>?_
 repeat (go_big_quiet_step ((go_at_call 216;exact Calls.fut_eq _ (fnot_any _) rfl)))
 refine wpQuiet_nil ?_
 rintro W2 ⟨⟨w2,hw2⟩,hE⟩
 replace hE:w2=W2:=hE.symm
 subst hE
 clear x0 x1 hne hq
 have B2:Hid (Bx3 w2 w.heap.size v u):=H3.out.bl hw2
 have HW:Hid (Bl _ w2):=hw2
 clear hw2
 have hq2:=HQ2.out
 go_wp2
 have x0:∀x:Fut w2,x.to.cell? ⟨w.heap.size+1,0,none⟩=some (.int .i64 u.kind):=fut_cell ((cell_blk B2.out.two).trans rfl)
 have x1:∀x:Fut w2,x.to.cell? ⟨w.heap.size+1,1,none⟩=some (.int .i64 u.cls):=fut_cell ((cell_blk B2.out.two).trans rfl)
 refine wp_region_fut (by kernel_rfl) (by kernel_rfl) fun hne=>?_
 repeat (go_big_quiet_step ((go_at_call 216;exact Calls.fut_eq _ (fnot_any _) rfl)))
 refine wpQuiet_nil ?_
 rintro W3 ⟨⟨w3,hw3⟩,hE⟩
 replace hE:w3=W3:=hE.symm
 subst hE
 clear x0 x1 hne hq2
 have B3:Hid (Bx3 w3 w.heap.size v u):=B2.out.bl hw3
 have HW3:Hid (Bl _ w3):=HW.out.trans hw3
 clear hw3
 have c0:w3.cell? ⟨w.heap.size,1,none⟩=some (.int .i64 (i:Int)):=by rw [cell_blk B3.out.one,←HI.out];rfl
 have c1:w3.cell? ⟨w.heap.size+1,1,none⟩=some (.int .i64 (j:Int)):=by rw [cell_blk B3.out.two,←HJ.out];rfl
 have c2:=(HB.out.trans HW3.out).cell H1.out
 have c3:=(HB.out.trans HW3.out).cell H2.out
 have r0:=(cell_blk (i:=0) B3.out.res).trans rfl
 have r1:=(cell_blk (i:=1) B3.out.res).trans rfl
 have rf:=free_blk B3.out.res
 have n1:w.heap.size+2≠jb:=by have:=cell_lt H1.out;omega
 have n2:w.heap.size+2≠rb:=by have:=cell_lt H2.out;omega
 have n3:w.heap.size+2≠w.heap.size:=by omega
 have n4:w.heap.size+2≠w.heap.size+1:=by omega
 have hi0:(0:Int)≤(i:Int):=by omega
 have hi1:(i:Int)<(n:Int):=by omega
 have hj0:(0:Int)≤(j:Int):=by omega
 have hj1:(j:Int)<(n:Int):=by omega
 go_wp2
 go_region_held3 (fun w'=>w'.cell? ⟨w.heap.size,1,none⟩=some (.int .i64 (i:Int))∧w'.cell? ⟨w.heap.size+1,1,none⟩=some (.int .i64 (j:Int))∧w'.cell? ⟨jb,jo+i,none⟩=some (.slice (some ⟨rb,ro,none⟩) n rc)∧w'.cell? ⟨rb,ro+j,none⟩=some (.int .i64 (z:Int)))
  (go_keep)
  ((go_at_call 209;refine (fref_any _ _).mono ?_;rintro e w4 ⟨rfl,b4⟩;have B4:Hid (Bx3 w4 w.heap.size v u):=B3.out.bl ((Bl.refl w3).drew.trans b4);have HW4:Hid (Bl _ w4):=HW3.out.trans ((Bl.refl w3).drew.trans b4);have d0:=b4.cell c0;have d1:=b4.cell c1;have d2:=b4.cell c2;have d3:=b4.cell c3;have s0:=(cell_blk (i:=0) B4.out.res).trans rfl;have s1:=(cell_blk (i:=1) B4.out.res).trans rfl;have sf:=free_blk B4.out.res))
 go_wp2
 refine bodyPost_ret (results_cell_row rfl _ _ (w.heap.size+2) _ _ _ _ rfl (block_set (block_set B4.out.res _) _) Tryz.underlying233 rfl info_fv) rfl ?_
 exact ⟨rfl,((HB.out.trans HW4.out).setCell (by show _≤w.heap.size+2;omega) _).setCell (by show _≤w.heap.size+2;omega) _⟩
theorem both_all (cs:List Cl) (vj:Value) (v u:Ty) (w:World) (hJ:JnAt w vj cs) (hcs:cs.length≤12) (hv:refOk cs.length v) (hu:refOk cs.length u) :
  Calls Tryz.prog 256 #[vj,fvV v,fvV u] w fun e w'=>e=.returned (fvV (bothT cs v u))∧Bl w w':=by
 unfold bothT
 by_cases h1:v.kind≠3∨u.kind≠3
 ·rw [if_pos h1];exact both_any cs vj v u w h1
 ·rw [if_neg h1]
  have k1:v.kind=3:=by omega
  have k2:u.kind=3:=by omega
  by_cases h2:v.cls=-1
  ·rw [if_pos h2];exact both_l cs vj v u w k1 k2 h2
  ·rw [if_neg h2]
   by_cases h3:u.cls=-1
   ·rw [if_pos h3];exact both_r cs vj v u w k1 k2 h2 h3
   ·rw [if_neg h3]
    have a1:=(hv k1).resolve_left h2
    have a2:=(hu k2).resolve_left h3
    obtain ⟨i,hi⟩:∃i:Nat,v.cls=i:=⟨v.cls.toNat,by omega⟩
    obtain ⟨j,hj⟩:∃j:Nat,u.cls=j:=⟨u.cls.toNat,by omega⟩
    obtain ⟨jb,jo,jc,rfl,hJ⟩:=hJ
    obtain ⟨rb,ro,rc,c1,c2⟩:=hJ i (by omega)
    have:=both_j cs jb jo jc rb ro rc v u i j w k1 k2 hi hj (by omega) (by omega) hcs c1 (c2 j (by omega))
    rw [hi,hj,Int.toNat_natCast,Int.toNat_natCast]
    exact this
theorem fbelow_any (cs:List Cl) (p:Nat) (vj:Value) (i j:Nat) (w:World) (hp:w.cell? ⟨p,14,none⟩=some vj) (hJ:JnAt w vj cs) (hi:i<cs.length) (hj:j<cs.length) :
  Calls Tryz.prog 253 #[.pointer (some ⟨p,0,none⟩),.int .i64 (i:Int),.int .i64 (j:Int)] w fun e w'=>e=.returned (.bool (decide (joinN cs i j=j)))∧w'=w:=by
 obtain ⟨jb,jo,jc,rfl,hJ⟩:=hJ
 obtain ⟨rb,ro,rc,c1,c2⟩:=hJ i hi
 have c3:=c2 j hj
 have hpl:=cell_lt hp
 have hjl:=cell_lt c1
 have hrl:=cell_lt c3
 clear hJ c2
 generalize hn:cs.length=n at *
 have hi0:(0:Int)≤(i:Int):=by omega
 have hi1:(i:Int)<(n:Int):=by omega
 have hj0:(0:Int)≤(j:Int):=by omega
 have hj1:(j:Int)<(n:Int):=by omega
 have hd:decide (((joinN cs i j:Nat):Int)=(j:Int))=decide (joinN cs i j=j):=by by_cases h:joinN cs i j=j<;>simp [h]<;>omega
 generalize joinN cs i j=z at *
 go_enter Tryz.func253,Tryz.ntmps253
 go_wp2
 go_ret
 exact ⟨by rw [←hd];rfl,rfl⟩
theorem neq_fv (a b c d:Int) (w:World):(binOp .neq 233 (.agg #[.int .i64 a,.int .i64 b]) (.agg #[.int .i64 c,.int .i64 d])).run Tryz.prog w=.ok (.bool (!(decide (a=c)&&decide (b=d)))) w:=by
 rw [run_neq_struct,run_equalIn_agg w 9999 _ _ _ fv_fields fv_held]
 simp [go_sem,Tryz.underlying233,Tryz.underlying3]
 by_cases h1:a=c<;>by_cases h2:b=d<;>simp [h1,h2]
abbrev ftyO (t:Ty):Obj:=.cells #[.int .i64 t.kind,.int .i64 t.cls] 45
structure Bt3 (w:World) (b:Nat) (v t:Ty):Prop where
 one:w.heap[b]?=some (.cells #[.int .i64 v.kind,.int .i64 v.cls] 233 (0,0))
 two:w.heap[b+1]?=some (.cells #[.int .i64 t.kind,.int .i64 t.cls] 45 (0,0))
 res:w.heap[b+2]?=some (.cells #[.int .i64 0,.int .i64 0] 233 (0,0))
theorem Bt3.new (w:World) (v t:Ty):Bt3 (((w.alloc (fvO v)).alloc (ftyO t)).alloc fvZ) w.heap.size v t :=
 ⟨((heap_alloc_old _ _ (by simp;omega)).trans (heap_alloc_old _ _ (by simp))).trans (mblk rfl),(heap_alloc_old _ _ (by simp)).trans (mblk (by simp)),mblk (by simp)⟩
theorem Bt3.bl {w w':World} {b:Nat} {v t:Ty} (h:Bt3 w b v t) (k:Bl w w'):Bt3 w' b v t :=
 ⟨(k.block _ (lt_some h.one)).trans h.one,(k.block _ (lt_some h.two)).trans h.two,(k.block _ (lt_some h.res)).trans h.res⟩
abbrev fitE (cs:List Cl) (v t:Ty):Ending:=if fitB cs v t=true then .returned (fvV v) else upE
theorem mustfit_kind (p:Nat) (v t:Ty) (w:World) (h:v.kind≠t.kind) :
  Calls Tryz.prog 239 #[.pointer (some ⟨p,0,none⟩),fvV v,.agg #[.int .i64 t.kind,.int .i64 t.cls]] w fun e w'=>e=upE∧Bl w w':=by
 have HB:Hid (Bl w (((w.alloc (fvO v)).alloc (ftyO t)).alloc fvZ)):=(((Bl.refl w).alloc _).alloc _).alloc _
 have HH:Hid (v.kind≠t.kind):=h
 clear h
 go_enter Tryz.func239,Tryz.ntmps239
 go_wp2_with (go_at_call 211;refine (fmust_no _ _ _ HH.out).mono ?_;rintro e w1 ⟨rfl,b1⟩)
 exact ⟨rfl,rfl,HB.out.trans b1⟩
theorem mustfit_num (p:Nat) (v t:Ty) (w:World) (h:v.kind=t.kind) (h3:t.kind≠3) :
  Calls Tryz.prog 239 #[.pointer (some ⟨p,0,none⟩),fvV v,.agg #[.int .i64 t.kind,.int .i64 t.cls]] w fun e w'=>e=.returned (fvV v)∧Bl w w':=by
 have HB:Hid (Bl w (((w.alloc (fvO v)).alloc (ftyO t)).alloc fvZ)):=(((Bl.refl w).alloc _).alloc _).alloc _
 have H3:Hid (Bt3 (((w.alloc (fvO v)).alloc (ftyO t)).alloc fvZ) w.heap.size v t):=Bt3.new w v t
 have HH:Hid (v.kind=t.kind):=h
 have hz:(t.kind==3)=false:=by simpa using h3
 clear h h3
 go_enter Tryz.func239,Tryz.ntmps239
 go_wp2_with (go_at_call 211;refine (fmust_yes _ _ _ HH.out).mono ?_;rintro e w1 ⟨rfl,b1⟩;have B1:Hid (Bl _ w1):=HB.out.trans b1;have C1:Hid (Bt3 w1 w.heap.size v t):=H3.out.bl b1;clear b1)
 have x0:∀x:Fut w1,x.to.cell? ⟨w.heap.size+1,0,none⟩=some (.int .i64 t.kind):=fut_cell ((cell_blk C1.out.two).trans rfl)
 refine wp_region_fut (by kernel_rfl) (by kernel_rfl) fun hne=>?_
 repeat (go_big_quiet_step (fail))
 refine wpQuiet_nil ?_
 rintro W2 ⟨⟨w2,hw2⟩,hE⟩
 replace hE:w2=W2:=hE.symm
 subst hE
 clear x0 hne
 have B2:Hid (Bl _ w2):=B1.out.trans hw2
 have C2:Hid (Bt3 w2 w.heap.size v t):=C1.out.bl hw2
 clear hw2
 have c0:=(cell_blk (i:=0) C2.out.one).trans rfl
 have c1:=(cell_blk (i:=1) C2.out.one).trans rfl
 have r0:=(cell_blk (i:=0) C2.out.res).trans rfl
 have r1:=(cell_blk (i:=1) C2.out.res).trans rfl
 have rf:=free_blk C2.out.res
 go_wp2
 refine bodyPost_ret (results_cell_row rfl _ _ (w.heap.size+2) _ _ _ _ rfl (block_set (block_set C2.out.res _) _) Tryz.underlying233 rfl info_fv) rfl ?_
 exact ⟨rfl,(B2.out.setCell (by show _≤w.heap.size+2;omega) _).setCell (by show _≤w.heap.size+2;omega) _⟩
theorem mustfit_nil (p:Nat) (v t:Ty) (w:World) (h:v.kind=t.kind) (h3:t.kind=3) (hn:v.cls=-1) :
  Calls Tryz.prog 239 #[.pointer (some ⟨p,0,none⟩),fvV v,.agg #[.int .i64 t.kind,.int .i64 t.cls]] w fun e w'=>e=.returned (fvV v)∧Bl w w':=by
 have HB:Hid (Bl w (((w.alloc (fvO v)).alloc (ftyO t)).alloc fvZ)):=(((Bl.refl w).alloc _).alloc _).alloc _
 have H3:Hid (Bt3 (((w.alloc (fvO v)).alloc (ftyO t)).alloc fvZ) w.heap.size v t):=Bt3.new w v t
 have HH:Hid (v.kind=t.kind):=h
 have hz:(t.kind==3)=true:=by simpa using h3
 have hq:∀w,_:=fun w=>neq_fv v.kind v.cls 3 (-1) w
 have hd:(!(decide (v.kind=3)&&decide (v.cls=-1)))=false:=by simp [h,h3,hn]
 rw [hd] at hq
 clear h h3 hn hd
 go_enter Tryz.func239,Tryz.ntmps239
 go_wp2_with (go_at_call 211;refine (fmust_yes _ _ _ HH.out).mono ?_;rintro e w1 ⟨rfl,b1⟩;have B1:Hid (Bl _ w1):=HB.out.trans b1;have C1:Hid (Bt3 w1 w.heap.size v t):=H3.out.bl b1;clear b1)
 have x0:∀x:Fut w1,x.to.cell? ⟨w.heap.size+1,0,none⟩=some (.int .i64 t.kind):=fut_cell ((cell_blk C1.out.two).trans rfl)
 have x1:∀x:Fut w1,x.to.cell? ⟨w.heap.size,0,none⟩=some (.int .i64 v.kind):=fut_cell ((cell_blk C1.out.one).trans rfl)
 have x2:∀x:Fut w1,x.to.cell? ⟨w.heap.size,1,none⟩=some (.int .i64 v.cls):=fut_cell ((cell_blk C1.out.one).trans rfl)
 refine wp_region_fut (by kernel_rfl) (by kernel_rfl) fun hne=>?_
 repeat (go_big_quiet_step ((go_at_call 216;exact Calls.fut_eq _ (fnot_any _) rfl)))
 refine wpQuiet_nil ?_
 rintro W2 ⟨⟨w2,hw2⟩,hE⟩
 replace hE:w2=W2:=hE.symm
 subst hE
 clear x0 x1 x2 hne hq
 have B2:Hid (Bl _ w2):=B1.out.trans hw2
 have C2:Hid (Bt3 w2 w.heap.size v t):=C1.out.bl hw2
 clear hw2
 have c0:=(cell_blk (i:=0) C2.out.one).trans rfl
 have c1:=(cell_blk (i:=1) C2.out.one).trans rfl
 have r0:=(cell_blk (i:=0) C2.out.res).trans rfl
 have r1:=(cell_blk (i:=1) C2.out.res).trans rfl
 have rf:=free_blk C2.out.res
 go_wp2
 refine bodyPost_ret (results_cell_row rfl _ _ (w.heap.size+2) _ _ _ _ rfl (block_set (block_set C2.out.res _) _) Tryz.underlying233 rfl info_fv) rfl ?_
 exact ⟨rfl,(B2.out.setCell (by show _≤w.heap.size+2;omega) _).setCell (by show _≤w.heap.size+2;omega) _⟩
theorem mustfit_ref (cs:List Cl) (p:Nat) (vj:Value) (v t:Ty) (i j:Nat) (w:World) (hp:w.cell? ⟨p,14,none⟩=some vj) (hJ:JnAt w vj cs) (h:v.kind=t.kind) (h3:t.kind=3) (hi:v.cls=i) (hj:t.cls=j) (hil:i<cs.length) (hjl:j<cs.length) :
  Calls Tryz.prog 239 #[.pointer (some ⟨p,0,none⟩),fvV v,.agg #[.int .i64 t.kind,.int .i64 t.cls]] w fun e w'=>e=(if joinN cs i j=j then .returned (fvV v) else upE)∧Bl w w':=by
 have HB:Hid (Bl w (((w.alloc (fvO v)).alloc (ftyO t)).alloc fvZ)):=(((Bl.refl w).alloc _).alloc _).alloc _
 have H3:Hid (Bt3 (((w.alloc (fvO v)).alloc (ftyO t)).alloc fvZ) w.heap.size v t):=Bt3.new w v t
 have HH:Hid (v.kind=t.kind):=h
 have hz:(t.kind==3)=true:=by simpa using h3
 have hq:∀w,_:=fun w=>neq_fv v.kind v.cls 3 (-1) w
 have hd:(!(decide (v.kind=3)&&decide (v.cls=-1)))=true:=by simp [h,h3,hi]
 rw [hd] at hq
 have HI:Hid (v.cls=(i:Int)):=hi
 have HJ:Hid (t.cls=(j:Int)):=hj
 have HP:Hid (w.cell? ⟨p,14,none⟩=some vj):=hp
 have HN:Hid (JnAt w vj cs):=hJ
 have HIL:Hid (i<cs.length):=hil
 have HJL:Hid (j<cs.length):=hjl
 clear h h3 hi hj hd hp hJ hil hjl
 have fin:∀b:Bool,decide (joinN cs i j=j)=b→Calls Tryz.prog 239 #[.pointer (some ⟨p,0,none⟩),fvV v,.agg #[.int .i64 t.kind,.int .i64 t.cls]] w fun e w'=>e=(if b=true then .returned (fvV v) else upE)∧Bl w w':=by
  intro b hb
  go_enter Tryz.func239,Tryz.ntmps239
  go_wp2_with (go_at_call 211;refine (fmust_yes _ _ _ HH.out).mono ?_;rintro e w1 ⟨rfl,b1⟩;have B1:Hid (Bl _ w1):=HB.out.trans b1;have C1:Hid (Bt3 w1 w.heap.size v t):=H3.out.bl b1;clear b1)
  have x0:∀x:Fut w1,x.to.cell? ⟨w.heap.size+1,0,none⟩=some (.int .i64 t.kind):=fut_cell ((cell_blk C1.out.two).trans rfl)
  have x1:∀x:Fut w1,x.to.cell? ⟨w.heap.size,0,none⟩=some (.int .i64 v.kind):=fut_cell ((cell_blk C1.out.one).trans rfl)
  have x2:∀x:Fut w1,x.to.cell? ⟨w.heap.size,1,none⟩=some (.int .i64 v.cls):=fut_cell ((cell_blk C1.out.one).trans rfl)
  have x3:∀x:Fut w1,x.to.cell? ⟨w.heap.size+1,1,none⟩=some (.int .i64 t.cls):=fut_cell ((cell_blk C1.out.two).trans rfl)
  refine wp_region_fut (by kernel_rfl) (by kernel_rfl) fun hne=>?_
  repeat (go_big_quiet_step (first
   | (go_at_call 216;exact Calls.fut_eq _ (fnot_any _) rfl)
   | (go_at_call 253;rw [HI.out,HJ.out];exact Calls.fut_same_eq _ (fbelow_any cs p vj i j _ (((B1.out).trans (Fut.is _)).cell HP.out) (HN.out.bl ((B1.out).trans (Fut.is _))) HIL.out HJL.out) (congrArg Value.bool hb))))
  refine wpQuiet_nil ?_
  rintro W2 ⟨⟨w2,hw2⟩,hE⟩
  replace hE:w2=W2:=hE.symm
  subst hE
  clear x0 x1 x2 x3 hne hq
  have B2:Hid (Bl _ w2):=B1.out.trans hw2
  have C2:Hid (Bt3 w2 w.heap.size v t):=C1.out.bl hw2
  clear hw2 hb
  cases b
  ·go_wp2_with (go_at_call 208;refine (up_any _).mono ?_;rintro e w3 ⟨rfl,hw⟩;rw [hw];clear hw w3)
   exact ⟨rfl,rfl,B2.out⟩
  ·have c0:=(cell_blk (i:=0) C2.out.one).trans rfl
   have c1:=(cell_blk (i:=1) C2.out.one).trans rfl
   have r0:=(cell_blk (i:=0) C2.out.res).trans rfl
   have r1:=(cell_blk (i:=1) C2.out.res).trans rfl
   have rf:=free_blk C2.out.res
   go_wp2
   refine bodyPost_ret (results_cell_row rfl _ _ (w.heap.size+2) _ _ _ _ rfl (block_set (block_set C2.out.res _) _) Tryz.underlying233 rfl info_fv) rfl ?_
   exact ⟨rfl,(B2.out.setCell (by show _≤w.heap.size+2;omega) _).setCell (by show _≤w.heap.size+2;omega) _⟩
 by_cases hx:joinN cs i j=j
 ·have:=fin true (decide_eq_true hx)
  rw [if_pos rfl] at this
  rw [if_pos hx];exact this
 ·have:=fin false (decide_eq_false hx)
  rw [if_neg (by decide)] at this
  rw [if_neg hx];exact this
theorem mustfit_any (cs:List Cl) (p:Nat) (vj:Value) (v t:Ty) (w:World) (hp:w.cell? ⟨p,14,none⟩=some vj) (hJ:JnAt w vj cs) (hv:refOk cs.length v) (ht:t.kind=3→0≤t.cls∧t.cls<cs.length) :
  Calls Tryz.prog 239 #[.pointer (some ⟨p,0,none⟩),fvV v,.agg #[.int .i64 t.kind,.int .i64 t.cls]] w fun e w'=>e=fitE cs v t∧Bl w w':=by
 unfold fitE fitB
 by_cases hk:v.kind=t.kind
 ·by_cases h3:t.kind=3
  ·by_cases hn:v.cls=-1
   ·have e:(decide (v.kind=t.kind)&&(decide (t.kind≠3)||(decide (v.cls=-1)||decide (joinN cs v.cls.toNat t.cls.toNat=t.cls.toNat))))=true:=by simp [hk,hn]
    rw [e,if_pos rfl];exact mustfit_nil p v t w hk h3 hn
   ·have a1:=(hv (hk.trans h3)).resolve_left hn
    have a2:=ht h3
    obtain ⟨i,hi⟩:∃i:Nat,v.cls=i:=⟨v.cls.toNat,by omega⟩
    obtain ⟨j,hj⟩:∃j:Nat,t.cls=j:=⟨t.cls.toNat,by omega⟩
    have:=mustfit_ref cs p vj v t i j w hp hJ hk h3 hi hj (by omega) (by omega)
    have e:(decide (v.kind=t.kind)&&(decide (t.kind≠3)||(decide (v.cls=-1)||decide (joinN cs v.cls.toNat t.cls.toNat=t.cls.toNat))))=decide (joinN cs i j=j):=by rw [hi,hj,Int.toNat_natCast,Int.toNat_natCast];simp [hk,h3]
    rw [e]
    by_cases hx:joinN cs i j=j
    ·rw [if_pos hx] at this;rw [decide_eq_true hx,if_pos rfl];exact this
    ·rw [if_neg hx] at this;rw [decide_eq_false hx,if_neg (by decide)];exact this
  ·have e:(decide (v.kind=t.kind)&&(decide (t.kind≠3)||(decide (v.cls=-1)||decide (joinN cs v.cls.toNat t.cls.toNat=t.cls.toNat))))=true:=by simp [hk,h3]
   rw [e,if_pos rfl];exact mustfit_num p v t w hk h3
 ·have e:(decide (v.kind=t.kind)&&(decide (t.kind≠3)||(decide (v.cls=-1)||decide (joinN cs v.cls.toNat t.cls.toNat=t.cls.toNat))))=false:=by simp [hk]
  rw [e,if_neg (by decide)];exact mustfit_kind p v t w hk
section
structure Gf where
 p:Nat
 q:Nat
 sb:Nat
 sc:Nat
 c2:Value
 c3:Value
 c4:Value
 c5:Value
 c6:Value
 c7:Value
 c8:Value
 c9:Value
 c10:Value
 c14:Value
def flRow (g:Gf) (n:Nat) (vs vk vw:Value) (at':Int):Array Value:=#[vs,vk,g.c2,g.c3,g.c4,g.c5,g.c6,g.c7,g.c8,g.c9,g.c10,.int .i64 at',.slice (some ⟨g.sb,0,none⟩) n g.sc,vw,g.c14]
def tv (t:Ty):Va:=⟨t.kind,t.cls⟩
def tyCs (l:List Ty):List Value:=vaCells (l.map tv)
theorem tyCs_length (l:List Ty):(tyCs l).length=l.length*2:=by unfold tyCs;rw [vaCells_length,List.length_map]
def rtF (cur:As) (st:List (Option As)) (r:Nat):List Ty :=
 if r=0 then cur.slots else if r=1 then cur.stk else match nth none st ((r-2)/2) with
  | none=>[]
  | some s=>if r%2=0 then s.slots else s.stk
theorem rtF_slots {cur:As} {st:List (Option As)} {k:Nat} {s:As} (h:nth none st k=some s):rtF cur st (2+2*k)=s.slots:=by
 unfold rtF
 rw [if_neg (by omega),if_neg (by omega),show (2+2*k-2)/2=k by omega,h]
 dsimp only
 rw [if_pos (by omega)]
theorem rtF_stk {cur:As} {st:List (Option As)} {k:Nat} {s:As} (h:nth none st k=some s):rtF cur st (3+2*k)=s.stk:=by
 unfold rtF
 rw [if_neg (by omega),if_neg (by omega),show (3+2*k-2)/2=k by omega,h]
 dsimp only
 rw [if_neg (by omega)]
theorem rtF_cur {cur cur':As} {st:List (Option As)} {r:Nat} (h:2≤r):rtF cur st r=rtF cur' st r:=by
 unfold rtF
 rw [if_neg (by omega),if_neg (by omega),if_neg (by omega),if_neg (by omega)]
def spV:Option Nat→Value
 | none=>.pointer none
 | some b=>.pointer (some ⟨b,0,none⟩)
structure FarF (g:Gf) (rv:Nat→Value) (vw:Value) (sp:Nat→Option Nat) (b:Nat):Prop where
 p:b≠g.p
 s:b≠g.sb
 r:∀r,(rv r).ownBlock≠some b
 w:vw.ownBlock≠some b
 k:∀k,sp k≠some b
structure Fz (w1:World) (g:Gf) (w:World):Prop where
 os:w.os=w1.os
 tape:w.tape=w1.tape
 output:w.output=w1.output
 size:w1.heap.size≤w.heap.size
 block:∀b,b<w1.heap.size→b≠g.p→b≠g.sb→w.heap[b]?=w1.heap[b]?
structure KX (X:Nat→Prop) (wx w:World):Prop where
 size:wx.heap.size≤w.heap.size
 blk:∀b,X b→b<wx.heap.size∧w.heap[b]?=wx.heap[b]?
structure FA (X:Nat→Prop) (wx w1:World) (g:Gf) (b0:Nat) (w:World) (cur:As) (at':Int) (st:List (Option As)) (wt:List Int) (rv:Nat→Value) (vw:Value) (sp:Nat→Option Nat):Prop where
 fz:Fz w1 g w
 pin:g.p<w1.heap.size∧g.sb<w1.heap.size
 blk:w.heap[g.p]?=some (.cells (flRow g st.length (rv 0) (rv 1) vw at') 228 (0,0))
 row0:w.ownsRow b0 233 2 (rv 0) cur.slots.length (tyCs cur.slots)
 row1:w.ownsRow w1.heap.size 233 2 (rv 1) cur.stk.length (tyCs cur.stk)
 rows:∀r,2≤r→w.ownsRow w1.heap.size 233 2 (rv r) (rtF cur st r).length (tyCs (rtF cur st r))
 sep:∀r r' b,r≠r'→(rv r).ownBlock=some b→(rv r').ownBlock≠some b
 sbk:w.heap[g.sb]?=some (.cells ((List.range st.length).map (fun k=>spV (sp k))).toArray 231 (0,0))
 sts:∀k b,sp k=some b→k<st.length∧(∃s,nth none st k=some s)∧w1.heap.size≤b∧w.heap[b]?=some (.cells #[rv (2+2*k),rv (3+2*k)] 223 (0,0))
 stn:∀k,sp k=none→nth none st k=none
 inj:∀k j b,sp k=some b→sp j=some b→k=j
 wts:w.ownsRow w1.heap.size 3 1 vw wt.length (wt.map (Value.int .i64))
 far:∀b,X b→FarF g rv vw sp b
 kept:KX X wx w
def FX (X:Nat→Prop) (wx w1:World) (g:Gf) (b0:Nat) (w:World) (cur:As) (at':Int) (st:List (Option As)) (wt:List Int):Prop:=∃rv vw sp,FA X wx w1 g b0 w cur at' st wt rv vw sp
def FE (X:Nat→Prop) (wx w1:World) (g:Gf) (w:World):Prop:=∃b0 cur at' st wt,FX X wx w1 g b0 w cur at' st wt
theorem FX.fe {X:Nat→Prop} {wx w1:World} {g:Gf} {b0:Nat} {w:World} {cur:As} {at':Int} {st:List (Option As)} {wt:List Int} (h:FX X wx w1 g b0 w cur at' st wt):FE X wx w1 g w:=⟨b0,cur,at',st,wt,h⟩
section
variable {X:Nat→Prop} {wx w1:World} {g:Gf} {b0:Nat} {w w':World} {cur:As} {at':Int} {st:List (Option As)} {wt:List Int} {rv:Nat→Value} {vw:Value} {sp:Nat→Option Nat}
theorem grownBl {w w':World} (h:Bl w w') (row:Option Nat):w.grownBy w' row:=⟨h.os,h.tape,h.output,h.size,fun i hi _=>h.block i hi⟩
theorem rowBl {base:Nat} {e:TypeId} {size n:Nat} {v:Value} {xs:List Value} (h:w.ownsRow base e size v n xs) (b:Bl w w'):w'.ownsRow base e size v n xs:=h.kept (grownBl b none) (by cases hv:v.ownBlock<;>simp)
theorem FA.lt0 (H:FA X wx w1 g b0 w cur at' st wt rv vw sp):∀r b,(rv r).ownBlock=some b→b<w.heap.size:=fun r b e=>by
 by_cases h0:r=0
 ·subst h0;exact (H.row0.lt b e).2
 ·by_cases h1:r=1
  ·subst h1;exact (H.row1.lt b e).2
  ·exact ((H.rows r (by omega)).lt b e).2
theorem FA.farNew (H:FA X wx w1 g b0 w cur at' st wt rv vw sp) {b:Nat} (hb:w.heap.size≤b):FarF g rv vw sp b :=
 ⟨by have:=lt_some H.blk;omega,by have:=lt_some H.sbk;omega,fun r e=>by have:=H.lt0 r b e;omega,fun e=>by have:=(H.wts.lt b e).2;omega,fun k e=>by have:=lt_some (H.sts k b e).2.2.2;omega⟩
theorem FA.bl (H:FA X wx w1 g b0 w cur at' st wt rv vw sp) (h:Bl w w'):FA X wx w1 g b0 w' cur at' st wt rv vw sp :=
 ⟨⟨h.os.trans H.fz.os,h.tape.trans H.fz.tape,h.output.trans H.fz.output,Nat.le_trans H.fz.size h.size,fun b hb h1 h2=>(h.block b (Nat.lt_of_lt_of_le hb H.fz.size)).trans (H.fz.block b hb h1 h2)⟩,H.pin,bl_blk h H.blk,rowBl H.row0 h,rowBl H.row1 h,fun r hr=>rowBl (H.rows r hr) h,H.sep,bl_blk h H.sbk,
  fun k b e=>⟨(H.sts k b e).1,(H.sts k b e).2.1,(H.sts k b e).2.2.1,bl_blk h (H.sts k b e).2.2.2⟩,H.stn,H.inj,rowBl H.wts h,H.far,⟨Nat.le_trans H.kept.size h.size,fun b hx=>⟨(H.kept.blk b hx).1,(h.block b (Nat.lt_of_lt_of_le (H.kept.blk b hx).1 H.kept.size)).trans (H.kept.blk b hx).2⟩⟩⟩
theorem FX.bl (H:FX X wx w1 g b0 w cur at' st wt) (h:Bl w w'):FX X wx w1 g b0 w' cur at' st wt:=by
 obtain ⟨rv,vw,sp,H⟩:=H;exact ⟨rv,vw,sp,H.bl h⟩
def Xf (X:Nat→Prop) (n m:Nat) (b:Nat):Prop:=X b∨(n≤b∧b<m)
theorem FA.wide (H:FA X wx w1 g b0 w cur at' st wt rv vw sp) (h:Bl w w'):FA (Xf X w.heap.size w'.heap.size) w' w1 g b0 w' cur at' st wt rv vw sp:=by
 have K:=H.bl h
 refine ⟨K.fz,K.pin,K.blk,K.row0,K.row1,K.rows,K.sep,K.sbk,K.sts,K.stn,K.inj,K.wts,fun b hb=>?_,⟨Nat.le_refl _,fun b hb=>⟨?_,rfl⟩⟩⟩
 ·rcases hb with hb|hb
  ·exact K.far b hb
  ·exact H.farNew hb.1
 ·rcases hb with hb|hb
  ·have:=(H.kept.blk b hb).1;have:=H.kept.size;have:=h.size;omega
  ·exact hb.2
theorem FX.wide (H:FX X wx w1 g b0 w cur at' st wt) (h:Bl w w'):FX (Xf X w.heap.size w'.heap.size) w' w1 g b0 w' cur at' st wt:=by
 obtain ⟨rv,vw,sp,H⟩:=H;exact ⟨rv,vw,sp,H.wide h⟩
theorem FA.back (H:FX X wx w1 g b0 w cur at' st wt) (h:Bl w w') {b0':Nat} {w2:World} {cur':As} {at2:Int} {st':List (Option As)} {wt':List Int} {rv':Nat→Value} {vw':Value} {sp':Nat→Option Nat} (K:FA (Xf X w.heap.size w'.heap.size) w' w1 g b0' w2 cur' at2 st' wt' rv' vw' sp'):FA X wx w1 g b0' w2 cur' at2 st' wt' rv' vw' sp':=by
 obtain ⟨rv,vw,sp,H⟩:=H
 refine ⟨K.fz,K.pin,K.blk,K.row0,K.row1,K.rows,K.sep,K.sbk,K.sts,K.stn,K.inj,K.wts,fun b hb=>K.far b (Or.inl hb),⟨Nat.le_trans H.kept.size (Nat.le_trans h.size K.kept.size),fun b hb=>⟨(H.kept.blk b hb).1,?_⟩⟩⟩
 rw [(K.kept.blk b (Or.inl hb)).2,h.block b (Nat.lt_of_lt_of_le (H.kept.blk b hb).1 H.kept.size)]
 exact (H.kept.blk b hb).2
theorem FX.back (H:FX X wx w1 g b0 w cur at' st wt) (h:Bl w w') {b0':Nat} {w2:World} {cur':As} {at2:Int} {st':List (Option As)} {wt':List Int} (K:FX (Xf X w.heap.size w'.heap.size) w' w1 g b0' w2 cur' at2 st' wt'):FX X wx w1 g b0' w2 cur' at2 st' wt':=by
 obtain ⟨rv,vw,sp,K⟩:=K;exact ⟨rv,vw,sp,FA.back H h K⟩
theorem FE.back (H:FX X wx w1 g b0 w cur at' st wt) (h:Bl w w') {w2:World} (K:FE (Xf X w.heap.size w'.heap.size) w' w1 g w2):FE X wx w1 g w2:=by
 obtain ⟨a,b,c,d,e,K⟩:=K;exact ⟨a,b,c,d,e,H.back h K⟩
theorem FX.box {n m:Nat} {W w2:World} {b0':Nat} {cur':As} {at2:Int} {st':List (Option As)} {wt':List Int} (K:FX (Xf X n m) W w1 g b0' w2 cur' at2 st' wt') {b:Nat} {o:Obj} (h1:n≤b) (h2:b<m) (h:W.heap[b]?=some o):w2.heap[b]?=some o:=by
 obtain ⟨rv,vw,sp,K⟩:=K
 exact (K.kept.blk b (Or.inr ⟨h1,h2⟩)).2.trans h
theorem FX.old (H:FX X wx w1 g b0 w cur at' st wt) {b:Nat} {o:Obj} (h:w1.heap[b]?=some o) (h1:b≠g.p) (h2:b≠g.sb):w.heap[b]?=some o:=by
 obtain ⟨rv,vw,sp,H⟩:=H
 exact (H.fz.block b (lt_some h) h1 h2).trans h
theorem FX.oldc (H:FX X wx w1 g b0 w cur at' st wt) {b o:Nat} {v:Value} (h:w1.cell? ⟨b,o,none⟩=some v) (h1:b≠g.p) (h2:b≠g.sb):w.cell? ⟨b,o,none⟩=some v:=by
 obtain ⟨rv,vw,sp,H⟩:=H
 have e:=H.fz.block b (cell_lt h) h1 h2
 rw [←h];exact World.cell?_of_block e
theorem FX.backY (H:FX X wx w1 g b0 w cur at' st wt) (h:Bl w w') {b0':Nat} {w2 w3:World} {cur':As} {at2:Int} {st':List (Option As)} {wt':List Int} (K:FX (Xf X w.heap.size w'.heap.size) w' w1 g b0' w2 cur' at2 st' wt') (os:w3.os=w2.os) (tape:w3.tape=w2.tape) (output:w3.output=w2.output) (size:w2.heap.size≤w3.heap.size)
  (blk:∀b,b<w2.heap.size→¬(w.heap.size≤b∧b<w'.heap.size)→w3.heap[b]?=w2.heap[b]?):FX X wx w1 g b0' w3 cur' at2 st' wt':=by
 obtain ⟨rv,vw,sp,K⟩:=K
 have J:=FA.back H h K
 have h1:w1.heap.size≤w.heap.size:=by obtain ⟨_,_,_,H⟩:=H;exact H.fz.size
 have hx:wx.heap.size≤w.heap.size:=by obtain ⟨_,_,_,H⟩:=H;exact H.kept.size
 have hb:∀b o,w2.heap[b]?=some o→(∀c,w.heap.size≤c→c<w'.heap.size→b≠c)→w3.heap[b]?=some o:=fun b o e hf=>(blk b (lt_some e) (fun ⟨x,y⟩=>hf b x y rfl)).trans e
 have hown:∀{base:Nat} {e:TypeId} {sz n:Nat} {v:Value} {xs:List Value},w2.ownsRow base e sz v n xs→(∀c,w.heap.size≤c→c<w'.heap.size→v.ownBlock≠some c)→w3.ownsRow base e sz v n xs:=by
  intro base e sz n v xs ho hf
  refine ⟨ho.1,?_⟩
  rcases ho.2 with h|⟨gb,cap,cu,rfl,x1,x2,x3⟩
  ·exact Or.inl h
  ·exact Or.inr ⟨gb,cap,cu,rfl,x1,hb gb _ x2 (fun c y1 y2 e=>hf c y1 y2 (by rw [←e];rfl)),x3⟩
 have F:=fun c (y1:w.heap.size≤c) (y2:c<w'.heap.size)=>K.far c (Or.inr ⟨y1,y2⟩)
 refine ⟨rv,vw,sp,⟨os.trans J.fz.os,tape.trans J.fz.tape,output.trans J.fz.output,Nat.le_trans J.fz.size size,fun b hlt x1 x2=>(blk b (Nat.lt_of_lt_of_le hlt J.fz.size) (fun ⟨y,_⟩=>by omega)).trans (J.fz.block b hlt x1 x2)⟩,J.pin,hb _ _ J.blk (fun c y1 y2 e=>(F c y1 y2).p e.symm),hown J.row0 (fun c y1 y2=>(F c y1 y2).r 0),hown J.row1 (fun c y1 y2=>(F c y1 y2).r 1),fun r hr=>hown (J.rows r hr) (fun c y1 y2=>(F c y1 y2).r r),J.sep,hb _ _ J.sbk (fun c y1 y2 e=>(F c y1 y2).s e.symm),fun k b e=>⟨(J.sts k b e).1,(J.sts k b e).2.1,(J.sts k b e).2.2.1,hb _ _ (J.sts k b e).2.2.2 (fun c y1 y2 e2=>(F c y1 y2).k k (by rw [e,e2]))⟩,J.stn,J.inj,hown J.wts (fun c y1 y2=>(F c y1 y2).w),J.far,⟨Nat.le_trans J.kept.size size,fun b hb=>⟨(J.kept.blk b hb).1,(blk b (Nat.lt_of_lt_of_le (J.kept.blk b hb).1 J.kept.size) (fun ⟨y,_⟩=>by have:=(J.kept.blk b hb).1;omega)).trans (J.kept.blk b hb).2⟩⟩⟩
theorem FX.backY2 (H:FX X wx w1 g b0 w cur at' st wt) (h:Bl w w') {b0':Nat} {w2:World} {cur':As} {at2:Int} {st':List (Option As)} {wt':List Int} (K:FX (Xf X w.heap.size w'.heap.size) w' w1 g b0' w2 cur' at2 st' wt') {b i j:Nat} {u v:Value} (y1:w.heap.size≤b) (y2:b<w'.heap.size):FX X wx w1 g b0' ((w2.setCell ⟨b,i,none⟩ u).setCell ⟨b,j,none⟩ v) cur' at2 st' wt':=by
 have hg:=grown_trans (grown_set (w:=w2) b i u) (grown_set b j v)
 exact H.backY h K hg.os hg.tape hg.output hg.size (fun c hc hn=>hg.block c hc (fun e=>hn (by cases e;exact ⟨y1,y2⟩)))
theorem FA.newcur (H:FA X wx w1 g b0 w cur at' st wt rv vw sp) (os:w'.os=w.os) (tape:w'.tape=w.tape) (output:w'.output=w.output) (size:w.heap.size≤w'.heap.size)
  (blk:∀b,b<w.heap.size→b≠g.p→(w1.heap.size≤b→(rv 0).ownBlock≠some b∧(rv 1).ownBlock≠some b)→w'.heap[b]?=w.heap[b]?)
  {b1:Nat} {cur':As} {at2:Int} {v0 v1:Value} (hp:w'.heap[g.p]?=some (.cells (flRow g st.length v0 v1 vw at2) 228 (0,0)))
  (h0:w'.ownsRow b1 233 2 v0 cur'.slots.length (tyCs cur'.slots)) (h1:w'.ownsRow w1.heap.size 233 2 v1 cur'.stk.length (tyCs cur'.stk))
  (s0:∀b,v0.ownBlock=some b→(rv 0).ownBlock=some b∨(rv 1).ownBlock=some b∨w.heap.size≤b) (s1:∀b,v1.ownBlock=some b→(rv 0).ownBlock=some b∨(rv 1).ownBlock=some b∨w.heap.size≤b) (s01:∀b,v0.ownBlock=some b→v1.ownBlock≠some b) :
  FA X wx w1 g b1 w' cur' at2 st wt (fun r=>if r=0 then v0 else if r=1 then v1 else rv r) vw sp:=by
 have hrv:∀r,2≤r→(if r=0 then v0 else if r=1 then v1 else rv r)=rv r:=fun r hr=>by rw [if_neg (by omega),if_neg (by omega)]
 have hkeep:∀b,b<w.heap.size→b≠g.p→(rv 0).ownBlock≠some b→(rv 1).ownBlock≠some b→w'.heap[b]?=w.heap[b]?:=fun b hb h1 h2 h3=>blk b hb h1 (fun _=>⟨h2,h3⟩)
 have hgr:∀r,2≤r→∀b,(rv r).ownBlock=some b→w'.heap[b]?=w.heap[b]?:=fun r hr b e=>by
  refine hkeep b (H.lt0 r b e) (fun x=>?_) (fun x=>H.sep 0 r b (by omega) x e) (fun x=>H.sep 1 r b (by omega) x e)
  exact own_far (H.rows r hr) H.blk (by decide) (x▸e)
 have hown:∀{base:Nat} {e:TypeId} {sz n:Nat} {v:Value} {xs:List Value},w.ownsRow base e sz v n xs→(∀b,v.ownBlock=some b→w'.heap[b]?=w.heap[b]?)→w'.ownsRow base e sz v n xs:=by
  intro base e sz n v xs ho hb
  refine ⟨ho.1,?_⟩
  rcases ho.2 with h|⟨gb,cap,cu,rfl,x1,x2,x3⟩
  ·exact Or.inl h
  ·exact Or.inr ⟨gb,cap,cu,rfl,x1,(hb gb rfl).trans x2,x3⟩
 have hblk0:∀b cs t,w.heap[b]?=some (.cells cs t (0,0))→t≠233→b≠g.p→w'.heap[b]?=some (.cells cs t (0,0)):=fun b cs t hb ht hbp =>
  (hkeep b (lt_some hb) hbp (own_far H.row0 hb ht) (own_far H.row1 hb ht)).trans hb
 refine ⟨⟨os.trans H.fz.os,tape.trans H.fz.tape,output.trans H.fz.output,Nat.le_trans H.fz.size size,fun b hb x1 x2=>(blk b (Nat.lt_of_lt_of_le hb H.fz.size) x1 (fun x=>by omega)).trans (H.fz.block b hb x1 x2)⟩,H.pin,hp,?_,?_,fun r hr=>?_,fun r r' b hne e=>?_,?_,fun k b e=>?_,H.stn,H.inj,?_,fun b hx=>?_,?_⟩
 ·exact h0
 ·exact h1
 ·try dsimp only
  rw [hrv r hr,rtF_cur (cur':=cur) hr]
  exact hown (H.rows r hr) (hgr r hr)
 ·try dsimp only at e ⊢
  have old:∀(v:Value) (b r:Nat),(∀b,v.ownBlock=some b→(rv 0).ownBlock=some b∨(rv 1).ownBlock=some b∨w.heap.size≤b)→2≤r→v.ownBlock=some b→(rv r).ownBlock≠some b:=fun v b r s hr e1 e2=>by
   rcases s b e1 with x|x|x
   ·exact H.sep 0 r b (by omega) x e2
   ·exact H.sep 1 r b (by omega) x e2
   ·have:=H.lt0 r b e2;omega
  by_cases r0:r=0
  ·rw [if_pos r0] at e
   by_cases r1:r'=1
   ·rw [if_neg (by omega),if_pos r1];exact s01 b e
   ·rw [hrv r' (by omega)];exact old v0 b r' s0 (by omega) e
  ·rw [if_neg r0] at e
   by_cases r1:r=1
   ·rw [if_pos r1] at e
    by_cases q0:r'=0
    ·rw [if_pos q0];exact fun x=>s01 b x e
    ·rw [hrv r' (by omega)];exact old v1 b r' s1 (by omega) e
   ·rw [if_neg r1] at e
    by_cases q0:r'=0
    ·rw [if_pos q0];exact fun x=>old v0 b r s0 (by omega) x e
    ·rw [if_neg q0]
     by_cases q1:r'=1
     ·rw [if_pos q1];exact fun x=>old v1 b r s1 (by omega) x e
     ·rw [if_neg q1];exact H.sep r r' b hne e
 ·exact hblk0 _ _ _ H.sbk (by decide) (fun x=>by have:=H.sbk;rw [x,H.blk] at this;simp at this)
 ·obtain ⟨x1,x2,x3,x4⟩:=H.sts k b e
  refine ⟨x1,x2,x3,?_⟩
  try dsimp only
  rw [hrv _ (by omega),hrv _ (by omega)]
  exact hblk0 _ _ _ x4 (by decide) (by have:=H.pin.1;omega)
 ·refine hown H.wts (fun b e=>hkeep b (H.wts.lt b e).2 (fun x=>own_far H.wts H.blk (by decide) (x▸e)) (fun x=>?_) (fun x=>?_))
  ·rcases H.row0.2 with ⟨y,-⟩|⟨gb,cap,cu,y,y1,y2,-⟩
   ·rw [y] at x;simp [Value.ownBlock] at x
   ·rw [y] at x;simp [Value.ownBlock] at x;subst x
    exact own_far H.wts y2 (by decide) e
  ·rcases H.row1.2 with ⟨y,-⟩|⟨gb,cap,cu,y,y1,y2,-⟩
   ·rw [y] at x;simp [Value.ownBlock] at x
   ·rw [y] at x;simp [Value.ownBlock] at x;subst x
    exact own_far H.wts y2 (by decide) e
 ·have F:=H.far b hx
  have hlt:b<w.heap.size:=Nat.lt_of_lt_of_le (H.kept.blk b hx).1 H.kept.size
  refine ⟨F.p,F.s,fun r e=>?_,F.w,F.k⟩
  try dsimp only at e
  by_cases r0:r=0
  ·rw [if_pos r0] at e
   rcases s0 b e with x|x|x
   ·exact F.r 0 x
   ·exact F.r 1 x
   ·omega
  ·rw [if_neg r0] at e
   by_cases r1:r=1
   ·rw [if_pos r1] at e
    rcases s1 b e with x|x|x
    ·exact F.r 0 x
    ·exact F.r 1 x
    ·omega
   ·rw [if_neg r1] at e;exact F.r r e
 ·refine ⟨Nat.le_trans H.kept.size size,fun b hx=>⟨(H.kept.blk b hx).1,?_⟩⟩
  have F:=H.far b hx
  rw [hkeep b (Nat.lt_of_lt_of_le (H.kept.blk b hx).1 H.kept.size) F.p (F.r 0) (F.r 1)]
  exact (H.kept.blk b hx).2
end
end
end Go.Proofs.YtgiiapenmjollaaGreat
