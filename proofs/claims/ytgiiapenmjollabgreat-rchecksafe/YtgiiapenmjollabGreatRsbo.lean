import Derived.Test.YtgiiapenmjollabGreatRsaq
import Derived.Test.YtgiiapenmjollabGreatRsbn
namespace Go.Proofs.YtgiiapenmjollabGreat
set_option linter.all false
set_option maxHeartbeats 40000000
set_option maxRecDepth 100000
open Go.RowKit
abbrev fltV (c k:Int):Value:=.agg #[.int .i64 c,.int .i64 k,.int .i64 0]
def ChP (f:Fi) (c k:Int):Prop:=(rfmayB f=false∧c=2)∨c=3∨(c=0∧rfmayB f=true∧∀m∈f.methods,SoundM f m)
theorem ChQ.short {f:Fi} {w:World} {e:Ending} {w':World} (h:ChQ f w e w'):∃S n s c k,e=.returned (.tuple #[.slice S n s,fltV c k])∧ChP f c k∧Bl w w':=by
 rcases h.2 with ⟨h1,h2⟩|⟨k,h1⟩|⟨S,n,s,h1,h2,h3⟩
 ·exact ⟨_,_,_,2,0,h2,Or.inl ⟨h1,rfl⟩,h.1⟩
 ·exact ⟨_,_,_,3,k,h1,Or.inr (Or.inl rfl),h.1⟩
 ·exact ⟨S,n,s,0,0,h1,Or.inr (Or.inr ⟨rfl,h2,h3⟩),h.1⟩
theorem fstates_any (f:Fi) (A B:Option Addr) (a b:Nat) (w:World) (hA:ClsAt w A f.classes) (hB:MesAt w B f.methods) :
  Calls Tryz.prog 34 #[fiV f.classes.length f.methods.length A B a b] w fun e w'=>∃S n s c k,e=.returned (.tuple #[.slice S n s,fltV c k])∧ChP f c k∧Bl w w':=by
 have BW:Hid (Bl w ((w.alloc (.cells #[.slice A f.classes.length a,.slice B f.methods.length b] 25)).alloc (.cells #[.int .i64 0,.int .i64 0,.int .i64 0] 36))):=((Bl.refl w).alloc _).alloc _
 have ZX:Hid (((w.alloc (.cells #[.slice A f.classes.length a,.slice B f.methods.length b] 25)).alloc (.cells #[.int .i64 0,.int .i64 0,.int .i64 0] 36)).heap[w.heap.size+1]?=some (.cells #[.int .i64 0,.int .i64 0,.int .i64 0] 36 (0,0))):=mblk (by simp)
 have K:=hid (fcheck_any f A B a b _ (hA.bl BW.out) (hB.bl BW.out))
 clear hA hB
 go_enter Tryz.func34,Tryz.ntmps34
 go_wp2_with (go_at_call 75;refine K.out.mono ?_;intro e w2 hq;obtain ⟨S,n,s,c,k,rfl,q2,b2⟩:=hq.short;have X2:=hid (bl_blk b2 ZX.out);have x0:=cell_blk (i:=0) X2.out;have x1:=cell_blk (i:=1) X2.out;have x2:=cell_blk (i:=2) X2.out;have hx:=lt_some X2.out;have fx:=free_blk X2.out;have B2:=hid (BW.out.trans b2);have Q2:=hid q2;clear b2 hq q2)
 refine bodyPost_ret (results_tmp_cell rfl _ _ (w.heap.size+1) _ _ _ _ (.slice S n s) rfl rfl (set_3f X2.out _ _ _) Tryz.underlying36 rfl info_flt) rfl ?_
 exact ⟨S,n,s,c,k,rfl,Q2.out,bl_3f B2.out (by omega) _ _ _⟩
theorem rcheck_any (f:Fi) (A B:Option Addr) (a b:Nat) (w:World) (hA:ClsAt w A f.classes) (hB:MesAt w B f.methods) :
  Calls Tryz.prog 15 #[fiV f.classes.length f.methods.length A B a b] w fun e w'=>∃c k,e=.returned (fltV c k)∧ChP f c k∧Bl w w':=by
 have BW:Hid (Bl w ((w.alloc (.cells #[.slice A f.classes.length a,.slice B f.methods.length b] 25)).alloc (.cells #[.int .i64 0,.int .i64 0,.int .i64 0] 36))):=((Bl.refl w).alloc _).alloc _
 have ZX:Hid (((w.alloc (.cells #[.slice A f.classes.length a,.slice B f.methods.length b] 25)).alloc (.cells #[.int .i64 0,.int .i64 0,.int .i64 0] 36)).heap[w.heap.size+1]?=some (.cells #[.int .i64 0,.int .i64 0,.int .i64 0] 36 (0,0))):=mblk (by simp)
 have K:=hid (fstates_any f A B a b _ (hA.bl BW.out) (hB.bl BW.out))
 clear hA hB
 go_enter Tryz.func15,Tryz.ntmps15
 go_wp2_with (go_at_call 34;refine K.out.mono ?_;rintro e w2 ⟨S,n,s,c,k,rfl,q2,b2⟩;have X2:=hid (bl_blk b2 ZX.out);have x0:=cell_blk (i:=0) X2.out;have x1:=cell_blk (i:=1) X2.out;have x2:=cell_blk (i:=2) X2.out;have hx:=lt_some X2.out;have fx:=free_blk X2.out;have B2:=hid (BW.out.trans b2);have Q2:=hid q2;clear b2 q2)
 refine bodyPost_ret (results_cell_row rfl _ _ (w.heap.size+1) _ _ _ _ rfl (bl_blk ((Bl.refl _).alloc _) (set_3f X2.out _ _ _)) Tryz.underlying36 rfl info_flt) rfl ?_
 exact ⟨c,k,rfl,Q2.out,(bl_3f B2.out (by omega) _ _ _).alloc _⟩
theorem args_snoc:∀(l:List Va) (l0:List Va) (at':Nat) (v:Va),argsP l0 at' (l++[v])=stoP (argsP l0 at' l) (at'+sizP l) v
 | [],l0,at',v=>by simp [argsP,sizP]
 | x::l,l0,at',v=>by
  show argsP (stoP l0 at' x) (at'+sizP [x]) (l++[v])=stoP (argsP (stoP l0 at' x) (at'+sizP [x]) l) (at'+sizP (x::l)) v
  rw [args_snoc l]
  have:at'+sizP [x]+sizP l=at'+sizP (x::l):=by simp [sizP];omega
  rw [this]
theorem take_snoc' {l:List Va} {k:Nat} (h:k<l.length):l.take (k+1)=l.take k++[nth va0 l k]:=by
 rw [List.take_succ_eq_append_getElem h,nth_get h]
theorem args_part {h:Hp} {m:Me} {l:List Va} (hsm:rmeB h.file.classes h.file.methods m=true) (hl:l.length=m.params.length) (hg:∀v∈l,GdV h v) (he:h.enterL l m.params=true) (k:Nat) (hk:k≤l.length) :
  LocOk (argsP (List.replicate m.regs.toNat va0) 0 (l.take k))∧(argsP (List.replicate m.regs.toNat va0) 0 (l.take k)).length=m.regs.toNat∧(sizP (l.take k):Int)≤m.regs ∧
  (k<l.length→(sizP (l.take k):Int)<m.regs∧((nth va0 l k).kind=2→(sizP (l.take k):Int)+1<m.regs)):=by
 obtain ⟨p1,p2,p3,p5,p6,p7,p8,p9,p10,p11⟩:=smeP hsm
 obtain ⟨s1,s2⟩:=enter_sizes h h.file.classes.length l m.params hl he p9
 have hle:=sizP_takeLe l k
 obtain ⟨k1,k2,k3⟩:=args_kept h (l.take k) (List.replicate m.regs.toNat va0) 0 (rep_ok _) (fun x hx=>by rw [List.eq_of_mem_replicate hx];exact gdV0 h) (fun x hx=>hg x (List.mem_of_mem_take hx)) (fun x hx=>s2 x (List.mem_of_mem_take hx)) (by rw [List.length_replicate];omega)
 refine ⟨k1,by rw [k3,List.length_replicate],by omega,fun hlt=>?_⟩
 have h1:=sizP_takeLe l (k+1)
 rw [take_snoc' hlt,sizP_append,siz_one] at h1
 split at h1
 ·omega
 ·exact ⟨by omega,fun e=>by contradiction⟩
theorem Only.hs {w0 w w':World} {g:Ad} {p b:Nat} {h:Hp} {l:List Va} (H:Hs w0 g w p h) (o:Only b w w') (k:Tk g.T) (L:LocBox w b l) (hb:w0.heap.size≤b):Hs w0 g w' p h:=H.cf (o.cf k L hb H.base)
theorem StkAt.only {b lb:Nat} {w w':World} {A:Option Addr} {l:List Va} (h:StkAt lb w A l) (o:Only b w w') (N:Nat) (hN:N≤b) (he:∀x y cs f,A=some ⟨x,y,none⟩→w.heap[x]?=some (.cells cs 82 f)→0<l.length→x<N):StkAt lb w' A l:=by
 rcases h with h|⟨x,y,cs,f,h1,h2,h3,h4⟩
 ·exact Or.inl h
 ·by_cases h0:l.length=0
  ·exact Or.inl h0
  ·have:=he x y cs f h1 h2 (by omega)
   exact Or.inr ⟨x,y,cs,f,h1,(o.block x (lt_some h2) (by omega)).trans h2,h3,h4⟩
theorem store_at (b:Nat) (l:List Va) (a c n:Nat) (v:Va) (w:World) (hL:LocBox w b l) (hok:LocOk l) (hn:n=l.length) (ha:a<n) (h2:v.kind=2→a+1<n) :
  Calls Tryz.prog 82 #[.slice (some ⟨b,0,none⟩) n c,.int .i64 (a:Int),vaV v] w fun e w'=>e=.returned (.tuple #[])∧LocBox w' b (stoP l a v)∧Only b w w':=by
 subst hn
 exact store_any b l a c v w hL hok ha h2
theorem vas_one {w:World} {b off:Nat} {v:Va} (h0:w.cell? ⟨b,off,none⟩=some (.int .i64 v.kind)) (h1:w.cell? ⟨b,off+1,none⟩=some (.int .i64 v.n)):VasAt w (some ⟨b,off,none⟩) [v] :=
 ⟨by unfold maxLen;simp,Or.inr ⟨b,off,rfl,fun i hi=>by
  have:i=0:=by simp at hi;exact hi
  subst this
  rw [Nat.zero_mul,Nat.add_zero]
  exact ⟨h0,h1⟩⟩⟩
structure L2 (w0:World) (g:Ad) (p:Nat) (ca:Ca) (m:Me) (WA:World) (h0:Hp) (N:Nat) (LP:Hp×Va) (k:Nat) (h1:Hp) (c1:Cal) (wr:World):Prop where
 hs:Hs w0 g wr p h1
 cs:CalAt w0 wr ca c1
 fq:Fq w0.heap.size g.T ca WA wr
 gh:Gh 0 h1
 kd:Kd h1
 calls:1≤h1.calls
 inv:Inv h1 c1
 me:c1.m=m
 file:h1.file=h0.file
 inp:h1.input=h0.input
 fuel:h1.fuel=h0.fuel
 left:(h1.fuel-h1.sh.steps).toNat≤k
 le:k≤N
 is:loopP k h1 c1=LP
def leftAt (p:Nat) (fuel:Int) (w:World):Nat:=match w.cell? ⟨p,11,none⟩ with
 | some v=>(fuel-intOf v).toNat
 | none=>0
theorem left_is {w0 w:World} {g:Ad} {p:Nat} {h:Hp} (H:Hs w0 g w p h) (fuel:Int):leftAt p fuel w=(fuel-h.sh.steps).toNat:=by
 obtain ⟨vo,vx,hv,X⟩:=H
 unfold leftAt
 rw [X.cells.c11]
 rfl
theorem loop_end {k:Nat} {h:Hp} {c:Cal} (hb:h.stepB=false):loopP k h c=(h.step.leave,va0):=by
 cases k with
 | zero=>rfl
 | succ k=>unfold loopP;rw [if_pos hb]
theorem HpAt.leave {w0 w:World} {g:Ad} {p:Nat} {h:Hp} {vo vx:Value} {hv:List Value} (H:HpAt w0 g w p h vo vx hv) (k:Tk g.T):HpAt w0 g (w.setCell ⟨p,4,none⟩ (.int .i64 (h.calls-1))) p h.leave vo vx hv:=H.set k _ rfl rfl rfl
theorem VaBox.far {w:World} {b p i:Nat} {v:Va} {u:Value} (h:VaBox w b v) (hb:b≠p):VaBox (w.setCell ⟨p,i,none⟩ u) b v:=⟨by rw [block_far hb];exact h.blk⟩
theorem must_is (h:Hp) (ho:h.over=false) (b:Bool):h.mustB b=b:=by unfold Hp.mustB;rw [ho];simp
theorem Hs.c4 {w0 w:World} {g:Ad} {p:Nat} {h:Hp} (H:Hs w0 g w p h):w.cell? ⟨p,4,none⟩=some (.int .i64 h.calls)∧w.frozen? ⟨p,4,none⟩=false:=by
 obtain ⟨vo,vx,hv,X⟩:=H
 exact ⟨X.cells.c4,X.free 4⟩
theorem VaBox.three {w:World} {b:Nat} {v:Va} (H:VaBox w b v):w.cell? ⟨b,0,none⟩=some (.int .i64 v.kind)∧w.cell? ⟨b,1,none⟩=some (.int .i64 v.n)∧∀i,w.frozen? ⟨b,i,none⟩=false:=⟨H.c0,H.c1,H.fr⟩
theorem CalAt.clrAt {w0 w:World} {a:Ca} {c:Cal} (H:CalAt w0 w a c):CalAt w0 ((((w.setCell ⟨a.q,9,none⟩ (.int .i64 0)).setCell ⟨a.q,10,none⟩ (.int .i64 0)).setCell ⟨a.q,11,none⟩ (.int .i64 0)).setCell ⟨a.q,12,none⟩ (.int .i64 0)) a c.clr:=by
 have a1:=H.setC (c':={ c with giv:=⟨0,c.giv.n⟩ }) (i:=9) (v:=.int .i64 0) rfl rfl rfl
 have a2:=a1.setC (c':={ c with giv:=va0 }) (i:=10) (v:=.int .i64 0) rfl rfl rfl
 have a3:=a2.setC (c':={ c with giv:=va0,cau:=⟨0,c.cau.n⟩ }) (i:=11) (v:=.int .i64 0) rfl rfl rfl
 exact a3.setC (c':=c.clr) (i:=12) (v:=.int .i64 0) rfl rfl rfl
theorem CalAt.set4 {T:TypeId} {w0 w:World} {a:Ca} {c:Cal} (H:CalAt w0 w a c) (n7:¬heapT T 140) (i j k l:Nat) (v x y z:Value):Cf w0.heap.size T w ((((w.setCell ⟨a.q,i,none⟩ v).setCell ⟨a.q,j,none⟩ x).setCell ⟨a.q,k,none⟩ y).setCell ⟨a.q,l,none⟩ z)∧Fq w0.heap.size T a w ((((w.setCell ⟨a.q,i,none⟩ v).setCell ⟨a.q,j,none⟩ x).setCell ⟨a.q,k,none⟩ y).setCell ⟨a.q,l,none⟩ z):=by
 have f:∀(u:World) (i:Nat) (v:Value),Fq w0.heap.size T a u (u.setCell ⟨a.q,i,none⟩ v):=fun u i v=>⟨(Below.refl _ u).setCell H.own v,fun b cs t f e n n1 n2=>by rw [block_far n1];exact e⟩
 refine ⟨?_,(((f w i v).trans (f _ j x)).trans (f _ k y)).trans (f _ l z)⟩
 have b1:=block_set (i:=i) H.blk v
 have b2:=block_set (i:=j) b1 x
 have b3:=block_set (i:=k) b2 y
 exact ((((Cf.refl _ _ w).set H.blk n7 H.own v).set b1 n7 H.own x).set b2 n7 H.own y).set b3 n7 H.own z
theorem res_y {N:Nat} {h:Hp} {c:Cal} {i:In} (e:i.op=19) (k:c.giv.kind=i.b) (ho:h.over=false):doP N h c i=⟨h,wrP h c.clr i.a c.giv,c.pc+1⟩:=by
 unfold doP doesP resP
 rw [if_neg (by omega),if_neg (by omega),if_neg (by omega),if_neg (by omega),if_neg (by omega),if_neg (by omega),if_pos e,must_is h ho,decide_eq_true k,if_pos rfl]
 rfl
theorem res_n {N:Nat} {h:Hp} {c:Cal} {i:In} (e:i.op=19) (k:c.giv.kind≠i.b) (ho:h.over=false):doP N h c i=⟨h.must false,c.clr,c.pc+1⟩:=by
 unfold doP doesP resP
 rw [if_neg (by omega),if_neg (by omega),if_neg (by omega),if_neg (by omega),if_neg (by omega),if_neg (by omega),if_pos e,must_is h ho,decide_eq_false k,if_neg (by decide)]
theorem cau_y {N:Nat} {h:Hp} {c:Cal} {i:In} (e:i.op=22) (k:c.cau.kind=3) (ho:h.over=false):doP N h c i=⟨h,wrP h c.clr i.a c.cau,c.pc+1⟩:=by
 have e1:isRef c.cau=true:=decide_eq_true k
 unfold doP doesP cauP
 rw [if_neg (by omega),if_neg (by omega),if_neg (by omega),if_neg (by omega),if_neg (by omega),if_neg (by omega),if_neg (by omega),if_neg (by omega),if_pos e,must_is h ho,e1,if_pos rfl]
 rfl
theorem cau_n {N:Nat} {h:Hp} {c:Cal} {i:In} (e:i.op=22) (k:c.cau.kind≠3) (ho:h.over=false):doP N h c i=⟨h.must false,c.clr,c.pc+1⟩:=by
 have e1:isRef c.cau=false:=decide_eq_false k
 unfold doP doesP cauP
 rw [if_neg (by omega),if_neg (by omega),if_neg (by omega),if_neg (by omega),if_neg (by omega),if_neg (by omega),if_neg (by omega),if_neg (by omega),if_pos e,must_is h ho,e1,if_neg (by decide)]
theorem clr_all {w0 V:World} {g:Ad} {p:Nat} {h:Hp} {a:Ca} {c:Cal} (H:Hs w0 g V p h) (C:CalAt w0 V a c) (k:Cq w0 g h) :
  Hs w0 g ((((((V.setCell ⟨a.q,9,none⟩ (.int .i64 va0.kind)).setCell ⟨a.q,10,none⟩ (.int .i64 va0.n)).setCell ⟨a.q,11,none⟩ (.int .i64 va0.kind)).setCell ⟨a.q,12,none⟩ (.int .i64 va0.n)).alloc (.cells #[.int .i64 c.giv.kind,.int .i64 c.giv.n] 82)).alloc (.cells #[.int .i64 c.cau.kind,.int .i64 c.cau.n] 82)) p h∧CalAt w0 ((((((V.setCell ⟨a.q,9,none⟩ (.int .i64 va0.kind)).setCell ⟨a.q,10,none⟩ (.int .i64 va0.n)).setCell ⟨a.q,11,none⟩ (.int .i64 va0.kind)).setCell ⟨a.q,12,none⟩ (.int .i64 va0.n)).alloc (.cells #[.int .i64 c.giv.kind,.int .i64 c.giv.n] 82)).alloc (.cells #[.int .i64 c.cau.kind,.int .i64 c.cau.n] 82)) a c.clr∧Fq w0.heap.size g.T a V ((((((V.setCell ⟨a.q,9,none⟩ (.int .i64 va0.kind)).setCell ⟨a.q,10,none⟩ (.int .i64 va0.n)).setCell ⟨a.q,11,none⟩ (.int .i64 va0.kind)).setCell ⟨a.q,12,none⟩ (.int .i64 va0.n)).alloc (.cells #[.int .i64 c.giv.kind,.int .i64 c.giv.n] 82)).alloc (.cells #[.int .i64 c.cau.kind,.int .i64 c.cau.n] 82))∧VaBox ((((((V.setCell ⟨a.q,9,none⟩ (.int .i64 va0.kind)).setCell ⟨a.q,10,none⟩ (.int .i64 va0.n)).setCell ⟨a.q,11,none⟩ (.int .i64 va0.kind)).setCell ⟨a.q,12,none⟩ (.int .i64 va0.n)).alloc (.cells #[.int .i64 c.giv.kind,.int .i64 c.giv.n] 82)).alloc (.cells #[.int .i64 c.cau.kind,.int .i64 c.cau.n] 82)) V.heap.size c.giv∧VaBox ((((((V.setCell ⟨a.q,9,none⟩ (.int .i64 va0.kind)).setCell ⟨a.q,10,none⟩ (.int .i64 va0.n)).setCell ⟨a.q,11,none⟩ (.int .i64 va0.kind)).setCell ⟨a.q,12,none⟩ (.int .i64 va0.n)).alloc (.cells #[.int .i64 c.giv.kind,.int .i64 c.giv.n] 82)).alloc (.cells #[.int .i64 c.cau.kind,.int .i64 c.cau.n] 82)) (V.heap.size+1) c.cau∧(∀b,b≠a.q→b<V.heap.size→((((((V.setCell ⟨a.q,9,none⟩ (.int .i64 va0.kind)).setCell ⟨a.q,10,none⟩ (.int .i64 va0.n)).setCell ⟨a.q,11,none⟩ (.int .i64 va0.kind)).setCell ⟨a.q,12,none⟩ (.int .i64 va0.n)).alloc (.cells #[.int .i64 c.giv.kind,.int .i64 c.giv.n] 82)).alloc (.cells #[.int .i64 c.cau.kind,.int .i64 c.cau.n] 82)).heap[b]?=V.heap[b]?):=by
 obtain ⟨c1,c2⟩:=CalAt.set4 (T:=g.T) C k.n7 9 10 11 12 (.int .i64 va0.kind) (.int .i64 va0.n) (.int .i64 va0.kind) (.int .i64 va0.n)
 have c3:=C.clrAt
 have bb:Bl ((((V.setCell ⟨a.q,9,none⟩ (.int .i64 va0.kind)).setCell ⟨a.q,10,none⟩ (.int .i64 va0.n)).setCell ⟨a.q,11,none⟩ (.int .i64 va0.kind)).setCell ⟨a.q,12,none⟩ (.int .i64 va0.n)) ((((((V.setCell ⟨a.q,9,none⟩ (.int .i64 va0.kind)).setCell ⟨a.q,10,none⟩ (.int .i64 va0.n)).setCell ⟨a.q,11,none⟩ (.int .i64 va0.kind)).setCell ⟨a.q,12,none⟩ (.int .i64 va0.n)).alloc (.cells #[.int .i64 c.giv.kind,.int .i64 c.giv.n] 82)).alloc (.cells #[.int .i64 c.cau.kind,.int .i64 c.cau.n] 82)):=((Bl.refl _).alloc _).alloc _
 have hs:=H.cf c1
 have sz:((((V.setCell ⟨a.q,9,none⟩ (.int .i64 va0.kind)).setCell ⟨a.q,10,none⟩ (.int .i64 va0.n)).setCell ⟨a.q,11,none⟩ (.int .i64 va0.kind)).setCell ⟨a.q,12,none⟩ (.int .i64 va0.n)).heap.size=V.heap.size:=by simp
 refine ⟨hs.old bb,CalAt.old c3 bb,c2.trans (Fr.fq (Fr.old hs.base bb)),⟨?_⟩,⟨?_⟩,fun b hb hl=>?_⟩
 ·rw [←sz];exact blk_up (by simp) (blk_at rfl)
 ·exact blk_at (by simp)
 ·rw [bb.block b (by rw [sz];exact hl),block_far hb,block_far hb,block_far hb,block_far hb]
end Go.Proofs.YtgiiapenmjollabGreat
