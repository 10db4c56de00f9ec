import Derived.Test.YtgiiapenmjollaaGreatSsbf
namespace Go.Proofs.YtgiiapenmjollaaGreat
set_option linter.all false
set_option maxHeartbeats 40000000
set_option maxRecDepth 100000
open Go.RowKit
section
def DQ (f:Fi) (m:Me) (X:Nat→Prop) (wx w1:World) (g:Gf) (b0:Nat) (at':Int) (st:List (Option As)) (wt:List Int) (cur:As) (P:List (Option As)→Prop) (e:Ending) (w':World):Prop :=
 (e=upE∧FE X wx w1 g w')∨∃cur' st' wt',e=.returned (.tuple #[])∧FX X wx w1 g b0 w' cur' at' st' wt'∧Gs f m st' wt'∧Led f.classes st wt st' wt'∧(∀x∈overL at' m.hands,m.stack≠0∧Leads f.classes st' x.pc ⟨cur.slots,[⟨3,x.cls⟩]⟩)∧P st'
section
variable {X:Nat→Prop} {wx w0 w1:World} {g:Gf} {b0:Nat} {w:World} {cur s:As} {at':Int} {st:List (Option As)} {wt:List Int} {f:Fi} {m:Me}
theorem fdo11 (C:Cx w0 w1 g f m) (hc:Wn f m cur) (a b c n:Int) (A0:Option Addr) (n0 k0:Nat) (H:FX X wx w1 g b0 w cur at' st wt) (G:Gs f m st wt) (ha:0≤at'∧at'≤1000) (hl:m.hands.length≤8) (ho:∀x∈m.hands,(0≤x.til∧x.til≤1000)∧0≤x.cls∧x.cls<f.classes.length) :
  Calls Tryz.prog 119 #[.pointer (some ⟨g.q,0,none⟩),insV 11 a b c n (.slice A0 n0 k0)] w fun e w'=>DQ f m X wx w1 g b0 at' st wt cur (fun st'=>Leads f.classes st' a cur) e w':=by
 have HB:Hid (Bl w (w.alloc (insO 11 a b c n (.slice A0 n0 k0)))):=(Bl.refl w).alloc _
 have K:=hid (fthrow_any C (H.wide HB.out) G hc hl ho)
 have HC:=hid C
 have HH:=hid H
 have HW:=hid hc
 have HA:=hid ha
 have HT:=hid (may_tree C.may).1
 have ZB:=hid (mblk (w:=w) (cs:=#[.int .i64 11,.int .i64 a,.int .i64 b,.int .i64 c,.int .i64 n,.slice A0 n0 k0]) (t:=55) rfl)
 clear C H G hc ha hl ho
 go_enter Tryz.func119,Tryz.ntmps119
 go_wp2_with (first
  | (go_at_call 172;refine K.out.mono ?_;rintro e w2 (⟨rfl,q⟩|⟨st1,wt1,rfl,f1,q1⟩);exact ⟨rfl,Or.inl ⟨rfl,FE.back HH.out HB.out q⟩⟩;have Z1:=hid (f1.box (Nat.le_refl _) (by simp) ZB.out);have z0:w2.cell? ⟨w.heap.size,0,none⟩=some (.int .i64 11):=((cell_blk Z1.out).trans rfl);have hz0:=cell_lt z0;have F1:=hid f1;have Q1:=hid q1;clear f1 q1 K))
 have q0:=HC.out.q0 F1.out
 have hq0:=cell_lt q0
 have z1:w2.cell? ⟨w.heap.size,1,none⟩=some (.int .i64 a):=(cell_blk Z1.out).trans rfl
 have hzl:=cell_lt z1
 refine wp_region_held_drew (S:=fun w'=>w'.cell? ⟨g.q,0,none⟩=some (.pointer (some ⟨g.p,0,none⟩))∧w'.cell? ⟨w.heap.size,1,none⟩=some (.int .i64 a)) (by kernel_rfl) ?_ (fun hHeld0=>?_)
 ·exact ⟨q0,z1⟩
 clear q0 z1
 iterate 6 (refine tn rfl (by kernel_rfl) (fun _ _ _ h=>h) (by intro _ h;go_split_ands;go_simp<;>with_reducible rfl) hHeld0 ?_;try simp only [aZ])
 refine rd1 (i:=6) (by kernel_rfl) rfl fun K hK=>?_
 go_simp
 go_at_call 169
 refine (flead_any HC.out a (F1.out.bl (Bl.refl w2).drew) Q1.out.1 HW.out).mono ?_
 rintro e w5 (⟨rfl,q⟩|⟨st2,wt2,rfl,f5,q5⟩)
 ·exact ⟨rfl,Or.inl ⟨rfl,FE.back HH.out HB.out q⟩⟩
 have Z5:=hid (f5.box (Nat.le_refl _) (by simp) ZB.out)
 have F5:=hid f5
 have Q5:=hid q5
 have q6:=HC.out.q0 f5
 clear f5 q5
 refine hK.out _ _ ⟨q6,(cell_blk Z5.out).trans rfl⟩ (fun hHeld1=>?_)
 clear hHeld0 hHeld1 hK q6
 try simp only [aZ]
 refine wpAnyH_done (by kernel_rfl) ?_ _
 go_wp2
 go_end0
 exact Or.inr ⟨_,st2,wt2,rfl,HH.out.back HB.out F5.out,Q5.out.1,Q1.out.2.1.trans HT.out Q5.out.2.1,fun x hx=>⟨(Q1.out.2.2 x hx).1,Q5.out.2.1.leads HT.out (Q1.out.2.2 x hx).2⟩,Q5.out.2.2⟩
theorem fdo12n (C:Cx w0 w1 g f m) (hc:Wn f m cur) (hk:takeK 1 cur=none) (a b c n:Int) (A0:Option Addr) (n0 k0:Nat) (H:FX X wx w1 g b0 w cur at' st wt) (G:Gs f m st wt) (ha:0≤at'∧at'≤1000) (hl:m.hands.length≤8) (ho:∀x∈m.hands,(0≤x.til∧x.til≤1000)∧0≤x.cls∧x.cls<f.classes.length) :
  Calls Tryz.prog 119 #[.pointer (some ⟨g.q,0,none⟩),insV 12 a b c n (.slice A0 n0 k0)] w fun e w'=>DQ f m X wx w1 g b0 at' st wt cur (fun st'=>False) e w':=by
 have HB:Hid (Bl w (w.alloc (insO 12 a b c n (.slice A0 n0 k0)))):=(Bl.refl w).alloc _
 have K:=hid (fthrow_any C (H.wide HB.out) G hc hl ho)
 have HC:=hid C
 have HH:=hid H
 have HW:=hid hc
 have HA:=hid ha
 have HT:=hid (may_tree C.may).1
 have ZB:=hid (mblk (w:=w) (cs:=#[.int .i64 12,.int .i64 a,.int .i64 b,.int .i64 c,.int .i64 n,.slice A0 n0 k0]) (t:=55) rfl)
 have HK:=hid hk
 clear hk
 clear C H G hc ha hl ho
 go_enter Tryz.func119,Tryz.ntmps119
 go_wp2_with (first
  | (go_at_call 172;refine K.out.mono ?_;rintro e w2 (⟨rfl,q⟩|⟨st1,wt1,rfl,f1,q1⟩);exact ⟨rfl,Or.inl ⟨rfl,FE.back HH.out HB.out q⟩⟩;have Z1:=hid (f1.box (Nat.le_refl _) (by simp) ZB.out);have z0:w2.cell? ⟨w.heap.size,0,none⟩=some (.int .i64 12):=((cell_blk Z1.out).trans rfl);have hz0:=cell_lt z0;have F1:=hid f1;have Q1:=hid q1;clear f1 q1 K)
  | (go_at_call 173;refine (ftakeK_n HC.out HW.out.wq F1.out HK.out).mono ?_;rintro e w3 ⟨rfl,q⟩;exact ⟨rfl,Or.inl ⟨rfl,FE.back HH.out HB.out q⟩⟩))
theorem fdo12y (C:Cx w0 w1 g f m) (hc:Wn f m cur) (v:Ty) (hk:takeK 1 cur=some (v,s)) (a b c n:Int) (A0:Option Addr) (n0 k0:Nat) (H:FX X wx w1 g b0 w cur at' st wt) (G:Gs f m st wt) (ha:0≤at'∧at'≤1000) (hl:m.hands.length≤8) (ho:∀x∈m.hands,(0≤x.til∧x.til≤1000)∧0≤x.cls∧x.cls<f.classes.length) :
  Calls Tryz.prog 119 #[.pointer (some ⟨g.q,0,none⟩),insV 12 a b c n (.slice A0 n0 k0)] w fun e w'=>DQ f m X wx w1 g b0 at' st wt cur (fun st'=>Leads f.classes st' a s∧Leads f.classes st' (at'+1) s) e w':=by
 have HB:Hid (Bl w (w.alloc (insO 12 a b c n (.slice A0 n0 k0)))):=(Bl.refl w).alloc _
 have K:=hid (fthrow_any C (H.wide HB.out) G hc hl ho)
 have HC:=hid C
 have HH:=hid H
 have HW:=hid hc
 have HA:=hid ha
 have HT:=hid (may_tree C.may).1
 have ZB:=hid (mblk (w:=w) (cs:=#[.int .i64 12,.int .i64 a,.int .i64 b,.int .i64 c,.int .i64 n,.slice A0 n0 k0]) (t:=55) rfl)
 have HK:=hid hk
 have WS:Hid (Wn f m s):=⟨(hc.wq.takeK hk).1,(hc.nr.takeK hk).1⟩
 clear hk
 clear C H G hc ha hl ho
 go_enter Tryz.func119,Tryz.ntmps119
 go_wp2_with (first
  | (go_at_call 172;refine K.out.mono ?_;rintro e w2 (⟨rfl,q⟩|⟨st1,wt1,rfl,f1,q1⟩);exact ⟨rfl,Or.inl ⟨rfl,FE.back HH.out HB.out q⟩⟩;have Z1:=hid (f1.box (Nat.le_refl _) (by simp) ZB.out);have z0:w2.cell? ⟨w.heap.size,0,none⟩=some (.int .i64 12):=((cell_blk Z1.out).trans rfl);have hz0:=cell_lt z0;have F1:=hid f1;have Q1:=hid q1;clear f1 q1 K)
  | (go_at_call 173;refine (ftakeK_y HC.out HW.out.wq F1.out HK.out).mono ?_;rintro e w3 ⟨rfl,f3⟩;have Z3:=hid (f3.box (Nat.le_refl _) (by simp) ZB.out);have F3:=hid f3;clear f3))
 have q0:=HC.out.q0 F3.out
 have hq0:=cell_lt q0
 have z1:w3.cell? ⟨w.heap.size,1,none⟩=some (.int .i64 a):=(cell_blk Z3.out).trans rfl
 have hzl:=cell_lt z1
 refine wp_region_held_drew (S:=fun w'=>w'.cell? ⟨g.q,0,none⟩=some (.pointer (some ⟨g.p,0,none⟩))∧w'.cell? ⟨w.heap.size,1,none⟩=some (.int .i64 a)) (by kernel_rfl) ?_ (fun hHeld0=>?_)
 ·exact ⟨q0,z1⟩
 clear q0 z1
 iterate 6 (refine tn rfl (by kernel_rfl) (fun _ _ _ h=>h) (by intro _ h;go_split_ands;go_simp<;>with_reducible rfl) hHeld0 ?_;try simp only [aZ])
 refine rd1 (i:=6) (by kernel_rfl) rfl fun K hK=>?_
 go_simp
 go_at_call 174
 refine (fbranch_any HC.out a (F3.out.bl (Bl.refl w3).drew) Q1.out.1 WS.out HA.out).mono ?_
 rintro e w5 (⟨rfl,q⟩|⟨st2,wt2,rfl,f5,q5⟩)
 ·exact ⟨rfl,Or.inl ⟨rfl,FE.back HH.out HB.out q⟩⟩
 have Z5:=hid (f5.box (Nat.le_refl _) (by simp) ZB.out)
 have F5:=hid f5
 have Q5:=hid q5
 have q6:=HC.out.q0 f5
 clear f5 q5
 refine hK.out _ _ ⟨q6,(cell_blk Z5.out).trans rfl⟩ (fun hHeld1=>?_)
 clear hHeld0 hHeld1 hK q6
 try simp only [aZ]
 refine wpAnyH_done (by kernel_rfl) ?_ _
 go_wp2
 go_end0
 exact Or.inr ⟨_,st2,wt2,rfl,HH.out.back HB.out F5.out,Q5.out.1,Q1.out.2.1.trans HT.out Q5.out.2.1,fun x hx=>⟨(Q1.out.2.2 x hx).1,Q5.out.2.1.leads HT.out (Q1.out.2.2 x hx).2⟩,Q5.out.2.2⟩
theorem fdo13n (C:Cx w0 w1 g f m) (hc:Wn f m cur) (hk:takeK 3 cur=none) (a b c n:Int) (A0:Option Addr) (n0 k0:Nat) (H:FX X wx w1 g b0 w cur at' st wt) (G:Gs f m st wt) (ha:0≤at'∧at'≤1000) (hl:m.hands.length≤8) (ho:∀x∈m.hands,(0≤x.til∧x.til≤1000)∧0≤x.cls∧x.cls<f.classes.length) :
  Calls Tryz.prog 119 #[.pointer (some ⟨g.q,0,none⟩),insV 13 a b c n (.slice A0 n0 k0)] w fun e w'=>DQ f m X wx w1 g b0 at' st wt cur (fun st'=>False) e w':=by
 have HB:Hid (Bl w (w.alloc (insO 13 a b c n (.slice A0 n0 k0)))):=(Bl.refl w).alloc _
 have K:=hid (fthrow_any C (H.wide HB.out) G hc hl ho)
 have HC:=hid C
 have HH:=hid H
 have HW:=hid hc
 have HA:=hid ha
 have HT:=hid (may_tree C.may).1
 have ZB:=hid (mblk (w:=w) (cs:=#[.int .i64 13,.int .i64 a,.int .i64 b,.int .i64 c,.int .i64 n,.slice A0 n0 k0]) (t:=55) rfl)
 have HK:=hid hk
 clear hk
 clear C H G hc ha hl ho
 go_enter Tryz.func119,Tryz.ntmps119
 go_wp2_with (first
  | (go_at_call 172;refine K.out.mono ?_;rintro e w2 (⟨rfl,q⟩|⟨st1,wt1,rfl,f1,q1⟩);exact ⟨rfl,Or.inl ⟨rfl,FE.back HH.out HB.out q⟩⟩;have Z1:=hid (f1.box (Nat.le_refl _) (by simp) ZB.out);have z0:w2.cell? ⟨w.heap.size,0,none⟩=some (.int .i64 13):=((cell_blk Z1.out).trans rfl);have hz0:=cell_lt z0;have F1:=hid f1;have Q1:=hid q1;clear f1 q1 K)
  | (go_at_call 173;refine (ftakeK_n HC.out HW.out.wq F1.out HK.out).mono ?_;rintro e w3 ⟨rfl,q⟩;exact ⟨rfl,Or.inl ⟨rfl,FE.back HH.out HB.out q⟩⟩))
theorem fdo13y (C:Cx w0 w1 g f m) (hc:Wn f m cur) (v:Ty) (hk:takeK 3 cur=some (v,s)) (a b c n:Int) (A0:Option Addr) (n0 k0:Nat) (H:FX X wx w1 g b0 w cur at' st wt) (G:Gs f m st wt) (ha:0≤at'∧at'≤1000) (hl:m.hands.length≤8) (ho:∀x∈m.hands,(0≤x.til∧x.til≤1000)∧0≤x.cls∧x.cls<f.classes.length) :
  Calls Tryz.prog 119 #[.pointer (some ⟨g.q,0,none⟩),insV 13 a b c n (.slice A0 n0 k0)] w fun e w'=>DQ f m X wx w1 g b0 at' st wt cur (fun st'=>Leads f.classes st' a s∧Leads f.classes st' (at'+1) s) e w':=by
 have HB:Hid (Bl w (w.alloc (insO 13 a b c n (.slice A0 n0 k0)))):=(Bl.refl w).alloc _
 have K:=hid (fthrow_any C (H.wide HB.out) G hc hl ho)
 have HC:=hid C
 have HH:=hid H
 have HW:=hid hc
 have HA:=hid ha
 have HT:=hid (may_tree C.may).1
 have ZB:=hid (mblk (w:=w) (cs:=#[.int .i64 13,.int .i64 a,.int .i64 b,.int .i64 c,.int .i64 n,.slice A0 n0 k0]) (t:=55) rfl)
 have HK:=hid hk
 have WS:Hid (Wn f m s):=⟨(hc.wq.takeK hk).1,(hc.nr.takeK hk).1⟩
 clear hk
 clear C H G hc ha hl ho
 go_enter Tryz.func119,Tryz.ntmps119
 go_wp2_with (first
  | (go_at_call 172;refine K.out.mono ?_;rintro e w2 (⟨rfl,q⟩|⟨st1,wt1,rfl,f1,q1⟩);exact ⟨rfl,Or.inl ⟨rfl,FE.back HH.out HB.out q⟩⟩;have Z1:=hid (f1.box (Nat.le_refl _) (by simp) ZB.out);have z0:w2.cell? ⟨w.heap.size,0,none⟩=some (.int .i64 13):=((cell_blk Z1.out).trans rfl);have hz0:=cell_lt z0;have F1:=hid f1;have Q1:=hid q1;clear f1 q1 K)
  | (go_at_call 173;refine (ftakeK_y HC.out HW.out.wq F1.out HK.out).mono ?_;rintro e w3 ⟨rfl,f3⟩;have Z3:=hid (f3.box (Nat.le_refl _) (by simp) ZB.out);have F3:=hid f3;clear f3))
 have q0:=HC.out.q0 F3.out
 have hq0:=cell_lt q0
 have z1:w3.cell? ⟨w.heap.size,1,none⟩=some (.int .i64 a):=(cell_blk Z3.out).trans rfl
 have hzl:=cell_lt z1
 refine wp_region_held_drew (S:=fun w'=>w'.cell? ⟨g.q,0,none⟩=some (.pointer (some ⟨g.p,0,none⟩))∧w'.cell? ⟨w.heap.size,1,none⟩=some (.int .i64 a)) (by kernel_rfl) ?_ (fun hHeld0=>?_)
 ·exact ⟨q0,z1⟩
 clear q0 z1
 iterate 6 (refine tn rfl (by kernel_rfl) (fun _ _ _ h=>h) (by intro _ h;go_split_ands;go_simp<;>with_reducible rfl) hHeld0 ?_;try simp only [aZ])
 refine rd1 (i:=6) (by kernel_rfl) rfl fun K hK=>?_
 go_simp
 go_at_call 174
 refine (fbranch_any HC.out a (F3.out.bl (Bl.refl w3).drew) Q1.out.1 WS.out HA.out).mono ?_
 rintro e w5 (⟨rfl,q⟩|⟨st2,wt2,rfl,f5,q5⟩)
 ·exact ⟨rfl,Or.inl ⟨rfl,FE.back HH.out HB.out q⟩⟩
 have Z5:=hid (f5.box (Nat.le_refl _) (by simp) ZB.out)
 have F5:=hid f5
 have Q5:=hid q5
 have q6:=HC.out.q0 f5
 clear f5 q5
 refine hK.out _ _ ⟨q6,(cell_blk Z5.out).trans rfl⟩ (fun hHeld1=>?_)
 clear hHeld0 hHeld1 hK q6
 try simp only [aZ]
 refine wpAnyH_done (by kernel_rfl) ?_ _
 go_wp2
 go_end0
 exact Or.inr ⟨_,st2,wt2,rfl,HH.out.back HB.out F5.out,Q5.out.1,Q1.out.2.1.trans HT.out Q5.out.2.1,fun x hx=>⟨(Q1.out.2.2 x hx).1,Q5.out.2.1.leads HT.out (Q1.out.2.2 x hx).2⟩,Q5.out.2.2⟩
theorem fdo20n (C:Cx w0 w1 g f m) (hc:Wn f m cur) (hk:(if m.ret.kind=0 then some cur else takeY f.classes m.ret cur)=none) (a b c n:Int) (A0:Option Addr) (n0 k0:Nat) (H:FX X wx w1 g b0 w cur at' st wt) (G:Gs f m st wt) (ha:0≤at'∧at'≤1000) (hl:m.hands.length≤8) (ho:∀x∈m.hands,(0≤x.til∧x.til≤1000)∧0≤x.cls∧x.cls<f.classes.length) :
  Calls Tryz.prog 119 #[.pointer (some ⟨g.q,0,none⟩),insV 20 a b c n (.slice A0 n0 k0)] w fun e w'=>DQ f m X wx w1 g b0 at' st wt cur (fun st'=>False) e w':=by
 have HB:Hid (Bl w (w.alloc (insO 20 a b c n (.slice A0 n0 k0)))):=(Bl.refl w).alloc _
 have K:=hid (fthrow_any C (H.wide HB.out) G hc hl ho)
 have HC:=hid C
 have HH:=hid H
 have HW:=hid hc
 have HA:=hid ha
 have HT:=hid (may_tree C.may).1
 have ZB:=hid (mblk (w:=w) (cs:=#[.int .i64 20,.int .i64 a,.int .i64 b,.int .i64 c,.int .i64 n,.slice A0 n0 k0]) (t:=55) rfl)
 have HK:=hid hk
 clear hk
 clear C H G hc ha hl ho
 go_enter Tryz.func119,Tryz.ntmps119
 go_wp2_with (first
  | (go_at_call 172;refine K.out.mono ?_;rintro e w2 (⟨rfl,q⟩|⟨st1,wt1,rfl,f1,q1⟩);exact ⟨rfl,Or.inl ⟨rfl,FE.back HH.out HB.out q⟩⟩;have Z1:=hid (f1.box (Nat.le_refl _) (by simp) ZB.out);have z0:w2.cell? ⟨w.heap.size,0,none⟩=some (.int .i64 20):=((cell_blk Z1.out).trans rfl);have hz0:=cell_lt z0;have F1:=hid f1;have Q1:=hid q1;clear f1 q1 K)
  | (go_at_call 175;have G0:=fgive_any HC.out HW.out.wq F1.out;rw [HK.out] at G0;refine G0.mono ?_;rintro e w3 ⟨rfl,q⟩;exact ⟨rfl,Or.inl ⟨rfl,FE.back HH.out HB.out q⟩⟩))
theorem fdo20y (C:Cx w0 w1 g f m) (hc:Wn f m cur) (hk:(if m.ret.kind=0 then some cur else takeY f.classes m.ret cur)=some s) (a b c n:Int) (A0:Option Addr) (n0 k0:Nat) (H:FX X wx w1 g b0 w cur at' st wt) (G:Gs f m st wt) (ha:0≤at'∧at'≤1000) (hl:m.hands.length≤8) (ho:∀x∈m.hands,(0≤x.til∧x.til≤1000)∧0≤x.cls∧x.cls<f.classes.length) :
  Calls Tryz.prog 119 #[.pointer (some ⟨g.q,0,none⟩),insV 20 a b c n (.slice A0 n0 k0)] w fun e w'=>DQ f m X wx w1 g b0 at' st wt cur (fun st'=>True) e w':=by
 have HB:Hid (Bl w (w.alloc (insO 20 a b c n (.slice A0 n0 k0)))):=(Bl.refl w).alloc _
 have K:=hid (fthrow_any C (H.wide HB.out) G hc hl ho)
 have HC:=hid C
 have HH:=hid H
 have HW:=hid hc
 have HA:=hid ha
 have HT:=hid (may_tree C.may).1
 have ZB:=hid (mblk (w:=w) (cs:=#[.int .i64 20,.int .i64 a,.int .i64 b,.int .i64 c,.int .i64 n,.slice A0 n0 k0]) (t:=55) rfl)
 have HK:=hid hk
 clear hk
 clear C H G hc ha hl ho
 go_enter Tryz.func119,Tryz.ntmps119
 go_wp2_with (first
  | (go_at_call 172;refine K.out.mono ?_;rintro e w2 (⟨rfl,q⟩|⟨st1,wt1,rfl,f1,q1⟩);exact ⟨rfl,Or.inl ⟨rfl,FE.back HH.out HB.out q⟩⟩;have Z1:=hid (f1.box (Nat.le_refl _) (by simp) ZB.out);have z0:w2.cell? ⟨w.heap.size,0,none⟩=some (.int .i64 20):=((cell_blk Z1.out).trans rfl);have hz0:=cell_lt z0;have F1:=hid f1;have Q1:=hid q1;clear f1 q1 K)
  | (go_at_call 175;have G0:=fgive_any HC.out HW.out.wq F1.out;rw [HK.out] at G0;refine G0.mono ?_;rintro e w3 ⟨rfl,f3⟩;have F3:=hid f3;clear f3 G0))
 go_end0
 exact Or.inr ⟨_,st1,wt1,rfl,HH.out.back HB.out F3.out,Q1.out.1,Q1.out.2.1,Q1.out.2.2,trivial⟩
theorem fdo21n (C:Cx w0 w1 g f m) (hc:Wn f m cur) (hk:takeK 3 cur=none) (a b c n:Int) (A0:Option Addr) (n0 k0:Nat) (H:FX X wx w1 g b0 w cur at' st wt) (G:Gs f m st wt) (ha:0≤at'∧at'≤1000) (hl:m.hands.length≤8) (ho:∀x∈m.hands,(0≤x.til∧x.til≤1000)∧0≤x.cls∧x.cls<f.classes.length) :
  Calls Tryz.prog 119 #[.pointer (some ⟨g.q,0,none⟩),insV 21 a b c n (.slice A0 n0 k0)] w fun e w'=>DQ f m X wx w1 g b0 at' st wt cur (fun st'=>False) e w':=by
 have HB:Hid (Bl w (w.alloc (insO 21 a b c n (.slice A0 n0 k0)))):=(Bl.refl w).alloc _
 have K:=hid (fthrow_any C (H.wide HB.out) G hc hl ho)
 have HC:=hid C
 have HH:=hid H
 have HW:=hid hc
 have HA:=hid ha
 have HT:=hid (may_tree C.may).1
 have ZB:=hid (mblk (w:=w) (cs:=#[.int .i64 21,.int .i64 a,.int .i64 b,.int .i64 c,.int .i64 n,.slice A0 n0 k0]) (t:=55) rfl)
 have HK:=hid hk
 clear hk
 clear C H G hc ha hl ho
 go_enter Tryz.func119,Tryz.ntmps119
 go_wp2_with (first
  | (go_at_call 172;refine K.out.mono ?_;rintro e w2 (⟨rfl,q⟩|⟨st1,wt1,rfl,f1,q1⟩);exact ⟨rfl,Or.inl ⟨rfl,FE.back HH.out HB.out q⟩⟩;have Z1:=hid (f1.box (Nat.le_refl _) (by simp) ZB.out);have z0:w2.cell? ⟨w.heap.size,0,none⟩=some (.int .i64 21):=((cell_blk Z1.out).trans rfl);have hz0:=cell_lt z0;have F1:=hid f1;have Q1:=hid q1;clear f1 q1 K)
  | (go_at_call 173;refine (ftakeK_n HC.out HW.out.wq F1.out HK.out).mono ?_;rintro e w3 ⟨rfl,q⟩;exact ⟨rfl,Or.inl ⟨rfl,FE.back HH.out HB.out q⟩⟩))
theorem fdo21y (C:Cx w0 w1 g f m) (hc:Wn f m cur) (v:Ty) (hk:takeK 3 cur=some (v,s)) (a b c n:Int) (A0:Option Addr) (n0 k0:Nat) (H:FX X wx w1 g b0 w cur at' st wt) (G:Gs f m st wt) (ha:0≤at'∧at'≤1000) (hl:m.hands.length≤8) (ho:∀x∈m.hands,(0≤x.til∧x.til≤1000)∧0≤x.cls∧x.cls<f.classes.length) :
  Calls Tryz.prog 119 #[.pointer (some ⟨g.q,0,none⟩),insV 21 a b c n (.slice A0 n0 k0)] w fun e w'=>DQ f m X wx w1 g b0 at' st wt cur (fun st'=>True) e w':=by
 have HB:Hid (Bl w (w.alloc (insO 21 a b c n (.slice A0 n0 k0)))):=(Bl.refl w).alloc _
 have K:=hid (fthrow_any C (H.wide HB.out) G hc hl ho)
 have HC:=hid C
 have HH:=hid H
 have HW:=hid hc
 have HA:=hid ha
 have HT:=hid (may_tree C.may).1
 have ZB:=hid (mblk (w:=w) (cs:=#[.int .i64 21,.int .i64 a,.int .i64 b,.int .i64 c,.int .i64 n,.slice A0 n0 k0]) (t:=55) rfl)
 have HK:=hid hk
 clear hk
 clear C H G hc ha hl ho
 go_enter Tryz.func119,Tryz.ntmps119
 go_wp2_with (first
  | (go_at_call 172;refine K.out.mono ?_;rintro e w2 (⟨rfl,q⟩|⟨st1,wt1,rfl,f1,q1⟩);exact ⟨rfl,Or.inl ⟨rfl,FE.back HH.out HB.out q⟩⟩;have Z1:=hid (f1.box (Nat.le_refl _) (by simp) ZB.out);have z0:w2.cell? ⟨w.heap.size,0,none⟩=some (.int .i64 21):=((cell_blk Z1.out).trans rfl);have hz0:=cell_lt z0;have F1:=hid f1;have Q1:=hid q1;clear f1 q1 K)
  | (go_at_call 173;refine (ftakeK_y HC.out HW.out.wq F1.out HK.out).mono ?_;rintro e w3 ⟨rfl,f3⟩;have F3:=hid f3;clear f3))
 go_end0
 exact Or.inr ⟨_,st1,wt1,rfl,HH.out.back HB.out F3.out,Q1.out.1,Q1.out.2.1,Q1.out.2.2,trivial⟩
theorem fdoWn (C:Cx w0 w1 g f m) (hc:Wn f m cur) (op:Int) (a b c n:Int) (A0:Option Addr) (n0 k0:Nat) (args:List Int) (ok:InOk f.classes f.methods.length m.code.length m.locs ⟨op,a,b,c,n,args⟩) (hop:op≠11∧op≠12∧op≠13∧op≠20∧op≠21) (hb0:w1.heap.size≤b0) (hk:workT f m ⟨op,a,b,c,n,args⟩ cur=none) (H:FX X wx w1 g b0 w cur at' st wt) (G:Gs f m st wt) (ha:0≤at'∧at'≤1000) (hl:m.hands.length≤8) (ho:∀x∈m.hands,(0≤x.til∧x.til≤1000)∧0≤x.cls∧x.cls<f.classes.length) :
  Calls Tryz.prog 119 #[.pointer (some ⟨g.q,0,none⟩),insV op a b c n (.slice A0 n0 k0)] w fun e w'=>DQ f m X wx w1 g b0 at' st wt cur (fun st'=>False) e w':=by
 have HB:Hid (Bl w (w.alloc (insO op a b c n (.slice A0 n0 k0)))):=(Bl.refl w).alloc _
 have K:=hid (fthrow_any C (H.wide HB.out) G hc hl ho)
 have HC:=hid C
 have HH:=hid H
 have HW:=hid hc
 have HA:=hid ha
 have HT:=hid (may_tree C.may).1
 have ZB:=hid (mblk (w:=w) (cs:=#[.int .i64 op,.int .i64 a,.int .i64 b,.int .i64 c,.int .i64 n,.slice A0 n0 k0]) (t:=55) rfl)
 have HK:=hid hk
 have OK:=hid ok
 have OP:=hid hop
 have HB0:=hid hb0
 have t11:(op==11)=false:=by simpa using hop.1
 have t12:(op==12)=false:=by simpa using hop.2.1
 have t13:(op==13)=false:=by simpa using hop.2.2.1
 have t20:(op==20)=false:=by simpa using hop.2.2.2.1
 have t21:(op==21)=false:=by simpa using hop.2.2.2.2
 clear hk ok hop hb0
 clear C H G hc ha hl ho
 go_enter Tryz.func119,Tryz.ntmps119
 go_wp2_with (first
  | (go_at_call 172;refine K.out.mono ?_;rintro e w2 (⟨rfl,q⟩|⟨st1,wt1,rfl,f1,q1⟩);exact ⟨rfl,Or.inl ⟨rfl,FE.back HH.out HB.out q⟩⟩;have Z1:=hid (f1.box (Nat.le_refl _) (by simp) ZB.out);have z0:w2.cell? ⟨w.heap.size,0,none⟩=some (.int .i64 op):=((cell_blk Z1.out).trans rfl);have hz0:=cell_lt z0;have z1:w2.cell? ⟨w.heap.size,1,none⟩=some (.int .i64 a):=((cell_blk Z1.out).trans rfl);have z2:w2.cell? ⟨w.heap.size,2,none⟩=some (.int .i64 b):=((cell_blk Z1.out).trans rfl);have z3:w2.cell? ⟨w.heap.size,3,none⟩=some (.int .i64 c):=((cell_blk Z1.out).trans rfl);have z4:w2.cell? ⟨w.heap.size,4,none⟩=some (.int .i64 n):=((cell_blk Z1.out).trans rfl);have z5:w2.cell? ⟨w.heap.size,5,none⟩=some (.slice A0 n0 k0):=((cell_blk Z1.out).trans rfl);have F1:=hid f1;have Q1:=hid q1;clear f1 q1 K)
  | (go_at_call 176;have G0:=fwork_any HC.out HW.out.wq ⟨op,a,b,c,n,args⟩ A0 n0 k0 OK.out OP.out HB0.out F1.out;rw [HK.out] at G0;refine G0.mono ?_;rintro e w3 ⟨rfl,q⟩;exact ⟨rfl,Or.inl ⟨rfl,FE.back HH.out HB.out q⟩⟩))
theorem fdoWy (C:Cx w0 w1 g f m) (hc:Wn f m cur) (op:Int) (a b c n:Int) (A0:Option Addr) (n0 k0:Nat) (args:List Int) (ok:InOk f.classes f.methods.length m.code.length m.locs ⟨op,a,b,c,n,args⟩) (hop:op≠11∧op≠12∧op≠13∧op≠20∧op≠21) (hb0:w1.heap.size≤b0) (hk:workT f m ⟨op,a,b,c,n,args⟩ cur=some s) (hs:Wn f m s) (H:FX X wx w1 g b0 w cur at' st wt) (G:Gs f m st wt) (ha:0≤at'∧at'≤1000) (hl:m.hands.length≤8) (ho:∀x∈m.hands,(0≤x.til∧x.til≤1000)∧0≤x.cls∧x.cls<f.classes.length) :
  Calls Tryz.prog 119 #[.pointer (some ⟨g.q,0,none⟩),insV op a b c n (.slice A0 n0 k0)] w fun e w'=>DQ f m X wx w1 g b0 at' st wt cur (fun st'=>Leads f.classes st' (at'+1) s) e w':=by
 have HB:Hid (Bl w (w.alloc (insO op a b c n (.slice A0 n0 k0)))):=(Bl.refl w).alloc _
 have K:=hid (fthrow_any C (H.wide HB.out) G hc hl ho)
 have HC:=hid C
 have HH:=hid H
 have HW:=hid hc
 have HA:=hid ha
 have HT:=hid (may_tree C.may).1
 have ZB:=hid (mblk (w:=w) (cs:=#[.int .i64 op,.int .i64 a,.int .i64 b,.int .i64 c,.int .i64 n,.slice A0 n0 k0]) (t:=55) rfl)
 have HK:=hid hk
 have HS:=hid hs
 clear hs
 have OK:=hid ok
 have OP:=hid hop
 have HB0:=hid hb0
 have t11:(op==11)=false:=by simpa using hop.1
 have t12:(op==12)=false:=by simpa using hop.2.1
 have t13:(op==13)=false:=by simpa using hop.2.2.1
 have t20:(op==20)=false:=by simpa using hop.2.2.2.1
 have t21:(op==21)=false:=by simpa using hop.2.2.2.2
 clear hk ok hop hb0
 clear C H G hc ha hl ho
 go_enter Tryz.func119,Tryz.ntmps119
 go_wp2_with (first
  | (go_at_call 172;refine K.out.mono ?_;rintro e w2 (⟨rfl,q⟩|⟨st1,wt1,rfl,f1,q1⟩);exact ⟨rfl,Or.inl ⟨rfl,FE.back HH.out HB.out q⟩⟩;have Z1:=hid (f1.box (Nat.le_refl _) (by simp) ZB.out);have z0:w2.cell? ⟨w.heap.size,0,none⟩=some (.int .i64 op):=((cell_blk Z1.out).trans rfl);have hz0:=cell_lt z0;have z1:w2.cell? ⟨w.heap.size,1,none⟩=some (.int .i64 a):=((cell_blk Z1.out).trans rfl);have z2:w2.cell? ⟨w.heap.size,2,none⟩=some (.int .i64 b):=((cell_blk Z1.out).trans rfl);have z3:w2.cell? ⟨w.heap.size,3,none⟩=some (.int .i64 c):=((cell_blk Z1.out).trans rfl);have z4:w2.cell? ⟨w.heap.size,4,none⟩=some (.int .i64 n):=((cell_blk Z1.out).trans rfl);have z5:w2.cell? ⟨w.heap.size,5,none⟩=some (.slice A0 n0 k0):=((cell_blk Z1.out).trans rfl);have F1:=hid f1;have Q1:=hid q1;clear f1 q1 K)
  | (go_at_call 176;have G0:=fwork_any HC.out HW.out.wq ⟨op,a,b,c,n,args⟩ A0 n0 k0 OK.out OP.out HB0.out F1.out;rw [HK.out] at G0;refine G0.mono ?_;rintro e w3 ⟨rfl,f3⟩;have q3:=HC.out.q0 f3;have hq3:=cell_lt q3;have F3:=hid f3;clear f3 G0)
  | (go_at_call 177;refine (fnext_any HC.out F3.out Q1.out.1 HS.out HA.out).mono ?_;rintro e w5 (⟨rfl,q⟩|⟨st2,wt2,rfl,f5,q5⟩);exact ⟨rfl,Or.inl ⟨rfl,FE.back HH.out HB.out q⟩⟩;have F5:=hid f5;have Q5:=hid q5;clear f5 q5))
 go_end0
 exact Or.inr ⟨_,st2,wt2,rfl,HH.out.back HB.out F5.out,Q5.out.1,Q1.out.2.1.trans HT.out Q5.out.2.1,fun x hx=>⟨(Q1.out.2.2 x hx).1,Q5.out.2.1.leads HT.out (Q1.out.2.2 x hx).2⟩,Q5.out.2.2⟩
end
end
section
section
variable {X:Nat→Prop} {wx w0 w1:World} {g:Gf} {b0:Nat} {w:World} {cur s:As} {at':Int} {st:List (Option As)} {wt:List Int} {f:Fi} {m:Me}
theorem DQ.imp {P Q:List (Option As)→Prop} {e:Ending} {w':World} (h:DQ f m X wx w1 g b0 at' st wt cur P e w') (hpq:∀st',P st'→Q st'):DQ f m X wx w1 g b0 at' st wt cur Q e w':=by
 rcases h with h|⟨cur',st',wt',h1,h2,h3,h4,h5,h6⟩
 ·exact Or.inl h
 ·exact Or.inr ⟨cur',st',wt',h1,h2,h3,h4,h5,hpq _ h6⟩
def DN (f:Fi) (m:Me) (X:Nat→Prop) (wx w1:World) (g:Gf) (b0:Nat) (k:Nat) (st:List (Option As)) (wt:List Int) (cur:As) (e:Ending) (w':World):Prop :=
 (e=upE∧FE X wx w1 g w')∨∃cur' st' wt',e=.returned (.tuple #[])∧FX X wx w1 g b0 w' cur' (k:Nat) st' wt'∧Gs f m st' wt'∧Led f.classes st wt st' wt'∧StepAt f m st' k cur
theorem fdo_out (C:Cx w0 w1 g f m) (hc:Wn f m cur) (k:Nat) (hk:k<m.code.length) (A0:Option Addr) (n0 k0:Nat) (hb0:w1.heap.size≤b0) (H:FX X wx w1 g b0 w cur (k:Nat) st wt) (G:Gs f m st wt) (hl:m.hands.length≤8) :
  Calls Tryz.prog 119 #[.pointer (some ⟨g.q,0,none⟩),insV (nth in0 m.code k).op (nth in0 m.code k).a (nth in0 m.code k).b (nth in0 m.code k).c (nth in0 m.code k).n (.slice A0 n0 k0)] w fun e w'=>DQ f m X wx w1 g b0 (k:Nat) st wt cur (fun st'=>OutOk f m st' k cur (nth in0 m.code k)) e w':=by
 obtain ⟨-,s30,-,-,-,-,c400,hco,-,hhd,-⟩:=smeP C.me
 have ha:0≤(k:Int)∧(k:Int)≤1000:=by omega
 have ok:InOk f.classes f.methods.length m.code.length m.locs (nth in0 m.code k):=sin_ok (hco _ (nth_mem hk))
 have ho:∀x∈m.hands,(0≤x.til∧x.til≤1000)∧0≤x.cls∧x.cls<f.classes.length:=fun x hx=>by
  have:=of_decide_eq_true (hhd x hx)
  omega
 clear hco hhd hk
 generalize nth in0 m.code k=i at *
 obtain ⟨op,a,b,c,n,args⟩:=i
 have e1:(((k+1:Nat):Nat):Int)=(k:Int)+1:=by omega
 dsimp only
 unfold OutOk
 dsimp only
 rw [e1]
 by_cases h11:op=11
 ·subst h11
  exact (fdo11 C hc a b c n A0 n0 k0 H G ha hl ho).mono fun e w' h=>h.imp fun st' q=>by rw [if_pos rfl];exact q
 by_cases h12:op=12
 ·subst h12
  cases hk:takeK 1 cur with
  | none=>exact (fdo12n C hc hk a b c n A0 n0 k0 H G ha hl ho).mono fun e w' h=>h.imp fun st' q=>absurd q id
  | some p =>
   obtain ⟨v,s⟩:=p
   exact (fdo12y C hc v hk a b c n A0 n0 k0 H G ha hl ho).mono fun e w' h=>h.imp fun st' q=>by rw [if_neg (by decide),if_pos rfl];exact ⟨(v,s),rfl,q⟩
 by_cases h13:op=13
 ·subst h13
  cases hk:takeK 3 cur with
  | none=>exact (fdo13n C hc hk a b c n A0 n0 k0 H G ha hl ho).mono fun e w' h=>h.imp fun st' q=>absurd q id
  | some p =>
   obtain ⟨v,s⟩:=p
   exact (fdo13y C hc v hk a b c n A0 n0 k0 H G ha hl ho).mono fun e w' h=>h.imp fun st' q=>by rw [if_neg (by decide),if_neg (by decide),if_pos rfl];exact ⟨(v,s),rfl,q⟩
 by_cases h20:op=20
 ·subst h20
  cases hk:(if m.ret.kind=0 then some cur else takeY f.classes m.ret cur) with
  | none=>exact (fdo20n C hc hk a b c n A0 n0 k0 H G ha hl ho).mono fun e w' h=>h.imp fun st' q=>absurd q id
  | some p =>
   refine (fdo20y C hc hk a b c n A0 n0 k0 H G ha hl ho).mono fun e w' h=>h.imp fun st' q=>?_
   rw [if_neg (by decide),if_neg (by decide),if_neg (by decide),if_pos rfl]
   intro hr
   rw [if_neg hr] at hk
   exact ⟨p,hk⟩
 by_cases h21:op=21
 ·subst h21
  cases hk:takeK 3 cur with
  | none=>exact (fdo21n C hc hk a b c n A0 n0 k0 H G ha hl ho).mono fun e w' h=>h.imp fun st' q=>absurd q id
  | some p =>
   obtain ⟨v,s⟩:=p
   exact (fdo21y C hc v hk a b c n A0 n0 k0 H G ha hl ho).mono fun e w' h=>h.imp fun st' q=>by rw [if_neg (by decide),if_neg (by decide),if_neg (by decide),if_neg (by decide),if_pos rfl];exact ⟨(v,s),rfl⟩
 simp only [if_neg h11,if_neg h12,if_neg h13,if_neg h20,if_neg h21]
 cases hk:workT f m ⟨op,a,b,c,n,args⟩ cur with
 | none=>exact (fdoWn C hc op a b c n A0 n0 k0 args ok ⟨h11,h12,h13,h20,h21⟩ hb0 hk H G ha hl ho).mono fun e w' h=>h.imp fun st' q=>absurd q id
 | some s =>
  have hs:Wn f m s:=⟨hc.wq.work C.may C.mes s30 ok hk,hc.nr.work hc.wq.wf.len C.may C.mes ok hk⟩
  exact (fdoWy C hc op a b c n A0 n0 k0 args ok ⟨h11,h12,h13,h20,h21⟩ hb0 hk hs H G ha hl ho).mono fun e w' h=>h.imp fun st' q=>⟨s,rfl,q⟩
theorem fdo_any (C:Cx w0 w1 g f m) (hc:Wn f m cur) (k:Nat) (hk:k<m.code.length) (A0:Option Addr) (n0 k0:Nat) (hb0:w1.heap.size≤b0) (H:FX X wx w1 g b0 w cur (k:Nat) st wt) (G:Gs f m st wt) (hl:m.hands.length≤8) :
  Calls Tryz.prog 119 #[.pointer (some ⟨g.q,0,none⟩),insV (nth in0 m.code k).op (nth in0 m.code k).a (nth in0 m.code k).b (nth in0 m.code k).c (nth in0 m.code k).n (.slice A0 n0 k0)] w fun e w'=>DN f m X wx w1 g b0 k st wt cur e w':=by
 refine (fdo_out C hc k hk A0 n0 k0 hb0 H G hl).mono ?_
 rintro e w' (h|⟨cur',st',wt',h1,h2,h3,h4,h5,h6⟩)
 ·exact Or.inl h
 ·refine Or.inr ⟨cur',st',wt',h1,h2,h3,h4,⟨fun x hx q1 q2=>h5 x ?_,h6⟩⟩
  unfold overL
  rw [List.mem_filter]
  exact ⟨hx,decide_eq_true (by omega)⟩
end
end
structure Iv (f:Fi) (m:Me) (s0:As) (st:List (Option As)) (wt:List Int):Prop where
 gs:Gs f m st wt
 len:st.length=m.code.length
 all:∀k s,nth none st k=some s→(k:Int)∈wt∨StepAt f m st k s
 first:Leads f.classes st 0 s0
theorem StepAt.led {f:Fi} {m:Me} (ht:Tree f.classes) {s1 s2:List (Option As)} {w1 w2:List Int} (h:Led f.classes s1 w1 s2 w2) {k:Nat} {s:As} (q:StepAt f m s1 k s):StepAt f m s2 k s:=by
 refine ⟨fun x hx a b=>⟨(q.hands x hx a b).1,h.leads ht (q.hands x hx a b).2⟩,?_⟩
 have o:=q.out
 unfold OutOk at o ⊢
 split at o
 ·rename_i c;rw [if_pos c];exact h.leads ht o
 ·rename_i c1;rw [if_neg c1]
  split at o
  ·rename_i c;rw [if_pos c]
   obtain ⟨p,e,a,b⟩:=o
   exact ⟨p,e,h.leads ht a,h.leads ht b⟩
  ·rename_i c2;rw [if_neg c2]
   split at o
   ·rename_i c;rw [if_pos c]
    obtain ⟨p,e,a,b⟩:=o
    exact ⟨p,e,h.leads ht a,h.leads ht b⟩
   ·rename_i c3;rw [if_neg c3]
    split at o
    ·rename_i c;rw [if_pos c];exact o
    ·rename_i c4;rw [if_neg c4]
     split at o
     ·rename_i c;rw [if_pos c];exact o
     ·rename_i c5;rw [if_neg c5]
      obtain ⟨p,e,a⟩:=o
      exact ⟨p,e,h.leads ht a⟩
theorem Gs.tail {f:Fi} {m:Me} {st:List (Option As)} {x:Int} {r:List Int} (G:Gs f m st (x::r)):Gs f m st r :=
 ⟨G.wf,G.srt.of_cons,fun y hy=>G.rng y (List.mem_cons_of_mem _ hy),G.stl,G.loc,fun y hy=>G.has y (List.mem_cons_of_mem _ hy)⟩
theorem Iv.next {f:Fi} {m:Me} {s0:As} (ht:Tree f.classes) {st st':List (Option As)} {k:Nat} {r wt':List Int} {s:As} (I:Iv f m s0 st ((k:Int)::r)) (hs:nth none st k=some s) (G:Gs f m st' wt') (L:Led f.classes st r st' wt') (S:StepAt f m st' k s):Iv f m s0 st' wt'∧Mh st' wt'<Mh st ((k:Int)::r):=by
 refine ⟨⟨G,L.len.trans I.len,fun j u hu=>?_,L.leads ht I.first⟩,?_⟩
 ·rcases L.new j with e|e
  ·rw [e] at hu
   rcases I.all j u hu with q|q
   ·rcases List.mem_cons.1 q with q|q
    ·have:j=k:=by omega
     subst this
     rw [hs] at hu
     have:=Option.some.inj hu
     subst this
     exact Or.inr S
    ·exact Or.inl (L.keep _ q)
   ·exact Or.inr (q.led ht L)
  ·exact Or.inl e
 ·have:=L.ms
  unfold Mh at this ⊢
  rw [List.length_cons]
  omega
theorem nth_none_rep (n k:Nat):nth (none:Option As) (List.replicate n none) k=none:=by
 simp [nth,List.getD,List.getElem?_replicate]
 split<;>rfl
theorem Iv.start {f:Fi} {m:Me} {s0:As} {st':List (Option As)} {wt':List Int} (G:Gs f m st' wt') (L:Led f.classes (List.replicate m.code.length none) [] st' wt') (h0:Leads f.classes st' 0 s0):Iv f m s0 st' wt':=by
 refine ⟨G,by rw [L.len,List.length_replicate],fun k s hs=>?_,h0⟩
 rcases L.new k with e|e
 ·rw [e,nth_none_rep] at hs;cases hs
 ·exact Or.inl e
theorem Iv.sound {f:Fi} {m:Me} {st:List (Option As)} (I:Iv f m (firstT m m.locs) st []):SoundM f m :=
 ⟨st,I.len,fun k s hs=>⟨(I.gs.wf k s hs).wq.wf,(I.all k s hs).resolve_left (by simp)⟩,I.first⟩
theorem gs_start {f:Fi} {m:Me} (hc:m.code.length≤1000) (hl:0≤m.locs∧m.locs≤1000):Gs f m (List.replicate m.code.length none) [] :=
 ⟨fun k s hs=>by (rw [nth_none_rep] at hs;cases hs),List.Pairwise.nil,fun x hx=>(by cases hx),by simpa using hc,hl,fun x hx=>(by cases hx)⟩
section
theorem min_meas (R:World→Nat→Prop):∃μ:World→Nat,∀w n,R w n→R w (μ w)∧μ w≤n:=by
 have h:∀w,∃k,∀n,R w n→R w k∧k≤n:=fun w=>by
  by_cases hw:∃n,R w n
  ·obtain ⟨n,hn⟩:=hw
   induction n using Nat.strongRecOn with
   | ind n ih =>
    by_cases hlt:∃k,k<n∧R w k
    ·obtain ⟨k,h1,h2⟩:=hlt
     exact ih k h1 h2
    ·exact ⟨n,fun k hk=>⟨hn,Classical.byContradiction fun hc=>hlt ⟨k,by omega,hk⟩⟩⟩
  ·exact ⟨0,fun n hn=>absurd ⟨n,hn⟩ hw⟩
 exact ⟨fun w=>Classical.choose (h w),fun w=>Classical.choose_spec (h w)⟩
section
variable {X:Nat→Prop} {wx w0 w1:World} {g:Gf} {b0:Nat} {w w2:World} {cur s:As} {at':Int} {st:List (Option As)} {wt:List Int} {rv:Nat→Value} {vw:Value} {sp:Nat→Option Nat} {f:Fi} {m:Me}
theorem row_rv {base:Nat} {v:Value} {l:List Ty} (h:w.ownsRow base 233 2 v l.length (tyCs l)) (hl:l.length≤1000):RV w v l:=by
 obtain ⟨A,cap,h1,h2,h3,h4⟩:=rowCell h
 exact ⟨A,cap,h1,hl,h4.elim Or.inl (fun ⟨gb,e,_,_,r⟩=>Or.inr ⟨gb,e,⟨r⟩⟩)⟩
theorem FA.newat (H:FA X wx w1 g b0 w cur at' st wt rv vw sp) (k:Int):FX X wx w1 g b0 (w.setCell ⟨g.p,11,none⟩ (.int .i64 k)) cur k st wt:=by
 have hg:=grown_set (w:=w) g.p 11 (.int .i64 k)
 refine ⟨_,_,_,H.newcur hg.os hg.tape hg.output hg.size (fun b hb hbp _=>hg.block b hb (fun e=>hbp (Option.some.inj e))) (cur':=cur) (at2:=k) (v0:=rv 0) (v1:=rv 1) ?_ ?_ ?_ (fun b e=>Or.inl e) (fun b e=>Or.inr (Or.inl e)) (fun b e=>H.sep 0 1 b (by omega) e)⟩
 ·rw [block_set H.blk];rfl
 ·exact H.row0.kept hg (Or.inr (own_far H.row0 H.blk (by decide)))
 ·exact H.row1.kept hg (Or.inr (own_far H.row1 H.blk (by decide)))
theorem FA.newcopy (H:FA X wx w1 g b0 w cur at' st wt rv vw sp) {v0 v1:Value} (Q:CpQ s v0 v1 w w2):FX X wx w1 g w1.heap.size ((w2.setCell ⟨g.p,0,none⟩ v0).setCell ⟨g.p,1,none⟩ v1) s at' st wt:=by
 have hg:=grown2 w2 g.p 0 1 v0 v1
 have hb:=bl_blk Q.bl H.blk
 refine ⟨_,_,_,H.newcur (hg.os.trans Q.bl.os) (hg.tape.trans Q.bl.tape) (hg.output.trans Q.bl.output) (Nat.le_trans Q.bl.size hg.size) (fun b hb hbp _=>(hg.block b (Nat.lt_of_lt_of_le hb Q.bl.size) (fun e=>hbp (Option.some.inj e))).trans (Q.bl.block b hb)) (cur':=s) (at2:=at') (v0:=v0) (v1:=v1) ?_ ?_ ?_ (fun b e=>Or.inr (Or.inr (Q.r0.lt b e).1)) (fun b e=>Or.inr (Or.inr (Q.r1.lt b e).1)) Q.sep⟩
 ·rw [block_set (block_set hb _)];rfl
 ·exact own_base (Q.r0.kept hg (Or.inr (own_far Q.r0 hb (by decide)))) H.fz.size
 ·exact own_base (Q.r1.kept hg (Or.inr (own_far Q.r1 hb (by decide)))) H.fz.size
structure Bx (X:Nat→Prop) (wx:World) (g:Gf) (pw pd:Nat) (td:TypeId):Prop where
 xw:X pw
 xd:X pd
 bw:wx.heap[pw]?=some (.cells #[.pointer (some ⟨g.p,0,none⟩)] 186 (0,0))
 bd:wx.heap[pd]?=some (.cells #[.func (.func 119) #[.pointer (some ⟨g.q,0,none⟩)] #[]] td (0,0))
theorem Bx.at {pw pd:Nat} {td:TypeId} (B:Bx X wx g pw pd td) (H:FX X wx w1 g b0 w cur at' st wt):w.cell? ⟨pw,0,none⟩=some (.pointer (some ⟨g.p,0,none⟩))∧w.cell? ⟨pd,0,none⟩=some (.func (.func 119) #[.pointer (some ⟨g.q,0,none⟩)] #[]):=by
 obtain ⟨rv,vw,sp,H⟩:=H
 exact ⟨(cell_blk ((H.kept.blk _ B.xw).2.trans B.bw)).trans rfl,(cell_blk ((H.kept.blk _ B.xd).2.trans B.bd)).trans rfl⟩
def ThR (f:Fi) (m:Me) (X:Nat→Prop) (wx w1:World) (g:Gf) (s0:As) (w:World) (n:Nat):Prop:=∃b0 cur at' st wt,FX X wx w1 g b0 w cur at' st wt∧Iv f m s0 st wt∧Mh st wt=n
def ThQ (f:Fi) (m:Me) (X:Nat→Prop) (wx w1:World) (g:Gf) (s0:As) (e:Ending) (w':World):Prop :=
 (e=upE∧FE X wx w1 g w')∨∃b0 cur at' st,e=.returned (.tuple #[])∧FX X wx w1 g b0 w' cur at' st []∧Iv f m s0 st []
theorem fthr1 (C:Cx w0 w1 g f m) (hc:Wn f m cur) (pw pd:Nat) (td:TypeId) (B:Bx X wx g pw pd td) (h8:m.hands.length≤8) (hcl:m.code.length≤400) (hlo:0≤m.locs∧m.locs≤1000) (H:FX X wx w1 g b0 w cur at' (List.replicate m.code.length none) []) :
  Calls Tryz.prog 168 #[.pointer (some ⟨pw,0,none⟩),.pointer (some ⟨pd,0,none⟩)] w fun e w'=>ThQ f m X wx w1 g cur e w':=by
 obtain ⟨μ,hμ⟩:=min_meas (ThR f m X wx w1 g cur)
 have HM:=hid hμ
 have H8:=hid h8
 have HC:=hid C
 have HT:=hid (may_tree C.may).1
 have HB:=hid B
 have x0:=(B.at H).1
 have hx0:=cell_lt x0
 have K:=hid (flead_any C 0 H (gs_start (by omega) hlo) hc)
 have HCO:=hid C.code
 have HCL:=hid hcl
 clear C hc B H hμ h8 hlo hcl
 go_enter Tryz.func168,Tryz.ntmps168
 go_wp2_with (go_at_call 169;refine K.out.mono ?_;rintro e w2 (⟨rfl,q⟩|⟨st',wt',rfl,q⟩);exact ⟨rfl,Or.inl ⟨rfl,q⟩⟩;have Q:=hid q;clear q)
 clear K x0 hx0
 go_loopw [] (fun wr=>Hid (∃n,ThR f m X wx w1 g cur wr n)) (fun wr=>μ wr)
 case atStart=>exact ⟨_,b0,cur,at',st',wt',Q.out.1,Iv.start Q.out.2.1 Q.out.2.2.1 Q.out.2.2.2,rfl⟩
 case round =>
  clear Q
  obtain ⟨n,hn⟩:=hrel.out
  clear hrel
  obtain ⟨b1,c1,a1,st,wt,F,I,hMh⟩:=(HM.out wr n hn).1
  clear hn n
  have y0:=(HB.out.at F).1
  have hy0:=cell_lt y0
  have HI:=hid I
  have HMH:=hid hMh
  obtain ⟨rv,vw,sp,F⟩:=F
  cases wt with
  | nil =>
   obtain ⟨A,c,hv,-,-⟩:=own_formT F.wts
   have p13:wr.cell? ⟨g.p,13,none⟩=some (.slice A 0 c):=by rw [cell_blk F.blk,show vw=.slice A 0 c from hv];rfl
   have hp:=cell_lt p13
   have HF:=hid F
   clear F I hMh hv
   go_wp2
   go_end0
   exact Or.inr ⟨b1,c1,a1,st,rfl,⟨rv,vw,sp,HF.out⟩,HI.out⟩
  | cons x r =>
   obtain ⟨k,rfl⟩:∃k:Nat,x=k:=⟨x.toNat,by have:=(I.gs.rng x (by simp)).1;omega⟩
   have hkl:k<st.length:=by have:=(I.gs.rng (k:Int) (by simp)).2;omega
   obtain ⟨s,hs⟩:=I.gs.has (k:Int) (by simp)
   rw [Int.toNat_natCast] at hs
   have HS:=hid hs
   have hkc:k<m.code.length:=by rw [←I.len];exact hkl
   have HKL:=hid hkl
   have HKC:=hid hkc
   have hwl:((k:Int)::r).length≤1000:=I.gs.wl
   have HWL:=hid hwl
   have HSL:=hid I.gs.stl
   rcases F.wts.2 with ⟨e,h0⟩|⟨gb,cap,cu,e,-⟩
   ·cases h0
   have hw:=F.wts
   rw [e] at hw
   obtain ⟨-,-,-,-,cu2,-,-,h7⟩:=own_get hw
   have r0:wr.cell? ⟨gb,0,none⟩=some (.int .i64 k):=h7 0 _ rfl
   have hr0:=cell_lt r0
   have p13:wr.cell? ⟨g.p,13,none⟩=some (.slice (some ⟨gb,0,none⟩) ((r.length+1:Nat)) cap):=by rw [cell_blk F.blk,e];rfl
   have p11:wr.cell? ⟨g.p,11,none⟩=some (.int .i64 a1):=by rw [cell_blk F.blk];rfl
   have hp:=cell_lt p13
   have pf:=free_blk F.blk
   have HF:=hid F
   have hlt:(0:Int)<((r.length+1:Nat):Int):=by omega
   have hrl:r.length≤1000:=by simp at hwl;omega
   have N:=hid ((F.newat k).bl (Bl.refl _).drew)
   clear F I hMh hw h7 e hs hkl hkc hwl
   go_wp2
   go_region
   go_wp2
   clear y0 hy0 r0 hr0 p13 p11 hp pf hlt HF
   generalize (wr.setCell ⟨g.p,11,none⟩ (.int .i64 k)).drew=V at *
   obtain ⟨rv2,vw2,sp2,F2⟩:=id N.out
   obtain ⟨A2,q2,hv2,-,-⟩:=own_formT F2.wts
   subst hv2
   have y2:=(HB.out.at N.out).1
   have p13:V.drew.cell? ⟨g.p,13,none⟩=some (.slice A2 ((k:Int)::r).length q2):=by show V.cell? _=_;rw [cell_blk F2.blk];rfl
   have hp:=cell_lt p13
   have HF2:=hid (F2.bl (Bl.refl V).drew)
   clear F2
   refine wp_region_held_drew (S:=fun w'=>w'.cell? ⟨pw,0,none⟩=some (.pointer (some ⟨g.p,0,none⟩))) (by kernel_rfl) ?_ (fun hHeld0=>?_)
   ·exact y2
   clear y2
   iterate 4 (refine tn rfl (by kernel_rfl) (fun _ _ _ h=>h) (by intro _ h;go_split_ands;go_simp<;>with_reducible rfl) hHeld0 ?_;try simp only [aZ])
   refine rd1 (i:=4) (by kernel_rfl) rfl fun K hK=>?_
   go_simp
   refine hK.out _ _ hHeld0 (fun hHeld1=>?_)
   try simp only [aZ]
   clear hK hHeld1
   refine rd1 (i:=5) (by kernel_rfl) rfl fun K hK=>?_
   go_simp
   go_at_call 170
   refine (fdelete _ (k:Int) r V.drew w1.heap.size HF2.out.wts HWL.out).mono ?_
   rintro e w3 ⟨v3,rfl,I3⟩
   obtain ⟨A3,q3,hv3,-,-⟩:=own_formT I3.own
   subst hv3
   have bp3:=(I3.gr.block _ (lt_some HF2.out.blk) (fun e=>own_far HF2.out.wts HF2.out.blk (by decide) e.symm)).trans HF2.out.blk
   have bw3:=(I3.gr.block _ (Nat.lt_of_lt_of_le (HF2.out.kept.blk _ HB.out.xw).1 HF2.out.kept.size) (fun e=>(HF2.out.far _ HB.out.xw).w e.symm)).trans ((HF2.out.kept.blk _ HB.out.xw).2.trans HB.out.bw)
   have npw:pw≠g.p:=(HF2.out.far _ HB.out.xw).p
   have F4:=hid (HF2.out.newwt I3)
   have z13:w3.cell? ⟨g.p,13,none⟩=some (.slice A2 ((k:Int)::r).length q2):=by rw [cell_blk bp3];rfl
   have hz:=cell_lt z13
   have fz:=free_blk bp3
   clear I3 p13 hp
   refine hK.out _ _ ((cell_blk bw3).trans rfl) (fun hHeld1=>?_)
   try simp only [aZ]
   clear hK
   iterate 2 (refine tn rfl (by kernel_rfl) (fun _ _ _ h=>h) (by intro _ h;go_split_ands;go_simp<;>with_reducible rfl) hHeld1 ?_;try simp only [aZ])
   refine rd1 (i:=8) (by kernel_rfl) rfl fun K hK=>?_
   go_simp
   refine hK.out _ _ (by rw [World.cell?_of_block (block_far npw _)];exact (cell_blk bw3).trans rfl) (fun hHeld2=>?_)
   try simp only [aZ]
   clear hK hHeld0 hHeld1 hHeld2 bp3 bw3 z13 hz fz
   refine wpAnyH_done (by kernel_rfl) ?_ _
   go_wp2
   generalize w3.setCell ⟨g.p,13,none⟩ (.slice A3 r.length q3)=V4 at *
   clear HF2 N
   have G4:=hid (HI.out.gs.tail)
   obtain ⟨b,hb⟩:∃b,sp2 k=some b:=by
    cases hsp:sp2 k with
    | none=>have:=F4.out.stn k hsp;rw [HS.out] at this;cases this
    | some b=>exact ⟨b,rfl⟩
   have y4:=(HB.out.at ⟨_,_,_,F4.out⟩).1
   have hkl:=HKL.out
   have hk0:¬(k:Int)<0:=by omega
   have hk1:(k:Int)<(st.length:Int):=by omega
   have s4:V4.cell? ⟨g.sb,k,none⟩=some (.pointer (some ⟨b,0,none⟩)):=by rw [F4.out.sbc hkl,hb];rfl
   have p12:=F4.out.p12
   have p11:V4.cell? ⟨g.p,11,none⟩=some (.int .i64 k):=by rw [cell_blk F4.out.blk];rfl
   have hp:=cell_lt p12
   have nsb:=F4.out.psb
   refine wp_region_held_drew (S:=fun w'=>w'.cell? ⟨pw,0,none⟩=some (.pointer (some ⟨g.p,0,none⟩))∧w'.cell? ⟨g.p,11,none⟩=some (.int .i64 k)∧w'.cell? ⟨g.p,12,none⟩=some (.slice (some ⟨g.sb,0,none⟩) st.length g.sc)∧w'.cell? ⟨g.sb,k,none⟩=some (.pointer (some ⟨b,0,none⟩))) (by kernel_rfl) ?_ (fun hHeld0=>?_)
   ·exact ⟨y4,p11,p12,s4⟩
   clear y4 p11 p12 s4
   iterate 11 (refine tn rfl (by kernel_rfl) (fun _ _ _ h=>h) (by intro _ h;go_split_ands;go_simp<;>with_reducible rfl) hHeld0 ?_;try simp only [aZ])
   refine rd1 (i:=11) (by kernel_rfl) rfl fun K hK=>?_
   go_simp
   go_at_call 171
   have F5:=hid (F4.out.bl (Bl.refl V4).drew)
   have hst:=F5.out.sts k b hb
   have hwn:=HI.out.gs.wf k s HS.out
   have RV0:RV V4.drew (rv2 (2+2*k)) s.slots:=row_rv (by have:=F5.out.rows (2+2*k) (by omega);rw [rtF_slots HS.out] at this;exact this) (by have:=hwn.wq.wf.len;have:=HI.out.gs.loc;omega)
   have RV1:RV V4.drew (rv2 (3+2*k)) s.stk:=row_rv (by have:=F5.out.rows (3+2*k) (by omega);rw [rtF_stk HS.out] at this;exact this) (by have:=hwn.wq.len;omega)
   refine (fcopied_any b s _ _ V4.drew hst.2.2.2 RV0 RV1).mono ?_
   rintro e w5 ⟨v0,v1,rfl,Q⟩
   obtain ⟨a0,q0,hv0,-,-⟩:=own_formT Q.r0
   subst hv0
   obtain ⟨a1',q1,hv1,-,-⟩:=own_formT Q.r1
   subst hv1
   have F6:=hid (F5.out.newcopy Q)
   have K5:=F5.out.bl Q.bl
   have bw5:=(K5.kept.blk _ HB.out.xw).2.trans HB.out.bw
   have p5:=K5.blk
   have s5:w5.cell? ⟨g.sb,k,none⟩=some (.pointer (some ⟨b,0,none⟩)):=by rw [K5.sbc hkl,hb];rfl
   have z0:=K5.p0
   have z1:w5.cell? ⟨g.p,1,none⟩=some (rv2 1):=by rw [cell_blk p5];rfl
   have hz:=lt_some p5
   have fz:=free_blk p5
   clear RV0 RV1 hst hwn Q
   refine hK.out _ _ ⟨(cell_blk bw5).trans rfl,by rw [cell_blk p5];rfl,K5.p12,s5⟩ (fun hHeld1=>?_)
   try simp only [aZ]
   clear hK
   iterate 2 (refine tn rfl (by kernel_rfl) (fun _ _ _ h=>h) (by intro _ h;go_split_ands;go_simp<;>with_reducible rfl) hHeld1 ?_;try simp only [aZ])
   refine rd1 (i:=14) (by kernel_rfl) rfl fun K hK=>?_
   go_simp
   refine hK.out _ _ ⟨by rw [World.cell?_of_block (block_far npw _),World.cell?_of_block (block_far npw _)];exact (cell_blk bw5).trans rfl,F6.out.pc.2.2.2.2.2.2.1,F6.out.pc.2.2.2.2.2.2.2.1,by rw [World.cell?_of_block (block_far (Ne.symm nsb) _),World.cell?_of_block (block_far (Ne.symm nsb) _)];exact s5⟩ (fun hHeld2=>?_)
   try simp only [aZ]
   clear hK hHeld0 hHeld1 hHeld2 bw5 p5 s5 z0 z1 hz fz K5 F5 F4 hk1
   refine wpAnyH_done (by kernel_rfl) ?_ _
   go_wp2
   generalize (w5.setCell ⟨g.p,0,none⟩ (.slice a0 s.slots.length q0)).setCell ⟨g.p,1,none⟩ (.slice a1' s.stk.length q1)=V6 at *
   obtain ⟨cA,cc,e9,hI9⟩:=HCO.out
   have hkc:=HKC.out
   rcases hI9.2 with h0|⟨cb,co,eA,hcell⟩
   ·omega
   subst eA
   obtain ⟨d0,d1,d2,d3,d4,-,A9,c9,d5,-⟩:=hcell k hkc
   have SS:Hid (∀b0 cur at' st wt w',FX X wx w1 g b0 w' cur at' st wt→w'.cell? ⟨pd,0,none⟩=some (.func (.func 119) #[.pointer (some ⟨g.q,0,none⟩)] #[])∧w'.cell? ⟨pw,0,none⟩=some (.pointer (some ⟨g.p,0,none⟩))∧w'.cell? ⟨g.p,9,none⟩=some (.slice (some ⟨cb,co,none⟩) m.code.length cc)∧w'.cell? ⟨g.p,11,none⟩=some (.int .i64 at')∧w'.cell? ⟨cb,co+k*6,none⟩=some (.int .i64 (nth in0 m.code k).op)∧w'.cell? ⟨cb,co+k*6+1,none⟩=some (.int .i64 (nth in0 m.code k).a)∧w'.cell? ⟨cb,co+k*6+2,none⟩=some (.int .i64 (nth in0 m.code k).b)∧w'.cell? ⟨cb,co+k*6+3,none⟩=some (.int .i64 (nth in0 m.code k).c)∧w'.cell? ⟨cb,co+k*6+4,none⟩=some (.int .i64 (nth in0 m.code k).n)∧w'.cell? ⟨cb,co+k*6+5,none⟩=some (.slice A9 (nth in0 m.code k).args.length c9)):=fun b0 cur at' st wt w' h=>by
    have bl:=HC.out.bl0 h
    exact ⟨(HB.out.at h).2,(HB.out.at h).1,by rw [←e9];exact h.pc.2.2.2.2.1,h.pc.2.2.2.2.2.2.1,bl.cell d0,bl.cell d1,bl.cell d2,bl.cell d3,bl.cell d4,bl.cell d5⟩
   have hk2:(k:Int)<(m.code.length:Int):=by omega
   have hlk:∀b0 cur at' st wt w',FX X wx w1 g b0 w' cur at' st wt→pd<w'.heap.size∧pw<w'.heap.size∧g.p<w'.heap.size∧cb<w'.heap.size:=fun b0 cur at' st wt w' h=>⟨cell_lt (HB.out.at h).2,cell_lt (HB.out.at h).1,cell_lt h.pc.1,cell_lt ((HC.out.bl0 h).cell d0)⟩
   replace hlk:=hid hlk
   obtain ⟨l1,l2,l3,l4⟩:=hlk.out _ _ _ _ _ _ F6.out
   clear d0 d1 d2 d3 d4 d5 hcell hI9 e9
   refine wp_region_held_drew (S:=fun w'=>w'.cell? ⟨pd,0,none⟩=some (.func (.func 119) #[.pointer (some ⟨g.q,0,none⟩)] #[])∧w'.cell? ⟨pw,0,none⟩=some (.pointer (some ⟨g.p,0,none⟩))∧w'.cell? ⟨g.p,9,none⟩=some (.slice (some ⟨cb,co,none⟩) m.code.length cc)∧w'.cell? ⟨g.p,11,none⟩=some (.int .i64 k)∧w'.cell? ⟨cb,co+k*6,none⟩=some (.int .i64 (nth in0 m.code k).op)∧w'.cell? ⟨cb,co+k*6+1,none⟩=some (.int .i64 (nth in0 m.code k).a)∧w'.cell? ⟨cb,co+k*6+2,none⟩=some (.int .i64 (nth in0 m.code k).b)∧w'.cell? ⟨cb,co+k*6+3,none⟩=some (.int .i64 (nth in0 m.code k).c)∧w'.cell? ⟨cb,co+k*6+4,none⟩=some (.int .i64 (nth in0 m.code k).n)∧w'.cell? ⟨cb,co+k*6+5,none⟩=some (.slice A9 (nth in0 m.code k).args.length c9)) (by kernel_rfl) ?_ (fun hHeld0=>?_)
   ·exact SS.out _ _ _ _ _ _ (F6.out.bl (Bl.refl _).drew)
   iterate 12 (refine tn rfl (by kernel_rfl) (fun _ _ _ h=>h) (by intro _ h;go_split_ands;go_simp<;>with_reducible rfl) hHeld0 ?_;try simp only [aZ])
   refine rd1 (i:=12) (by kernel_rfl) rfl fun K hK=>?_
   go_simp
   go_at_call 119
   refine (fdo_any HC.out (HI.out.gs.wf k s HS.out) k hkc A9 _ c9 (Nat.le_refl _) (F6.out.bl (Bl.refl V6).drew) G4.out H8.out).mono ?_
   rintro e w7 (⟨rfl,q⟩|⟨cur',st',wt',rfl,f7,g7,l7,s7⟩)
   ·exact ⟨rfl,Or.inl ⟨rfl,q⟩⟩
   have NX:=hid (HI.out.next HT.out HS.out g7 l7 s7)
   have F7:=hid f7
   refine hK.out _ _ (SS.out _ _ _ _ _ _ f7) (fun hHeld1=>?_)
   try simp only [aZ]
   clear hK hHeld0 hHeld1 f7 g7 l7 s7 l1 l2 l3 l4
   refine wpAnyH_done (by kernel_rfl) ?_ _
   go_wp2
   go_roundw
   case rel=>exact ⟨_,_,cur',_,st',wt',F7.out,NX.out.1,rfl⟩
   case measure =>
    have h1:=(HM.out w7 _ ⟨_,cur',_,st',wt',F7.out,NX.out.1,rfl⟩).2
    have h2:=NX.out.2
    have h3:=HMH.out
    omega
end
end
end Go.Proofs.YtgiiapenmjollaaGreat
