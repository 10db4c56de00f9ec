import Derived.Test.YtgiiapenmjollabGreatRsbi
import Derived.Test.YtgiiapenmjollabGreatRsbj
import Derived.OwnWalk
namespace Go.Proofs.YtgiiapenmjollabGreat
set_option linter.all false
set_option maxHeartbeats 40000000
set_option maxRecDepth 100000
open Go.RowKit
section
structure Gd (n sl:Nat) (st:List (Option As)) (wt:List Int):Prop where
 len:∀k s,nth none st k=some s→s.slots.length=sl
 ok:∀k s,nth none st k=some s→(∀x∈s.slots,refOk n x)∧(∀x∈s.stk,refOk n x)
 srt:wt.Pairwise (·≤ ·)
 wl:wt.length≤3000
 sl:sl≤3000
 stl:st.length≤3000
def Su (w:World) (u:Value) (l:List Ty) (rv:Nat→Value):Prop:=∃A c,u=.slice A l.length c∧l.length≤3000∧(l.length=0∨∃ob,A=some ⟨ob,0,none⟩∧Rd w ob l∧∀r,2≤r→(rv r).ownBlock≠some ob)
theorem Su.bl {w w':World} {u:Value} {l:List Ty} {rv:Nat→Value} (h:Su w u l rv) (b:Bl w w'):Su w' u l rv:=by
 obtain ⟨A,c,h1,h2,h3⟩:=h
 exact ⟨A,c,h1,h2,h3.elim Or.inl (fun ⟨ob,e,r,n⟩=>Or.inr ⟨ob,e,r.bl b,n⟩)⟩
theorem Su.rv' {w:World} {u:Value} {l:List Ty} {rv:Nat→Value} (h:Su w u l rv):RV w u l:=by
 obtain ⟨A,c,h1,h2,h3⟩:=h
 exact ⟨A,c,h1,h2,h3.elim Or.inl (fun ⟨ob,e,r,n⟩=>Or.inr ⟨ob,e,r⟩)⟩
theorem Su.rvn {w:World} {u:Value} {l:List Ty} {rv:Nat→Value} (h:Su w u l rv) {a b:Nat} (ha:2≤a) (hb:2≤b):RVn w u l (rv a).ownBlock (rv b).ownBlock:=by
 obtain ⟨A,c,h1,h2,h3⟩:=h
 exact ⟨A,c,h1,h2,h3.elim Or.inl (fun ⟨ob,e,r,n⟩=>Or.inr ⟨ob,e,fun q=>n a ha q.symm,fun q=>n b hb q.symm,r⟩)⟩
theorem FA.su {X:Nat→Prop} {wx w1:World} {g:Gf} {b0:Nat} {w:World} {cur:As} {at':Int} {st:List (Option As)} {wt:List Int} {rv:Nat→Value} {vw:Value} {sp:Nat→Option Nat} {base r0:Nat} {l:List Ty} (H:FA X wx w1 g b0 w cur at' st wt rv vw sp) (hr:r0<2) (h:w.ownsRow base 243 2 (rv r0) l.length (tyCs l)) (hl:l.length≤3000):Su w (rv r0) l rv:=by
 obtain ⟨A,cap,h1,h2,h3,h4⟩:=rowCell h
 refine ⟨A,cap,h1,hl,h4.elim Or.inl (fun ⟨gb,e,_,_,r⟩=>Or.inr ⟨gb,e,⟨r⟩,fun q hq x=>?_⟩)⟩
 exact H.sep r0 q gb (by omega) (by rw [h1,e];rfl) x
def leadT (cs:List Cl) (sl stk:List Ty) (a:Nat) (st:List (Option As)) (wt:List Int):Option (List (Option As)×List Int) :=
 match nth none st a with
 | none=>some (st.set a (some ⟨sl,stk⟩),waitL wt a)
 | some s =>
  if s.stk.length=stk.length then
   if hasA (mergeL cs s.stk stk)=true then none
   else some (st.set a (some (mergeA cs s ⟨sl,stk⟩)),if lessA cs s ⟨sl,stk⟩=true then waitL wt a else wt)
  else none
def LdQ (X:Nat→Prop) (wx w1:World) (g:Gf) (b0:Nat) (cur:As) (at':Int) (r:Option (List (Option As)×List Int)) (e:Ending) (w':World):Prop :=
 match r with
 | none=>e=upE∧FE X wx w1 g w'
 | some p=>e=.returned (.tuple #[])∧FX X wx w1 g b0 w' cur at' p.1 p.2
section
variable {X:Nat→Prop} {wx w0 w1:World} {g:Gf} {b0:Nat} {w:World} {cur:As} {at':Int} {st:List (Option As)} {wt:List Int} {rv:Nat→Value} {vw:Value} {sp:Nat→Option Nat} {f:Fi} {m:Me}
theorem FA.p12 (H:FA X wx w1 g b0 w cur at' st wt rv vw sp):w.cell? ⟨g.p,12,none⟩=some (.slice (some ⟨g.sb,0,none⟩) st.length g.sc):=by rw [cell_blk H.blk];rfl
theorem FA.p0 (H:FA X wx w1 g b0 w cur at' st wt rv vw sp):w.cell? ⟨g.p,0,none⟩=some (rv 0):=by rw [cell_blk H.blk];rfl
theorem FA.p14 (H:FA X wx w1 g b0 w cur at' st wt rv vw sp):w.cell? ⟨g.p,14,none⟩=some g.c14:=by rw [cell_blk H.blk];rfl
theorem FA.sbc (H:FA X wx w1 g b0 w cur at' st wt rv vw sp) {k:Nat} (hk:k<st.length):w.cell? ⟨g.sb,k,none⟩=some (spV (sp k)):=by rw [cell_blk H.sbk];simp [hk]
theorem FA.spn (H:FA X wx w1 g b0 w cur at' st wt rv vw sp) {k:Nat} (hk:nth none st k=none):sp k=none:=by
 cases h:sp k with
 | none=>rfl
 | some b =>
  obtain ⟨s,hs⟩:=(H.sts k b h).2.1
  rw [hk] at hs;cases hs
theorem fleadW_out (a:Int) (u:Value) (H:FX X wx w1 g b0 w cur at' st wt) (ha:¬(0≤a∧a<st.length)) :
  Calls Tryz.prog 274 #[.pointer (some ⟨g.p,0,none⟩),.int .i64 a,u] w fun e w'=>e=upE∧FE X wx w1 g w':=by
 have HH:=hid H.fe
 obtain ⟨rv,vw,sp,H⟩:=H
 have p12:=H.p12
 have hp:=cell_lt p12
 have hd:decide (0≤a∧a<(st.length:Int))=false:=decide_eq_false ha
 clear H ha
 go_enter Tryz.func274,Tryz.ntmps274
 go_wp2_with (first
  | (go_at_call 144;refine (numbers_any _ _ _).mono ?_;rintro e w2 ⟨rfl,hw⟩;rw [hw];clear hw w2)
  | (go_at_call 286;refine (up_any _).mono ?_;rintro e w2 ⟨rfl,hw⟩;rw [hw];clear hw w2))
 exact ⟨rfl,rfl,HH.out⟩
theorem fleadW_new (a:Nat) (u:Value) (stk:List Ty) (H:FA X wx w1 g b0 w cur at' st wt rv vw sp) (G:Gd f.classes.length cur.slots.length st wt) (hu:Su w u stk rv) (ha:a<st.length) (hn:nth none st a=none) :
  Calls Tryz.prog 274 #[.pointer (some ⟨g.p,0,none⟩),.int .i64 (a:Int),u] w fun e w'=>e=.returned (.tuple #[])∧FX X wx w1 g b0 w' cur at' (st.set a (some ⟨cur.slots,stk⟩)) (waitL wt a):=by
 have hsp:=H.spn hn
 have p12:=H.p12
 have hp:=cell_lt p12
 have p0:=H.p0
 have sb:w.cell? ⟨g.sb,a,none⟩=some (.pointer none):=by have:=H.sbc ha;rw [hsp] at this;exact this
 have hsb:=cell_lt sb
 obtain ⟨A0,c0,e0,-,-⟩:=own_formT H.row0
 have S0:=hid (H.su (r0:=0) (by omega) H.row0 G.sl).rv'
 rw [e0] at p0 S0
 obtain ⟨A1,c1,e1,-,-⟩:=id hu
 subst e1
 have SU:=hid hu.rv'
 have hd:decide (0≤(a:Int)∧(a:Int)<(st.length:Int))=true:=decide_eq_true ⟨by omega,by omega⟩
 have HH:=hid H
 have HG:=hid G
 have HA:=hid ha
 have HS:=hid hsp
 have hk0:(0:Int)≤(a:Int):=by omega
 have hk1:(a:Int)<(st.length:Int):=by omega
 have HB:Hid (Bl w (w.alloc (.cells #[.slice A0 cur.slots.length c0,.slice A1 stk.length c1] 166))):=(Bl.refl w).alloc _
 have ZB:=hid (mblk (w:=w) (cs:=#[.slice A0 cur.slots.length c0,.slice A1 stk.length c1]) (t:=166) rfl)
 clear H G hu ha hn hsp e0
 go_enter Tryz.func274,Tryz.ntmps274
 go_wp2_with (go_at_call 144;refine (numbers_any _ _ _).mono ?_;rintro e w2 ⟨rfl,hw⟩;rw [hw];clear hw w2)
 go_quiet (fail)
 have BV:=hid (bl_drewN HB.out nq)
 have ZV:=hid (bl_blk (bl_drewN (Bl.refl _) nq) ZB.out)
 clear HB ZB p0
 generalize (w.alloc (.cells #[.slice A0 cur.slots.length c0,.slice A1 stk.length c1] 166)).drewN nq=V at *
 go_wp2_with (first
  | (go_at_call 218;refine (fcopied_any w.heap.size ⟨cur.slots,stk⟩ _ _ V ZV.out (S0.out.bl BV.out) (SU.out.bl BV.out)).mono ?_;rintro e w3 ⟨v0,v1,rfl,Q⟩;obtain ⟨a3,q3,rfl,-,-⟩:=own_formT Q.r0;obtain ⟨a4,q4,rfl,-,-⟩:=own_formT Q.r1;have B3:=hid (BV.out.trans Q.bl);have K3:=hid (HH.out.bl B3.out);have p3:=K3.out.p12;have hp3:=cell_lt p3;have s3:w3.cell? ⟨g.sb,a,none⟩=some (.pointer none):=(by have:=K3.out.sbc HA.out;rw [HS.out] at this;exact this);have hs3:=cell_lt s3;have fs3:w3.frozen? ⟨g.sb,a,none⟩=false:=frz_of K3.out.sbk _;have F3:Hid (FX X wx w1 g b0 ((w3.setCell ⟨g.sb,a,none⟩ (.pointer (some ⟨w3.heap.size,0,none⟩))).alloc (.cells #[.slice a3 cur.slots.length q3,.slice a4 stk.length q4] 166)) cur at' (st.set a (some ⟨cur.slots,stk⟩)) wt):=(by
     have:=HH.out.newst1 (s:=⟨cur.slots,stk⟩) (B3.out.alloc (.cells #[.slice a3 cur.slots.length q3,.slice a4 stk.length q4] 166)) HA.out HS.out (mblk rfl) B3.out.size (rowBl (own_base Q.r0 BV.out.size) ((Bl.refl _).alloc _)) (rowBl (own_base Q.r1 BV.out.size) ((Bl.refl _).alloc _)) Q.sep
     rw [World.setCell_alloc_past _ _ _ _ hs3] at this
     exact ⟨_,_,_,this⟩);clear Q p12 hp sb hsb)
  | (go_at_call 306;refine (fwait_any (a:Int) F3.out HG.out.srt HG.out.wl).mono ?_;rintro e w5 ⟨rfl,f5⟩))
 go_end0
 exact ⟨rfl,f5⟩
end
end
section
section
variable {X:Nat→Prop} {wx w0 w1:World} {g:Gf} {b0:Nat} {w:World} {cur:As} {at':Int} {st:List (Option As)} {wt:List Int} {rv:Nat→Value} {vw:Value} {sp:Nat→Option Nat} {f:Fi} {m:Me}
theorem FA.sps (H:FA X wx w1 g b0 w cur at' st wt rv vw sp) {k:Nat} {s:As} (hk:nth none st k=some s):∃b,sp k=some b:=by
 cases h:sp k with
 | none=>rw [H.stn k h] at hk;cases hk
 | some b=>exact ⟨b,rfl⟩
theorem FA.jnG (C:Cx w0 w1 g f m) (H:FA X wx w1 g b0 w cur at' st wt rv vw sp) {a b:Nat} (ha:2≤a) (hb:2≤b):∀w',Gr2 w w' (rv a).ownBlock (rv b).ownBlock→JnAt w' g.c14 f.classes:=by
 intro w' hg
 have hc:∀q o v,w1.cell? ⟨q,o,none⟩=some v→q≠g.p→q≠g.sb→w'.cell? ⟨q,o,none⟩=some v:=fun q o v h h1 h2=>by
  have hl:=cell_lt h
  have e:=hg.block q (Nat.lt_of_lt_of_le hl H.fz.size) (fun e=>by have:=((H.rows a ha).lt q e.symm).1;omega) (fun e=>by have:=((H.rows b hb).lt q e.symm).1;omega)
  rw [World.cell?_of_block e,World.cell?_of_block (H.fz.block q hl h1 h2)];exact h
 obtain ⟨jb,jo,jc,h1,h2,h3,h4⟩:=C.jn
 refine ⟨jb,jo,jc,h1,fun i hi=>?_⟩
 obtain ⟨rb,ro,rc,a1,a2,a3,a4⟩:=h4 i hi
 exact ⟨rb,ro,rc,hc _ _ _ a1 h2 h3,fun j hj=>hc _ _ _ (a4 j hj) a2 a3⟩
theorem FA.mp (C:Cx w0 w1 g f m) (H:FA X wx w1 g b0 w cur at' st wt rv vw sp) {a b:Nat} {s:As} {u:Value} {stk:List Ty} (hsp:sp a=some b) (hs:nth none st a=some s) (hu:Su w u stk rv) (hl:cur.slots.length≤3000) :
  MP f.classes g.c14 w1.heap.size b s ⟨cur.slots,stk⟩ (rv (2+2*a)) (rv (3+2*a)) (rv 0) u w:=by
 have r0:=H.rows (2+2*a) (by omega)
 have r1:=H.rows (3+2*a) (by omega)
 rw [rtF_slots hs] at r0
 rw [rtF_stk hs] at r1
 exact ⟨(H.sts a b hsp).2.2.2,r0,r1,fun c e=>H.sep _ _ c (by omega) e,(H.su (r0:=0) (by omega) H.row0 hl).rvn (by omega) (by omega),hu.rvn (by omega) (by omega),H.jnG C (by omega) (by omega)⟩
theorem fleadW_old (C:Cx w0 w1 g f m) (a:Nat) (u:Value) (stk:List Ty) (s:As) (H:FA X wx w1 g b0 w cur at' st wt rv vw sp) (G:Gd f.classes.length cur.slots.length st wt) (hu:Su w u stk rv) (hn:nth none st a=some s)
  (r3:∀x∈cur.slots,refOk f.classes.length x) (r4:∀x∈stk,refOk f.classes.length x) :
  Calls Tryz.prog 274 #[.pointer (some ⟨g.p,0,none⟩),.int .i64 (a:Int),u] w fun e w'=>LdQ X wx w1 g b0 cur at' (leadT f.classes cur.slots stk a st wt) e w':=by
 obtain ⟨b,hsp⟩:=H.sps hn
 have ha:=(H.sts a b hsp).1
 have p12:=H.p12
 have hp:=cell_lt p12
 have p0:=H.p0
 have sb:w.cell? ⟨g.sb,a,none⟩=some (.pointer (some ⟨b,0,none⟩)):=by have:=H.sbc ha;rw [hsp] at this;exact this
 have hsb:=cell_lt sb
 obtain ⟨A0,c0,e0,-,-⟩:=own_formT H.row0
 rw [e0] at p0
 obtain ⟨A1,c1,e1,-,-⟩:=id hu
 subst e1
 have E0:=hid e0
 have SU:=hid hu
 have hd:decide (0≤(a:Int)∧(a:Int)<(st.length:Int))=true:=decide_eq_true ⟨by omega,by omega⟩
 have HH:=hid H
 have HG:=hid G
 have HA:=hid ha
 have HS:=hid hsp
 have HN:=hid hn
 have HC:=hid C
 have RR:=hid (And.intro r3 r4)
 have hk0:(0:Int)≤(a:Int):=by omega
 have hk1:(a:Int)<(st.length:Int):=by omega
 obtain ⟨r,hr⟩:∃r,r=leadT f.classes cur.slots stk a st wt:=⟨_,rfl⟩
 rw [←hr]
 have ER:Hid (r=if s.stk.length=stk.length then if hasA (mergeL f.classes s.stk stk)=true then none else some (st.set a (some (mergeA f.classes s ⟨cur.slots,stk⟩)),if lessA f.classes s ⟨cur.slots,stk⟩=true then waitL wt a else wt) else none):=by show r=_;rw [hr];unfold leadT;rw [hn]
 have HB:Hid (Bl w (w.alloc (.cells #[.slice A0 cur.slots.length c0,.slice A1 stk.length c1] 166))):=(Bl.refl w).alloc _
 have ZB:=hid (mblk (w:=w) (cs:=#[.slice A0 cur.slots.length c0,.slice A1 stk.length c1]) (t:=166) rfl)
 clear H G hu ha hn hsp e0 C r3 r4 hr
 go_enter Tryz.func274,Tryz.ntmps274
 go_wp2_with (go_at_call 144;refine (numbers_any _ _ _).mono ?_;rintro e w2 ⟨rfl,hw⟩;rw [hw];clear hw w2)
 clear p12 p0 sb hsb hp
 have hwl:=lt_some ZB.out
 have KB:=hid (HH.out.bl HB.out)
 have hpl:=lt_some KB.out.blk
 generalize w.alloc (.cells #[.slice A0 cur.slots.length c0,.slice A1 stk.length c1] 166)=V at *
 refine wp_region_held_drew (S:=fun w'=>w'.cell? ⟨g.p,14,none⟩=some g.c14∧w'.cell? ⟨w.heap.size,0,none⟩=some (.slice A0 cur.slots.length c0)∧w'.cell? ⟨w.heap.size,1,none⟩=some (.slice A1 stk.length c1)) (by kernel_rfl) ?_ (fun hHeld0=>?_)
 ·exact ⟨KB.out.p14,c0_of ZB.out,c1_of ZB.out⟩
 iterate 9 (refine tn rfl (by kernel_rfl) (fun _ _ _ h=>h) (by intro _ h;go_split_ands;go_simp<;>with_reducible rfl) hHeld0 ?_;try simp only [aZ])
 refine rd1 (i:=9) (by kernel_rfl) rfl fun K hK=>?_
 go_simp
 go_at_call 305
 have KD:=hid (KB.out.bl (Bl.refl V).drew)
 have M:=hid (KD.out.mp HC.out HS.out HN.out (SU.out.bl (HB.out.trans (Bl.refl V).drew)) HG.out.sl)
 rw [E0.out] at M
 by_cases h1:s.stk.length=stk.length
 ·have gok:=HG.out.ok a s HN.out
  refine (fmerge_yes f.classes (may_tree HC.out.may).2.2 g.c14 w1.heap.size b s ⟨cur.slots,stk⟩ _ _ _ _ V.drew M.out h1 (HG.out.len a s HN.out) gok.1 gok.2 RR.out.1 RR.out.2).mono ?_
  intro e w3 hq
  obtain ⟨he,Q⟩:=hq
  have N3:=hid (KD.out.newst2 HS.out Q)
  have Z3:Hid (w3.heap[w.heap.size]?=some (.cells #[.slice A0 cur.slots.length c0,.slice A1 stk.length c1] 166 (0,0))):=(Q.gr.block _ (lt_some (bl_blk (Bl.refl V).drew ZB.out)) (fun e=>by have:=HH.out.lt0 _ _ e.symm;omega) (fun e=>by have:=HH.out.lt0 _ _ e.symm;omega)).trans ZB.out
  clear Q M
  cases h2:hasA (mergeL f.classes s.stk stk) with
  | true =>
   rw [show hasA (mergeL f.classes s.stk (⟨cur.slots,stk⟩:As).stk)=true from h2,if_pos rfl] at he
   subst he
   refine ⟨rfl,?_⟩
   rw [ER.out,if_pos h1,if_pos h2]
   exact ⟨rfl,FX.fe ⟨_,_,_,N3.out⟩⟩
  | false =>
   rw [show hasA (mergeL f.classes s.stk (⟨cur.slots,stk⟩:As).stk)=false from h2,if_neg (by decide)] at he
   subst he
   have E2:Hid (r=some (st.set a (some (mergeA f.classes s ⟨cur.slots,stk⟩)),if lessA f.classes s ⟨cur.slots,stk⟩=true then waitL wt a else wt)):=by show r=_;rw [ER.out,if_pos h1,if_neg (by rw [h2];decide)]
   clear h1 h2 ER gok
   generalize lessA f.classes s ⟨cur.slots,stk⟩=l at *
   refine hK.out _ _ ⟨N3.out.p14,c0_of Z3.out,c1_of Z3.out⟩ (fun hHeld1=>?_)
   try simp only [aZ]
   iterate 2 (refine tn rfl (by kernel_rfl) (fun _ _ _ h=>h) (by intro _ h;go_split_ands;go_simp<;>with_reducible rfl) hHeld1 ?_;try simp only [aZ])
   refine wpAnyH_done (by kernel_rfl) ?_ _
   clear hHeld0 hHeld1 hK
   cases l with
   | true =>
    go_wp2_with (go_at_call 306;refine (fwait_any (a:Int) (X:=X) (wx:=wx) (w1:=w1) (g:=g) (b0:=b0) (cur:=cur) (at':=at') (st:=st.set a (some (mergeA f.classes s ⟨cur.slots,stk⟩))) (wt:=wt) ⟨_,_,_,N3.out⟩ HG.out.srt HG.out.wl).mono ?_;rintro e w5 ⟨rfl,f5⟩)
    go_end0
    rw [E2.out]
    exact ⟨rfl,f5⟩
   | false =>
    go_wp2
    refine bodyPost_ret (results_none rfl _ _ _) rfl ?_
    rw [E2.out]
    exact ⟨rfl,_,_,_,N3.out⟩
 ·refine (fmerge_no f.classes g.c14 w1.heap.size b s ⟨cur.slots,stk⟩ _ _ _ _ V.drew M.out h1).mono ?_
  rintro e w3 ⟨rfl,b3⟩
  refine ⟨rfl,?_⟩
  rw [ER.out,if_neg h1]
  exact ⟨rfl,FX.fe ⟨_,_,_,KD.out.bl b3⟩⟩
end
end
theorem ins_mem {wt:List Int} {k:Nat} {a x:Int}:x∈insL wt k a↔x=a∨x∈wt:=by
 unfold insL
 rw [List.mem_append,List.mem_cons]
 have:x∈wt↔x∈wt.take k∨x∈wt.drop k:=by rw [←List.mem_append,List.take_append_drop]
 rw [this]
 constructor
 ·rintro (h|h|h)
  ·exact Or.inr (Or.inl h)
  ·exact Or.inl h
  ·exact Or.inr (Or.inr h)
 ·rintro (h|h|h)
  ·exact Or.inr (Or.inl h)
  ·exact Or.inl h
  ·exact Or.inr (Or.inr h)
theorem wait_mem {wt:List Int} {a x:Int}:x∈waitL wt a↔x=a∨x∈wt:=by
 unfold waitL
 split
 ·rename_i h
  constructor
  ·exact Or.inr
  ·rintro (rfl|h2)
   ·exact List.contains_iff_mem.1 h
   ·exact h2
 ·exact ins_mem
theorem wait_length (wt:List Int) (a:Int):(waitL wt a).length≤wt.length+1:=by
 unfold waitL
 split
 ·omega
 ·rw [insL_length a List.countP_le_length];omega
theorem ins_sorted {a:Int}:∀{wt:List Int},wt.Pairwise (·< ·)→a∉wt→(insL wt (wt.countP (·< a)) a).Pairwise (·< ·)
 | [],_,_=>by simp [insL]
 | x::r,h,hn=>by
  rw [List.pairwise_cons] at h
  by_cases hx:x<a
  ·rw [List.countP_cons_of_pos (by simpa using hx)]
   have ih:=ins_sorted h.2 (fun h2=>hn (List.mem_cons_of_mem _ h2))
   show (x::insL r (r.countP (·< a)) a).Pairwise (·< ·)
   rw [List.pairwise_cons]
   refine ⟨fun y hy=>?_,ih⟩
   rcases ins_mem.1 hy with rfl|hy
   ·exact hx
   ·exact h.1 y hy
  ·have hxa:a<x:=by
    have:x≠a:=fun e=>hn (by rw [e];exact List.mem_cons_self)
    omega
   have h0:(x::r).countP (·< a)=0:=by
    rw [List.countP_eq_zero]
    intro y hy
    rcases List.mem_cons.1 hy with rfl|hy
    ·simpa using hx
    ·have:=h.1 y hy
     simp;omega
   rw [h0]
   show (a::x::r).Pairwise (·< ·)
   rw [List.pairwise_cons,List.pairwise_cons]
   refine ⟨fun y hy=>?_,h⟩
   rcases List.mem_cons.1 hy with rfl|hy
   ·exact hxa
   ·have:=h.1 y hy;omega
theorem wait_sorted {wt:List Int} (a:Int) (h:wt.Pairwise (·< ·)):(waitL wt a).Pairwise (·< ·):=by
 unfold waitL
 split
 ·exact h
 ·rename_i hc
  exact ins_sorted h (fun hm=>hc (List.contains_iff_mem.2 hm))
theorem sorted_length:∀{l:List Int} {lo hi:Int},l.Pairwise (·< ·)→(∀x∈l,lo≤x∧x<hi)→lo≤hi→(l.length:Int)≤hi-lo
 | [],lo,hi,_,_,h=>by simp;omega
 | x::r,lo,hi,h,hr,hl=>by
  rw [List.pairwise_cons] at h
  have hx:=hr x List.mem_cons_self
  have ih:=sorted_length (lo:=x+1) (hi:=hi) h.2 (fun y hy=>⟨by have:=h.1 y hy;omega,(hr y (List.mem_cons_of_mem _ hy)).2⟩) (by omega)
  rw [List.length_cons]
  omega
theorem merge_nth (cs:List Cl) (a b:List Ty) (j:Nat) (hj:j<a.length):nth ty0 (mergeL cs a b) j=m1 cs (nth ty0 a j) (nth ty0 b j):=by
 unfold mergeL
 rw [mergeTo_nth cs a b _ j hj,if_pos hj]
theorem merge_length (cs:List Cl) (a b:List Ty):(mergeL cs a b).length=a.length:=mergeTo_length cs a b _
theorem nth_memT {l:List Ty} {j:Nat} (hj:j<l.length):nth ty0 l j∈l:=by rw [nth_get hj];exact List.getElem_mem hj
theorem mem_nth {l:List Ty} {x:Ty} (h:x∈l):∃j,j<l.length∧nth ty0 l j=x:=by
 obtain ⟨j,hj,rfl⟩:=List.getElem_of_mem h
 exact ⟨j,hj,nth_get hj⟩
theorem merge_le {cs:List Cl} (ht:Tree cs) {a b:List Ty} (hab:a.length=b.length) (ha:∀x∈a,refOk cs.length x) (hb:∀x∈b,refOk cs.length x):leL cs a (mergeL cs a b)∧leL cs b (mergeL cs a b):=by
 refine ⟨⟨(merge_length cs a b).symm,fun j hj=>?_⟩,⟨by rw [merge_length,hab],fun j hj=>?_⟩⟩
 ·rw [merge_nth cs a b j hj]
  exact (m1_le ht (ha _ (nth_memT hj)) (hb _ (nth_memT (by omega)))).1
 ·rw [merge_nth cs a b j (by omega)]
  exact (m1_le ht (ha _ (nth_memT (by omega))) (hb _ (nth_memT hj))).2
theorem merge_same {cs:List Cl} {a b:List Ty} (h:lessTo cs a b a.length=false):mergeL cs a b=a:=by
 refine ext_nth (merge_length cs a b) fun j hj=>?_
 rw [merge_length] at hj
 rw [merge_nth cs a b j hj]
 unfold lessTo at h
 rw [List.any_eq_false] at h
 have:=h j (List.mem_range.2 hj)
 rw [Bool.not_eq_true,Bool.not_eq_false'] at this
 exact eqT_eq.1 this
def htL (l:List Ty):Nat:=(l.map htT).sum
theorem htL_le:∀{a b:List Ty},a.length=b.length→(∀j,j<a.length→htT (nth ty0 a j)≤htT (nth ty0 b j))→htL a≤htL b∧((∃j,j<a.length∧htT (nth ty0 a j)<htT (nth ty0 b j))→htL a<htL b)
 | [],[],_,_=>⟨Nat.le_refl _,fun ⟨j,hj,_⟩=>absurd hj (by simp)⟩
 | x::a,y::b,hl,h=>by
  have ih:=htL_le (a:=a) (b:=b) (by simpa using hl) (fun j hj=>h (j+1) (by simpa using hj))
  have h0:=h 0 (by simp)
  have e1:htL (x::a)=htT x+htL a:=by unfold htL;simp
  have e2:htL (y::b)=htT y+htL b:=by unfold htL;simp
  have h0':htT x≤htT y:=h0
  refine ⟨by omega,fun ⟨j,hj,hlt⟩=>?_⟩
  cases j with
  | zero=>have hlt':htT x<htT y:=hlt;omega
  | succ j =>
   have:=ih.2 ⟨j,by simpa using hj,hlt⟩
   omega
 | [],y::b,hl,_=>by simp at hl
 | x::a,[],hl,_=>by simp at hl
theorem merge_ht {cs:List Cl} (ht:Tree cs) (h12:cs.length≤12) {a b:List Ty} (hab:a.length=b.length) (ha:∀x∈a,refOk cs.length x) (hb:∀x∈b,refOk cs.length x):htL (mergeL cs a b)≤htL a∧(lessTo cs a b a.length=true→htL (mergeL cs a b)<htL a):=by
 have hj:∀j,j<a.length→(eqT (m1 cs (nth ty0 a j) (nth ty0 b j)) (nth ty0 a j)=true→htT (nth ty0 (mergeL cs a b) j)=htT (nth ty0 a j))∧(eqT (m1 cs (nth ty0 a j) (nth ty0 b j)) (nth ty0 a j)=false→htT (nth ty0 (mergeL cs a b) j)<htT (nth ty0 a j)):=fun j hj=>by
  rw [merge_nth cs a b j hj]
  exact ⟨fun e=>by rw [eqT_eq.1 e],fun e=>m1_ht ht h12 (ha _ (nth_memT hj)) (hb _ (nth_memT (by omega))) e⟩
 have hle:=htL_le (a:=mergeL cs a b) (b:=a) (merge_length cs a b) (fun j h=>by
  rw [merge_length] at h
  cases he:eqT (m1 cs (nth ty0 a j) (nth ty0 b j)) (nth ty0 a j) with
  | true=>exact Nat.le_of_eq ((hj j h).1 he)
  | false=>exact Nat.le_of_lt ((hj j h).2 he))
 refine ⟨hle.1,fun hl=>hle.2 ?_⟩
 unfold lessTo at hl
 rw [List.any_eq_true] at hl
 obtain ⟨j,hjm,hn⟩:=hl
 have hjl:=List.mem_range.1 hjm
 exact ⟨j,by rw [merge_length];exact hjl,(hj j hjl).2 (by simpa using hn)⟩
structure Wn (f:Fi) (m:Me) (s:As):Prop where
 wq:Wq f m s
 nr:Nr s
theorem m1_kind {cs:List Cl} (x y:Ty):m1 cs x y=x∨m1 cs x y=ty0∨(x.kind=3∧y.kind=3∧(m1 cs x y).kind=3):=by
 unfold m1 bothT
 split
 ·exact Or.inl rfl
 split
 ·exact Or.inr (Or.inl rfl)
 ·rename_i h1
  have k1:x.kind=3:=by omega
  have k2:y.kind=3:=by omega
  refine Or.inr (Or.inr ⟨k1,k2,?_⟩)
  split
  ·exact k2
  ·split
   ·exact k1
   ·rfl
theorem m1_two {cs:List Cl} {x y:Ty} {k:Int} (hk:k=2∨k=4) (h:(m1 cs x y).kind=k):x=y∧m1 cs x y=x∧x.kind=k:=by
 unfold m1 bothT at h ⊢
 split at h
 ·rename_i e
  rw [if_pos e]
  exact ⟨eqT_eq.1 e,rfl,h⟩
 split at h
 ·exact absurd h (by rw [show ty0.kind=0 from rfl];omega)
 ·rename_i h1
  exfalso
  have k1:x.kind=3:=by omega
  have k2:y.kind=3:=by omega
  split at h
  ·omega
  ·split at h
   ·omega
   ·have:(3:Int)=k:=h
    omega
theorem m1_self (cs:List Cl) (x:Ty):m1 cs x x=x:=by unfold m1;rw [if_pos (eqT_eq.2 rfl)]
theorem ty_of {x:Ty} {k:Int} (h:x.kind=k) (h3:k≠3) (hn:nrT x):x=⟨k,0⟩:=by
 have:=hn (by omega)
 cases x
 dsimp only at h this
 rw [h,this]
theorem merge_pair {cs:List Cl} {a b:List Ty} (hab:a.length=b.length) (ha:PairT a) (hb:PairT b) (na:∀t∈a,nrT t) (nb:∀t∈b,nrT t):PairT (mergeL cs a b):=by
 unfold PairT PairK at ha hb ⊢
 rw [merge_length]
 have two:∀i k,i<a.length→(k=2∨k=4)→(nth ty0 (mergeL cs a b) i).kind=k→(nth ty0 a i).kind=k∧(nth ty0 b i).kind=k:=fun i k hi hk h=>by
  rw [merge_nth cs a b i hi] at h
  obtain ⟨h1,h2,h3⟩:=m1_two hk h
  exact ⟨h3,by rw [←h1];exact h3⟩
 have back:∀i k,i<a.length→(k=2∨k=4)→(nth ty0 a i).kind=k→(nth ty0 b i).kind=k→(nth ty0 (mergeL cs a b) i).kind=k:=fun i k hi hk h1 h2=>by
  have e1:=ty_of h1 (by omega) (na _ (nth_memT hi))
  have e2:=ty_of h2 (by omega) (nb _ (nth_memT (by omega)))
  rw [merge_nth cs a b i hi,e1,e2,m1_self]
 refine ⟨fun i hi h=>?_,fun i hi h=>?_⟩
 ·obtain ⟨x1,x2⟩:=two i 2 hi (Or.inl rfl) h
  have y1:=ha.1 i hi x1
  have y2:=hb.1 i (by omega) x2
  exact ⟨y1.1,back (i+1) 4 y1.1 (Or.inr rfl) y1.2 y2.2⟩
 ·obtain ⟨x1,x2⟩:=two i 4 hi (Or.inr rfl) h
  have y1:=ha.2 i hi x1
  have y2:=hb.2 i (by omega) x2
  exact ⟨y1.1,back (i-1) 2 (by omega) (Or.inl rfl) y1.2 y2.2⟩
theorem merge_all {cs:List Cl} {a b:List Ty} {P:Ty→Prop} (hab:a.length=b.length) (h:∀x y,x∈a→y∈b→m1 cs x y∈mergeL cs a b→P (m1 cs x y)):∀t∈mergeL cs a b,P t:=by
 intro t ht
 obtain ⟨j,hj,e⟩:=mem_nth ht
 rw [merge_length] at hj
 rw [merge_nth cs a b j hj] at e
 rw [←e] at ht ⊢
 exact h _ _ (nth_memT hj) (nth_memT (by omega)) ht
theorem Wn.merge {f:Fi} {m:Me} (ht:Tree f.classes) {s t:As} (hs:Wn f m s) (hv:Wn f m t) (hl:s.stk.length=t.stk.length) (hh:hasA (mergeL f.classes s.stk t.stk)=false):Wn f m (mergeA f.classes s t):=by
 have hsl:s.slots.length=t.slots.length:=by have:=hs.wq.wf.len;have:=hv.wq.wf.len;omega
 have nrm:∀x y,nrT x→nrT y→nrT (m1 f.classes x y):=fun x y hx hy=>by
  rcases m1_kind (cs:=f.classes) x y with e|e|⟨_,_,e⟩
  ·rw [e];exact hx
  ·rw [e];exact fun _=>rfl
  ·exact fun h=>absurd e h
 refine ⟨⟨⟨?_,merge_pair hsl hs.wq.wf.pair hv.wq.wf.pair hs.nr.sl hv.nr.sl,merge_all hsl (fun x y hx hy _=>?_),merge_all hl (fun x y hx hy hm=>?_)⟩,?_⟩,⟨merge_all hsl (fun x y hx hy _=>nrm x y (hs.nr.sl x hx) (hv.nr.sl y hy)),merge_all hl (fun x y hx hy _=>nrm x y (hs.nr.st x hx) (hv.nr.st y hy))⟩⟩
 ·show ((mergeL f.classes s.slots t.slots).length:Int)=_
  rw [merge_length];exact hs.wq.wf.len
 ·have h1:=hs.wq.wf.sl x hx
  refine ⟨m1_refOk ht h1.1 (hv.wq.wf.sl y hy).1,?_⟩
  rcases m1_kind (cs:=f.classes) x y with e|e|⟨_,_,e⟩
  ·rw [e];exact h1.2
  ·rw [e];exact ⟨by decide,by decide⟩
  ·omega
 ·have h1:=hs.wq.wf.st x hx
  refine ⟨m1_refOk ht h1.1 (hv.wq.wf.st y hy).1,?_⟩
  rcases m1_kind (cs:=f.classes) x y with e|e|⟨_,_,e⟩
  ·rw [e];exact h1.2
  ·exfalso
   have:hasA (mergeL f.classes s.stk t.stk)=true:=by
    unfold hasA
    rw [List.any_eq_true]
    exact ⟨_,hm,eqT_eq.2 e.symm⟩
   rw [this] at hh;exact absurd hh (by decide)
  ·omega
 ·show (mergeL f.classes s.stk t.stk).length≤100
  rw [merge_length];exact hs.wq.len
def htO:Option As→Nat
 | none=>62001
 | some s=>htL s.slots+htL s.stk
def Mh (st:List (Option As)) (wt:List Int):Nat:=2*(st.map htO).sum+wt.length
theorem sum_set:∀(l:List (Option As)) (a:Nat) (x:Option As),a<l.length→((l.set a x).map htO).sum+htO (nth none l a)=(l.map htO).sum+htO x
 | [],a,x,h=>absurd h (by simp)
 | y::l,0,x,h=>by
  show (htO x+(l.map htO).sum)+htO y=(htO y+(l.map htO).sum)+htO x
  omega
 | y::l,a+1,x,h=>by
  have ih:=sum_set l a x (by simpa using h)
  show (htO y+((l.set a x).map htO).sum)+htO (nth none l a)=(htO y+(l.map htO).sum)+htO x
  omega
theorem ht20 {n:Nat} {t:Ty} (hn:n≤12) (h:refOk n t):htT t≤20:=by
 unfold htT
 split
 ·rename_i k
  split
  ·omega
  ·rename_i hc
   have:=(h k).resolve_left hc
   omega
 ·split<;>omega
theorem htL20 {n:Nat} (hn:n≤12):∀{l:List Ty},(∀t∈l,refOk n t)→htL l≤20*l.length
 | [],_=>Nat.le_refl _
 | x::l,h=>by
  have ih:=htL20 hn (l:=l) (fun t ht=>h t (List.mem_cons_of_mem _ ht))
  have hx:=ht20 hn (h x List.mem_cons_self)
  have e1:htL (x::l)=htT x+htL l:=by unfold htL;simp
  rw [e1,List.length_cons]
  omega
structure Gs (f:Fi) (m:Me) (st:List (Option As)) (wt:List Int):Prop where
 wf:∀k s,nth none st k=some s→Wn f m s
 srt:wt.Pairwise (·< ·)
 rng:∀x∈wt,0≤x∧x<st.length
 stl:st.length≤3000
 loc:0≤m.regs∧m.regs≤3000
 has:∀x∈wt,∃s,nth none st x.toNat=some s
theorem Gs.wl {f:Fi} {m:Me} {st:List (Option As)} {wt:List Int} (G:Gs f m st wt):wt.length≤3000:=by
 have:=sorted_length (lo:=0) (hi:=st.length) G.srt G.rng (by omega)
 have:=G.stl
 omega
theorem Gs.gd {f:Fi} {m:Me} {st:List (Option As)} {wt:List Int} {cur:As} (G:Gs f m st wt) (hc:Wq f m cur):Gd f.classes.length cur.slots.length st wt :=
 ⟨fun k s h=>by have:=(G.wf k s h).wq.wf.len;have:=hc.wf.len;omega,fun k s h=>⟨fun x hx=>((G.wf k s h).wq.wf.sl x hx).1,fun x hx=>((G.wf k s h).wq.wf.st x hx).1⟩,G.srt.imp (fun h=>Int.le_of_lt h),G.wl,by have:=hc.wf.len;have:=G.loc;omega,G.stl⟩
structure Led (cs:List Cl) (st:List (Option As)) (wt:List Int) (st':List (Option As)) (wt':List Int):Prop where
 len:st'.length=st.length
 up:∀k s,nth none st k=some s→∃s',nth none st' k=some s'∧leA cs s s'
 keep:∀x∈wt,x∈wt'
 new:∀k,nth none st' k=nth none st k∨(k:Int)∈wt'
 ms:Mh st' wt'≤Mh st wt
theorem Led.refl (cs:List Cl) (st:List (Option As)) (wt:List Int):Led cs st wt st wt:=⟨rfl,fun k s h=>⟨s,h,leA.refl cs s⟩,fun x h=>h,fun k=>Or.inl rfl,Nat.le_refl _⟩
theorem Led.trans {cs:List Cl} (ht:Tree cs) {s1 s2 s3:List (Option As)} {w1 w2 w3:List Int} (h:Led cs s1 w1 s2 w2) (k:Led cs s2 w2 s3 w3):Led cs s1 w1 s3 w3:=by
 refine ⟨k.len.trans h.len,fun j s e=>?_,fun x hx=>k.keep x (h.keep x hx),fun j=>?_,Nat.le_trans k.ms h.ms⟩
 ·obtain ⟨s',e1,l1⟩:=h.up j s e
  obtain ⟨s2,e2,l2⟩:=k.up j s' e1
  exact ⟨s2,e2,l1.trans ht l2⟩
 ·rcases k.new j with e|e
  ·rcases h.new j with e'|e'
   ·exact Or.inl (e.trans e')
   ·exact Or.inr (k.keep _ e')
  ·exact Or.inr e
theorem Led.leads {cs:List Cl} (ht:Tree cs) {s1 s2:List (Option As)} {w1 w2:List Int} (h:Led cs s1 w1 s2 w2) {t:Int} {s:As} (l:Leads cs s1 t s):Leads cs s2 t s:=by
 obtain ⟨h1,h2,u,h3,h4⟩:=l
 obtain ⟨u',e,l'⟩:=h.up _ u h3
 exact ⟨h1,by rw [h.len];exact h2,u',e,h4.trans ht l'⟩
theorem lead_led {f:Fi} {m:Me} (ht:Tree f.classes) (h12:f.classes.length≤12) {st st':List (Option As)} {wt wt':List Int} {sl stk:List Ty} {a:Nat} (G:Gs f m st wt) (hc:Wn f m ⟨sl,stk⟩) (ha:a<st.length) (h:leadT f.classes sl stk a st wt=some (st',wt')) :
  Gs f m st' wt'∧Led f.classes st wt st' wt'∧Leads f.classes st' (a:Int) ⟨sl,stk⟩:=by
 have hrw:∀x∈waitL wt a,0≤x∧x<st.length:=fun x hx=>by
  rcases wait_mem.1 hx with rfl|hx
  ·omega
  ·exact G.rng x hx
 have hta:(a:Int).toNat=a:=by omega
 have wfS:∀s,Wn f m s→∀k u,nth none (st.set a (some s)) k=some u→Wn f m u:=fun s hs k u e=>by
  rw [nth_setI ha] at e
  split at e
  ·rw [←Option.some.inj e];exact hs
  ·exact G.wf k u e
 have hasS:∀s x,(∃u,nth none st x=some u)∨x=a→∃u,nth none (st.set a (some s)) x=some u:=fun s x h=>by
  rw [nth_setI ha]
  split
  ·exact ⟨s,rfl⟩
  ·rename_i hne
   rcases h with h|h
   ·exact h
   ·exact absurd h.symm hne
 have hasW:∀s,∀x∈waitL wt a,∃u,nth none (st.set a (some s)) x.toNat=some u:=fun s x hx=>by
  rcases wait_mem.1 hx with rfl|hx
  ·exact hasS s _ (Or.inr hta)
  ·exact hasS s _ (Or.inl (G.has x hx))
 unfold leadT at h
 split at h
 ·rename_i hn
  have h:=Option.some.inj h
  have e1:st.set a (some ⟨sl,stk⟩)=st':=congrArg Prod.fst h
  have e2:waitL wt a=wt':=congrArg Prod.snd h
  subst e1;subst e2
  refine ⟨⟨wfS _ hc,wait_sorted _ G.srt,by rw [List.length_set];exact hrw,by rw [List.length_set];exact G.stl,G.loc,hasW _⟩,⟨List.length_set,fun k s e=>?_,fun x hx=>wait_mem.2 (Or.inr hx),fun k=>?_,?_⟩,⟨by omega,by rw [List.length_set];omega,⟨sl,stk⟩,by rw [hta];exact nth_set_eq ha,leA.refl _ _⟩⟩
  ·have:a≠k:=fun x=>by rw [x,e] at hn;cases hn
   exact ⟨s,by rw [nth_set_ne this];exact e,leA.refl _ _⟩
  ·by_cases hk:a=k
   ·exact Or.inr (wait_mem.2 (Or.inl (by rw [hk])))
   ·exact Or.inl (nth_set_ne hk)
  ·have hs:=sum_set st a (some ⟨sl,stk⟩) ha
   rw [hn] at hs
   have w1:=wait_length wt a
   have l1:=htL20 h12 (l:=sl) (fun t ht=>(hc.wq.wf.sl t ht).1)
   have l2:=htL20 h12 (l:=stk) (fun t ht=>(hc.wq.wf.st t ht).1)
   have l3:(sl.length:Int)=m.regs:=hc.wq.wf.len
   have l4:stk.length≤100:=hc.wq.len
   have l5:=G.loc
   have e1:htO none=62001:=rfl
   have e2:htO (some ⟨sl,stk⟩)=htL sl+htL stk:=rfl
   unfold Mh
   omega
 ·rename_i s hn
  have hw:=G.wf a s hn
  split at h
  ·rename_i hl
   split at h
   ·cases h
   ·rename_i hh
    have h:=Option.some.inj h
    have e1:st.set a (some (mergeA f.classes s ⟨sl,stk⟩))=st':=congrArg Prod.fst h
    have e2:(if lessA f.classes s ⟨sl,stk⟩=true then waitL wt a else wt)=wt':=congrArg Prod.snd h
    have hsl:s.slots.length=sl.length:=by have:=hw.wq.wf.len;have:(sl.length:Int)=m.regs:=hc.wq.wf.len;omega
    have Wm:Wn f m (mergeA f.classes s ⟨sl,stk⟩):=hw.merge ht hc hl (by simpa using hh)
    have ra:∀x∈s.slots,refOk f.classes.length x:=fun x hx=>(hw.wq.wf.sl x hx).1
    have rb:∀x∈s.stk,refOk f.classes.length x:=fun x hx=>(hw.wq.wf.st x hx).1
    have rc:∀x∈sl,refOk f.classes.length x:=fun x hx=>(hc.wq.wf.sl x hx).1
    have rd:∀x∈stk,refOk f.classes.length x:=fun x hx=>(hc.wq.wf.st x hx).1
    have L1:=merge_le ht hsl ra rc
    have L2:=merge_le ht hl rb rd
    have T1:=merge_ht ht h12 hsl ra rc
    have T2:=merge_ht ht h12 hl rb rd
    have hs:=sum_set st a (some (mergeA f.classes s ⟨sl,stk⟩)) ha
    rw [hn] at hs
    have e3:htO (some s)=htL s.slots+htL s.stk:=rfl
    have e4:htO (some (mergeA f.classes s ⟨sl,stk⟩))=htL (mergeL f.classes s.slots sl)+htL (mergeL f.classes s.stk stk):=rfl
    have sub:∀x∈wt,x∈wt':=fun x hx=>by
     rw [←e2]
     split
     ·exact wait_mem.2 (Or.inr hx)
     ·exact hx
    have fin:Leads f.classes st' (a:Int) ⟨sl,stk⟩:=by rw [←e1];exact ⟨by omega,by rw [List.length_set];omega,mergeA f.classes s ⟨sl,stk⟩,by rw [hta];exact nth_set_eq ha,⟨L1.2,L2.2⟩⟩
    have up:∀k u,nth none st k=some u→∃s',nth none st' k=some s'∧leA f.classes u s':=fun k u e=>by
     rw [←e1]
     by_cases hk:a=k
     ·subst hk
      rw [hn] at e
      have:=Option.some.inj e
      subst this
      exact ⟨_,nth_set_eq ha,⟨L1.1,L2.1⟩⟩
     ·exact ⟨u,by rw [nth_set_ne hk];exact e,leA.refl _ _⟩
    have hlen:st'.length=st.length:=by rw [←e1];exact List.length_set
    by_cases hle:lessA f.classes s ⟨sl,stk⟩=true
    ·rw [if_pos hle] at e2
     subst e2
     refine ⟨⟨by rw [←e1];exact wfS _ Wm,wait_sorted _ G.srt,by rw [hlen];exact hrw,by rw [hlen];exact G.stl,G.loc,by rw [←e1];exact hasW _⟩,⟨hlen,up,sub,fun k=>?_,?_⟩,fin⟩
     ·by_cases hk:a=k
      ·exact Or.inr (wait_mem.2 (Or.inl (by rw [hk])))
      ·exact Or.inl (by rw [←e1];exact nth_set_ne hk)
     ·have w1:=wait_length wt a
      unfold lessA at hle
      rw [Bool.or_eq_true] at hle
      have:htL (mergeL f.classes s.slots sl)+htL (mergeL f.classes s.stk stk)<htL s.slots+htL s.stk:=by
       rcases hle with q|q
       ·have:=T1.2 q;have:=T2.1;omega
       ·have:=T2.2 q;have:=T1.1;omega
      rw [←e1]
      unfold Mh
      omega
    ·rw [if_neg hle] at e2
     subst e2
     have hle':lessTo f.classes s.slots sl s.slots.length=false∧lessTo f.classes s.stk stk s.stk.length=false:=by
      have:lessA f.classes s ⟨sl,stk⟩=false:=by simpa using hle
      unfold lessA at this
      rw [Bool.or_eq_false_iff] at this
      exact this
     have same:mergeA f.classes s ⟨sl,stk⟩=s:=by
      unfold mergeA
      rw [show mergeL f.classes s.slots (⟨sl,stk⟩:As).slots=s.slots from merge_same hle'.1,show mergeL f.classes s.stk (⟨sl,stk⟩:As).stk=s.stk from merge_same hle'.2]
     refine ⟨⟨by rw [←e1];exact wfS _ Wm,G.srt,by rw [hlen];exact G.rng,by rw [hlen];exact G.stl,G.loc,fun x hx=>by rw [←e1];exact hasS _ _ (Or.inl (G.has x hx))⟩,⟨hlen,up,sub,fun k=>Or.inl ?_,?_⟩,fin⟩
     ·rw [←e1,nth_setI ha]
      split
      ·rename_i hk
       rw [same,←hk,hn]
      ·rfl
     ·have:=T1.1;have:=T2.1
      rw [←e1]
      unfold Mh
      omega
  ·cases h
section
def LQ (f:Fi) (m:Me) (X:Nat→Prop) (wx w1:World) (g:Gf) (b0:Nat) (cur:As) (at':Int) (st:List (Option As)) (wt:List Int) (P:List (Option As)→Prop) (e:Ending) (w':World):Prop :=
 (e=upE∧FE X wx w1 g w')∨∃st' wt',e=.returned (.tuple #[])∧FX X wx w1 g b0 w' cur at' st' wt'∧Gs f m st' wt'∧Led f.classes st wt st' wt'∧P st'
section
variable {X:Nat→Prop} {wx w0 w1:World} {g:Gf} {b0:Nat} {w:World} {cur:As} {at':Int} {st:List (Option As)} {wt:List Int} {rv:Nat→Value} {vw:Value} {sp:Nat→Option Nat} {f:Fi} {m:Me}
theorem fleadW_any (C:Cx w0 w1 g f m) (a:Int) (u:Value) (stk:List Ty) (H:FA X wx w1 g b0 w cur at' st wt rv vw sp) (G:Gs f m st wt) (hu:Su w u stk rv) (hc:Wn f m ⟨cur.slots,stk⟩) (hq:Wq f m cur) :
  Calls Tryz.prog 274 #[.pointer (some ⟨g.p,0,none⟩),.int .i64 a,u] w fun e w'=>LQ f m X wx w1 g b0 cur at' st wt (fun st'=>Leads f.classes st' a ⟨cur.slots,stk⟩) e w':=by
 obtain ⟨ht,-,h12⟩:=may_tree C.may
 by_cases ha:0≤a∧a<st.length
 ·obtain ⟨k,rfl⟩:∃k:Nat,a=(k:Int):=⟨a.toNat,by omega⟩
  have hk:k<st.length:=by omega
  cases hn:nth none st k with
  | none =>
   have e1:leadT f.classes cur.slots stk k st wt=some (st.set k (some ⟨cur.slots,stk⟩),waitL wt k):=by unfold leadT;rw [hn]
   have L:=lead_led ht h12 G hc hk e1
   refine (fleadW_new (f:=f) k u stk H (G.gd hq) hu hk hn).mono ?_
   rintro e w' ⟨rfl,q⟩
   exact Or.inr ⟨_,_,rfl,q,L⟩
  | some s =>
   refine (fleadW_old C k u stk s H (G.gd hq) hu hn (fun x hx=>(hc.wq.wf.sl x hx).1) (fun x hx=>(hc.wq.wf.st x hx).1)).mono ?_
   intro e w' q
   cases hl:leadT f.classes cur.slots stk k st wt with
   | none =>
    rw [hl] at q
    exact Or.inl q
   | some p =>
    rw [hl] at q
    exact Or.inr ⟨p.1,p.2,q.1,q.2,lead_led ht h12 G hc hk hl⟩
 ·exact (fleadW_out a u ⟨_,_,_,H⟩ ha).mono (fun e w' q=>Or.inl q)
theorem flead_any (C:Cx w0 w1 g f m) (a:Int) (H:FX X wx w1 g b0 w cur at' st wt) (G:Gs f m st wt) (hc:Wn f m cur) :
  Calls Tryz.prog 216 #[.pointer (some ⟨g.p,0,none⟩),.int .i64 a] w fun e w'=>LQ f m X wx w1 g b0 cur at' st wt (fun st'=>Leads f.classes st' a cur) e w':=by
 obtain ⟨rv,vw,sp,H⟩:=H
 have hl:cur.stk.length≤3000:=by have:=hc.wq.len;omega
 have K:=hid (fleadW_any C a (rv 1) cur.stk H G (H.su (r0:=1) (by omega) H.row1 hl) hc hc.wq)
 have p1:w.cell? ⟨g.p,1,none⟩=some (rv 1):=by rw [cell_blk H.blk];rfl
 have hp:=cell_lt p1
 clear H G hc hl C
 generalize rv 1=v at *
 go_enter Tryz.func216,Tryz.ntmps216
 go_wp2_with (go_at_call 274;refine K.out.mono ?_;rintro e w2 (⟨rfl,q⟩|⟨st',wt',rfl,q⟩);exact ⟨rfl,Or.inl ⟨rfl,q⟩⟩)
 go_end0
 exact Or.inr ⟨st',wt',rfl,q⟩
theorem fnext_any (C:Cx w0 w1 g f m) (H:FX X wx w1 g b0 w cur at' st wt) (G:Gs f m st wt) (hc:Wn f m cur) (ha:0≤at'∧at'≤3000) :
  Calls Tryz.prog 225 #[.pointer (some ⟨g.p,0,none⟩)] w fun e w'=>LQ f m X wx w1 g b0 cur at' st wt (fun st'=>Leads f.classes st' (at'+1) cur) e w':=by
 have K:=hid (flead_any C (at'+1) H G hc)
 have p11:w.cell? ⟨g.p,11,none⟩=some (.int .i64 at'):=H.pc.2.2.2.2.2.2.1
 have hp:=cell_lt p11
 have hw:IntKind.i64.wrap (at'+1)=at'+1:=by rw [IntKind.wrap_i64];omega
 clear H G hc C ha
 go_enter Tryz.func225,Tryz.ntmps225
 go_wp2_with (go_at_call 216;refine K.out.mono ?_;rintro e w2 (⟨rfl,q⟩|⟨st',wt',rfl,q⟩);exact ⟨rfl,Or.inl ⟨rfl,q⟩⟩)
 go_end0
 exact Or.inr ⟨st',wt',rfl,q⟩
theorem fbranch_any (C:Cx w0 w1 g f m) (a:Int) (H:FX X wx w1 g b0 w cur at' st wt) (G:Gs f m st wt) (hc:Wn f m cur) (ha:0≤at'∧at'≤3000) :
  Calls Tryz.prog 221 #[.pointer (some ⟨g.p,0,none⟩),.int .i64 a] w fun e w'=>LQ f m X wx w1 g b0 cur at' st wt (fun st'=>Leads f.classes st' a cur∧Leads f.classes st' (at'+1) cur) e w':=by
 have K:=hid (flead_any C a H G hc)
 have HC:=hid C
 have HW:=hid hc
 have HA:=hid ha
 have HT:=hid (may_tree C.may).1
 clear H G hc C ha
 go_enter Tryz.func221,Tryz.ntmps221
 go_wp2_with (first
  | (go_at_call 216;refine K.out.mono ?_;rintro e w2 (⟨rfl,q⟩|⟨st',wt',rfl,q⟩);exact ⟨rfl,Or.inl ⟨rfl,q⟩⟩;have Q:=hid q;clear q)
  | (go_at_call 225;refine (fnext_any HC.out Q.out.1 Q.out.2.1 HW.out HA.out).mono ?_;rintro e w3 (⟨rfl,q⟩|⟨st2,wt2,rfl,q⟩);exact ⟨rfl,Or.inl ⟨rfl,q⟩⟩))
 go_end0
 exact Or.inr ⟨st2,wt2,rfl,q.1,q.2.1,Q.out.2.2.1.trans HT.out q.2.2.1,q.2.2.1.leads HT.out Q.out.2.2.2,q.2.2.2⟩
end
end
section
def hdC (h:Hd):List Value:=[.int .i64 h.fr,.int .i64 h.til,.int .i64 h.pc,.int .i64 h.cls]
def hdCs:List Hd→List Value
 | []=>[]
 | h::l=>hdC h++hdCs l
theorem hdCs_length:∀l:List Hd,(hdCs l).length=l.length*4
 | []=>rfl
 | h::l=>by
  show (hdC h++hdCs l).length=_
  rw [List.length_append,hdCs_length l,List.length_cons]
  show 4+_=_
  omega
theorem hdCs_app:∀a b:List Hd,hdCs (a++b)=hdCs a++hdCs b
 | [],b=>rfl
 | h::a,b=>by
  show hdC h++hdCs (a++b)=hdC h++hdCs a++hdCs b
  rw [hdCs_app a b,List.append_assoc]
def ovB (k:Int) (h:Hd):Bool:=decide (h.fr≤k∧k≤h.til-1)
def overL (k:Int) (l:List Hd):List Hd:=l.filter (ovB k)
theorem over_succ (k:Int) (l:List Hd) {q:Nat} (hq:q<l.length):overL k (l.take (q+1))=overL k (l.take q)++(if ovB k (nth hd0 l q)=true then [nth hd0 l q] else []):=by
 unfold overL
 rw [List.take_add_one,List.filter_append,nth_get hq,List.getElem?_eq_getElem hq]
 show _++List.filter (ovB k) [l[q]]=_
 by_cases h:ovB k l[q]=true
 ·rw [if_pos h,List.filter_cons_of_pos h];rfl
 ·rw [if_neg h,List.filter_cons_of_neg h];rfl
theorem over_le (k:Int) (l:List Hd) (q:Nat):(overL k (l.take q)).length≤l.length:=by
 unfold overL
 have h1:=List.length_filter_le (ovB k) (l.take q)
 rw [List.length_take] at h1
 omega
theorem info_hd:(Tryz.prog.info? 98).map (fun i=>(i.zero,i.size,i.bytes))=some (some (.agg #[.int .i64 0,.int .i64 0,.int .i64 0,.int .i64 0]),4,32):=by kernel_rfl
section
variable {X:Nat→Prop} {wx w0 w1:World} {g:Gf} {b0:Nat} {w:World} {cur:As} {at':Int} {st:List (Option As)} {wt:List Int} {f:Fi} {m:Me}
theorem fover_any (C:Cx w0 w1 g f m) (H:FX X wx w1 g b0 w cur at' st wt) (hl:m.hands.length≤8) (ho:∀x∈m.hands,0≤x.til∧x.til≤3000) :
  Calls Tryz.prog 276 #[.pointer (some ⟨g.p,0,none⟩)] w fun e w'=>∃v,e=.returned v∧w'.ownsRow w.heap.size 98 4 v (overL at' m.hands).length (hdCs (overL at' m.hands))∧Bl w w':=by
 obtain ⟨i0,hi0,hz0,hz1,hz2⟩:=info_partsT info_hd
 obtain ⟨A,c,h10,hA⟩:=C.hands
 have p10:w.cell? ⟨g.p,10,none⟩=some (.slice A m.hands.length c):=by have:=H.pc.2.2.2.2.2.1;rw [h10] at this;exact this
 have p11:=hid H.pc.2.2.2.2.2.2.1
 have HA:=hid (hA.bl (C.bl0 H))
 have hp:=cell_lt p10
 clear H C h10 hA
 generalize m.hands=l at *
 go_enter Tryz.func276,Tryz.ntmps276
 go_wp2
 go_loopw [3,12] (fun u i wr=>∃q:Nat,q≤l.length∧i=.int .i64 q∧Hid (wr.ownsRow w.heap.size 98 4 u (overL at' (l.take q)).length (hdCs (overL at' (l.take q))))∧Hid (Bl w wr)) (fun _ i _=>l.length-(intOf i).toNat)
 case atStart=>exact ⟨0,Nat.zero_le _,rfl,hid (World.ownsRow_nil _ _ _ _),hid (Bl.refl w)⟩
 case round =>
  obtain ⟨q,hq,rfl,RR,BB⟩:=hrel
  by_cases hql:q<l.length
  ·rcases (HA.out.bl BB.out).2 with z0|⟨b,off,rfl,hcell⟩
   ·omega
   obtain ⟨x0,x1,x2,x3,-⟩:=hcell q hql
   have oo:=ho _ (show nth hd0 l q∈l by rw [nth_get hql];exact List.getElem_mem hql)
   have hb:=cell_lt x0
   have k11:=BB.out.cell p11.out
   have hpl:=cell_lt k11
   have SS:=hid (over_succ at' l hql)
   have HQ:=hid hql
   have hk0:(0:Int)≤(q:Int):=by omega
   have hk1:(q:Int)<(l.length:Int):=by omega
   have LE:=hid (over_le at' l q)
   clear hcell
   generalize nth hd0 l q=x at *
   have hw:IntKind.i64.wrap (x.til-1)=x.til-1:=by rw [IntKind.wrap_i64];omega
   clear oo
   obtain ⟨au,cu,hu,-,hcm⟩:=own_formT RR.out
   subst hu
   have ZB:=hid (mblk (w:=wr) (cs:=#[.int .i64 x.fr,.int .i64 x.til,.int .i64 x.pc,.int .i64 x.cls]) (t:=98) rfl)
   have BA:Hid (Bl wr (wr.alloc (.cells #[.int .i64 x.fr,.int .i64 x.til,.int .i64 x.pc,.int .i64 x.cls] 98))):=(Bl.refl wr).alloc _
   cases hv:ovB at' x with
   | false =>
    have HV:Hid (decide (x.fr≤at'∧at'≤x.til-1)=false):=hv
    rw [hv] at SS
    clear hv
    go_wp2
    go_quiet ((go_at_call 63;exact Calls.quiet_of_same ((span_any _ _ _ _).mono fun e w' hh=>⟨hh.1.trans (ret_bool HV.out),hh.2⟩)))
    go_wp2
    go_roundw
    case rel =>
     refine ⟨q+1,by omega,by go_num,?_,hid (BB.out.trans (BA.out.trans (bl_drewN (Bl.refl _) _)))⟩
     rw [SS.out,if_neg (by decide),List.append_nil]
     exact hid (rowBl RR.out (BA.out.trans (bl_drewN (Bl.refl _) _)))
    case measure=>simp [intOf];omega
   | true =>
    have HV:Hid (decide (x.fr≤at'∧at'≤x.til-1)=true):=hv
    rw [hv,if_pos rfl] at SS
    clear hv
    go_wp2
    go_quiet ((go_at_call 63;exact Calls.quiet_of_same ((span_any _ _ _ _).mono fun e w' hh=>⟨hh.1.trans (ret_bool HV.out),hh.2⟩)))
    have BV:=hid (BA.out.trans (bl_drewN (Bl.refl _) nq))
    have ZV:=hid (bl_blk (bl_drewN (Bl.refl _) nq) ZB.out)
    have RV0:=hid (rowBl RR.out BV.out)
    clear BA ZB x0 x1 x2 x3 k11
    generalize (wr.alloc (.cells #[.int .i64 x.fr,.int .i64 x.til,.int .i64 x.pc,.int .i64 x.cls] 98)).drewN nq=V at *
    have z0:V.cell? ⟨wr.heap.size,0,none⟩=some (.int .i64 x.fr):=by rw [cell_blk ZV.out];rfl
    have z1:V.cell? ⟨wr.heap.size,1,none⟩=some (.int .i64 x.til):=by rw [cell_blk ZV.out];rfl
    have z2:V.cell? ⟨wr.heap.size,2,none⟩=some (.int .i64 x.pc):=by rw [cell_blk ZV.out];rfl
    have z3:V.cell? ⟨wr.heap.size,3,none⟩=some (.int .i64 x.cls):=by rw [cell_blk ZV.out];rfl
    have hzl:=cell_lt z0
    go_wp2_with (at_builtin;refine wpList_append_own _ rfl _ _ 48 rfl w.heap.size 98 i0 _ 4 32 Tryz.underlying48 hi0 hz0 hz1 hz2 rfl (by omega) _ _ _ rfl (rowBl RV0.out ((Bl.refl V).alloc _)) ⟨V.heap.size,0,none⟩ 1 1 (hdC x) rfl rfl ?qc2 ?qc3 ?qc4 ?qc5 ?qc6 ?_)
    case qc2=>exact World.news_of_block (cs:=#[.int .i64 x.fr,.int .i64 x.til,.int .i64 x.pc,.int .i64 x.cls]) (t:=98) (fr:=(0,0)) (mblk rfl)
    case qc3=>unfold hdC;simp [Value.oneCell']
    case qc4=>have:=LE.out;unfold maxLen;omega
    case qc5=>have:=LE.out;omega
    case qc6=>have:=BB.out.size;have:=BV.out.size;simp;omega
    intro v' w2 hown hgrow hnil
    have W2:Hid (Bl w w2):=((Below.refl _ w).trans (BB.out.trans (BV.out.alloc _))).grown hgrow (by have:=BB.out.size;have:=BV.out.size;simp;omega) (by intro k hk;exact ((rowBl RV0.out ((Bl.refl V).alloc (.cells #[.int .i64 x.fr,.int .i64 x.til,.int .i64 x.pc,.int .i64 x.cls] 98))).lt k hk).1)
    have O2:=hid hown
    clear hown hgrow hnil
    go_wp2
    go_roundw
    case rel =>
     refine ⟨q+1,by omega,by go_num,?_,W2⟩
     rw [SS.out,hdCs_app,List.length_append]
     exact hid (by simpa [hdCs] using O2.out)
    case measure=>simp [intOf];omega
  ·have hqe:q=l.length:=by omega
   subst hqe
   rw [List.take_length] at RR
   go_wp2
   go_ret
   exact ⟨_,rfl,RR.out,BB.out⟩
end
end
section
theorem Wn.clr {f:Fi} {m:Me} {s:As} (w:Wn f m s):Wn f m ⟨s.slots,[]⟩:=⟨w.wq.clr,w.nr.clr⟩
theorem Wn.one {f:Fi} {m:Me} {s:As} (w:Wn f m s) {v:Ty} (h:tyOk f.classes.length v) (hn:nrT v):Wn f m ⟨s.slots,[v]⟩:=⟨w.wq.one h,w.nr.one hn⟩
section
variable {X:Nat→Prop} {wx w0 w1:World} {g:Gf} {b0:Nat} {w:World} {sl hs:List Ty} {at':Int} {st:List (Option As)} {wt:List Int} {f:Fi} {m:Me} {hv:Value}
theorem qhand_any (C:Cx w0 w1 g f m) (Q:Qx X wx w0 g f hv) (hc:Wn f m ⟨sl,[]⟩) (H:FX X wx w1 g b0 w ⟨sl,[]⟩ at' st wt) (G:Gs f m st wt) (a op:Int) (v:Ty) (hv1:Wn f m ⟨sl,[v]⟩) :
  Calls Tryz.prog 277 #[.pointer (some ⟨g.q,0,none⟩),.int .i64 a,.int .i64 op,fvV v] w fun e w'=>LQ f m X wx w1 g b0 ⟨sl,[]⟩ at' st wt (fun st'=>LeadH f.classes m st' a op v sl) e w':=by
 have HB:Hid (Bl w (w.alloc (fvO v))):=(Bl.refl w).alloc _
 have ZB:=hid (mblk (w:=w) (cs:=#[.int .i64 v.kind,.int .i64 v.cls]) (t:=243) rfl)
 have HH:=hid H
 have W1:=hid (H.wide HB.out)
 have Q1:=hid (Q.wide H HB.out)
 have HG:=hid G
 have HC:=hid C
 have HN:=hid hc
 have HV:=hid hv1
 obtain ⟨A,c,e9,hI⟩:=C.code
 have p9:(w.alloc (fvO v)).cell? ⟨g.p,9,none⟩=some (.slice A m.code.length c):=by rw [←e9];exact W1.out.pc.2.2.2.2.1
 have hp:=cell_lt p9
 have q0:=Q1.out.q0 W1.out
 have hq:=cell_lt q0
 have hwl:=lt_some ZB.out
 have hbl:=C.bl0 W1.out
 have LH1:Hid (isF m a op→∀st':List (Option As),Leads f.classes st' a ⟨sl,[v]⟩→LeadH f.classes m st' a op v sl):=fun h st' l=>⟨fun _=>l,fun x=>absurd h x⟩
 have LH0:Hid (¬isF m a op→∀st':List (Option As),Leads f.classes st' a ⟨sl,[]⟩→LeadH f.classes m st' a op v sl):=fun h st' l=>⟨fun x=>absurd x h,fun _=>l⟩
 have SS:Hid (∀(bb:Nat) (cu:As) (sst:List (Option As)) (ww:List Int) (w':World),FX (Xf X w.heap.size (w.alloc (fvO v)).heap.size) (w.alloc (fvO v)) w1 g bb w' cu at' sst ww→w'.cell? ⟨g.q,0,none⟩=some (.pointer (some ⟨g.p,0,none⟩))∧w'.cell? ⟨w.heap.size,0,none⟩=some (.int .i64 v.kind)∧w'.cell? ⟨w.heap.size,1,none⟩=some (.int .i64 v.cls)):=fun bb cu sst ww w' h=>⟨Q1.out.q0 h,c0_of (h.box (Nat.le_refl _) hwl ZB.out),c1_of (h.box (Nat.le_refl _) hwl ZB.out)⟩
 clear Q H G hc hv1 e9
 by_cases hF:isF m a op
 ·obtain ⟨f1,f2,f3⟩:=hF
  obtain ⟨k,rfl⟩:∃k:Nat,a=k:=⟨a.toNat,by omega⟩
  rw [Int.toNat_natCast] at f3
  have HF:=hid (show isF m (k:Int) op from ⟨f1,f2,by rw [Int.toNat_natCast];exact f3⟩)
  rcases hI.2 with h0|⟨cb,co,rfl,hcell⟩
  ·omega
  have d0:=hbl.cell (hcell k (by omega)).1
  rw [f3] at d0
  have hd:=cell_lt d0
  have dn:decide (0≤(k:Int)∧(k:Int)<(m.code.length:Int))=true:=decide_eq_true ⟨f1,f2⟩
  have hk0:¬(k:Int)<0:=by omega
  clear f3 hI hcell hbl C
  go_enter Tryz.func277,Tryz.ntmps277
  go_wp2_with (go_at_call 144;refine (numbers_any _ _ _).mono ?_;rintro e w2 ⟨he,hw⟩;rw [dn] at he;subst he;rw [hw];clear hw w2)
  clear p9 hp q0 hq d0 hd dn
  generalize w.alloc (fvO v)=V at *
  refine wp_region_held_drew (S:=fun w'=>w'.cell? ⟨g.q,0,none⟩=some (.pointer (some ⟨g.p,0,none⟩))∧w'.cell? ⟨w.heap.size,0,none⟩=some (.int .i64 v.kind)∧w'.cell? ⟨w.heap.size,1,none⟩=some (.int .i64 v.cls)) (by kernel_rfl) ?_ (fun hHeld0=>?_)
  ·exact SS.out _ _ _ _ _ (W1.out.bl (Bl.refl _).drew)
  have hqV:=cell_lt hHeld0.1
  iterate 6 (refine tn rfl (by kernel_rfl) (fun _ _ _ h=>h) (by intro _ h;go_split_ands;go_simp<;>with_reducible rfl) hHeld0 ?_;try simp only [aZ])
  refine rd1 (i:=6) (by kernel_rfl) rfl fun K hK=>?_
  go_simp
  have W2:=hid ((W1.out.bl (Bl.refl V).drew).bl ((Bl.refl V.drew).alloc (.cells #[.int .i64 v.kind,.int .i64 v.cls] 243)))
  refine hK.out _ _ (SS.out _ _ _ _ _ W2.out) (fun hHeld1=>?_)
  try simp only [aZ]
  clear hK
  refine rd1 (i:=7) (by kernel_rfl) rfl fun K hK=>?_
  go_simp
  go_at_call 274
  obtain ⟨rv,vw,sp,F5⟩:=id (W1.out.bl (Bl.refl V).drew)
  have F4:=F5.bl ((Bl.refl V.drew).alloc (.cells #[.int .i64 v.kind,.int .i64 v.cls] 243))
  refine (fleadW_any HC.out k _ [v] F4 HG.out ?su HV.out HN.out.wq).mono ?_
  case su =>
   refine ⟨_,_,rfl,by show 1≤3000;omega,Or.inr ⟨V.drew.heap.size,rfl,⟨fun j hj=>?_⟩,fun r hr e=>?_⟩⟩
   ·have:j=0:=by simpa using hj
    subst this
    have hb:=mblk (w:=V.drew) (cs:=#[.int .i64 v.kind,.int .i64 v.cls]) (t:=243) rfl
    exact ⟨c0_of hb,c1_of hb⟩
   ·have:=F5.lt0 _ _ e
    omega
  rintro e w5 (⟨rfl,f5⟩|⟨st2,wt2,rfl,f5,g5,l5,p5⟩)
  ·exact ⟨rfl,Or.inl ⟨rfl,FE.back HH.out HB.out f5⟩⟩
  have N5:=hid (show FX X wx w1 g b0 w5 ⟨sl,[]⟩ at' st2 wt2∧Gs f m st2 wt2∧Led f.classes st wt st2 wt2∧LeadH f.classes m st2 (k:Int) op v sl from ⟨HH.out.back HB.out f5,g5,l5,LH1.out HF.out _ p5⟩)
  refine hK.out _ _ (SS.out _ _ _ _ _ f5) (fun hHeld2=>?_)
  try simp only [aZ]
  clear hK hHeld0 hHeld1 hHeld2 f5 g5 l5 p5 F4 F5
  refine wpAnyH_done (by kernel_rfl) ?_ _
  go_wp2
  refine bodyPost_ret (results_none rfl _ _ _) rfl ?_
  exact Or.inr ⟨st2,wt2,rfl,N5.out⟩
 ·have HF:=hid hF
  by_cases hin:0≤a∧a<(m.code.length:Int)
  ·obtain ⟨k,rfl⟩:∃k:Nat,a=k:=⟨a.toNat,by omega⟩
   rcases hI.2 with h0|⟨cb,co,rfl,hcell⟩
   ·omega
   have d0:=hbl.cell (hcell k (by omega)).1
   have hne:((nth in0 m.code k).op==op)=false:=by
    have:(nth in0 m.code k).op≠op:=fun e=>hF ⟨hin.1,hin.2,by rw [Int.toNat_natCast];exact e⟩
    simpa using this
   have hd:=cell_lt d0
   have dn:decide (0≤(k:Int)∧(k:Int)<(m.code.length:Int))=true:=decide_eq_true hin
   have hk0:¬(k:Int)<0:=by omega
   have hk1:(k:Int)<(m.code.length:Int):=hin.2
   have KL:=hid (flead_any HC.out (k:Int) W1.out HG.out HN.out)
   clear hI hcell hbl C hF hin
   generalize (nth in0 m.code k).op=o at *
   go_enter Tryz.func277,Tryz.ntmps277
   go_wp2_with (first
    | (go_at_call 144;refine (numbers_any _ _ _).mono ?_;rintro e w2 ⟨he,hw⟩;rw [dn] at he;subst he;rw [hw];clear hw w2)
    | (go_at_call 216;refine KL.out.mono ?_;rintro e w5 (⟨rfl,f5⟩|⟨st2,wt2,rfl,f5,g5,l5,p5⟩);exact ⟨rfl,Or.inl ⟨rfl,FE.back HH.out HB.out f5⟩⟩))
   go_end0
   exact Or.inr ⟨st2,wt2,rfl,HH.out.back HB.out f5,g5,l5,LH0.out HF.out _ p5⟩
  ·have dn:decide (0≤a∧a<(m.code.length:Int))=false:=decide_eq_false hin
   have KL:=hid (flead_any HC.out a W1.out HG.out HN.out)
   clear hI hbl C hF hin
   go_enter Tryz.func277,Tryz.ntmps277
   go_wp2_with (first
    | (go_at_call 144;refine (numbers_any _ _ _).mono ?_;rintro e w2 ⟨he,hw⟩;rw [dn] at he;subst he;rw [hw];clear hw w2)
    | (go_at_call 216;refine KL.out.mono ?_;rintro e w5 (⟨rfl,f5⟩|⟨st2,wt2,rfl,f5,g5,l5,p5⟩);exact ⟨rfl,Or.inl ⟨rfl,FE.back HH.out HB.out f5⟩⟩))
   go_end0
   exact Or.inr ⟨st2,wt2,rfl,HH.out.back HB.out f5,g5,l5,LH0.out HF.out _ p5⟩
end
end
end Go.Proofs.YtgiiapenmjollabGreat
