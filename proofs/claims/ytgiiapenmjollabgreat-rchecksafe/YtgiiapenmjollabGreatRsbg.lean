import Derived.Test.YtgiiapenmjollabGreatRsak
import Derived.Test.YtgiiapenmjollabGreatRsal
import Derived.Test.YtgiiapenmjollabGreatRsar
import Derived.Deep.RegionLaw
import Derived.Deep.AppendLies
import Derived.OwnWalk
import Derived.Lib.SliceRun
import Derived.Lib.Walk
import Derived.Laws.OwnMore
import Derived.Shelf.Slices.SearchI
import Derived.Shelf.Slices.Delete
import Derived.Shelf.Slices.Cells
import Derived.Shelf.Slices.Empties
import Derived.Shelf.Spec.SlicesInsert
import Derived.Shelf.Spec.SlicesInsertGrow
namespace Go.Proofs.YtgiiapenmjollabGreat
set_option linter.all false
set_option maxHeartbeats 40000000
set_option maxRecDepth 100000
open Go.RowKit
theorem info_fv3:(Tryz.prog.info? 243).map (fun i=>(i.zero,i.size,i.bytes))=some (some (.agg #[.int .i64 0,.int .i64 0]),2,16):=by kernel_rfl
theorem own_formT {w:World} {base:Nat} {e:TypeId} {size n:Nat} {v:Value} {xs:List Value} (h:w.ownsRow base e size v n xs):∃A cap,v=.slice A n cap∧n≤cap∧cap≤maxLen:=by
 rcases h.2 with ⟨h1,h0⟩|⟨gb,cap,cur,rfl,hg,hh,hn,hcap,hsz,htake⟩
 ·exact ⟨none,0,by rw [h1,h0],by omega,by unfold maxLen;omega⟩
 ·exact ⟨_,cap,rfl,hn,hcap⟩
theorem info_partsT {t:TypeId} {z:Option Value} {n k:Nat} (h:(Tryz.prog.info? t).map (fun i=>(i.zero,i.size,i.bytes))=some (z,n,k)):∃i,Tryz.prog.info? t=some i∧i.zero=z∧i.size=n∧i.bytes=k:=by
 cases hx:Tryz.prog.info? t with
 | none=>rw [hx] at h;simp at h
 | some i =>
  rw [hx] at h
  simp at h
  exact ⟨i,rfl,h.1,h.2.1,h.2.2⟩
section
theorem fread_any (b gb cap base:Nat) (l:List Ty) (a:Nat) (k:Int) (w:World) (H:Sl w b gb cap base l) (ha:a<l.length) :
  Calls Tryz.prog 220 #[.pointer (some ⟨b,0,none⟩),.int .i64 (a:Int),.int .i64 k] w fun e w'=>e=(if (nth ty0 l a).kind=k then .returned (fvV (nth ty0 l a)) else upE)∧Bl w w':=by
 obtain ⟨c0,c1,-⟩:=H.cells ha
 have hb:=cell_lt H.c
 have hgb:=cell_lt c0
 have hc:=H.c
 have ha0:(0:Int)≤(a:Int):=by omega
 have ha1:(a:Int)<(l.length:Int):=by omega
 have HB:Hid (Bl w (w.alloc fvZ)):=(Bl.refl w).alloc _
 have HZ:=hid (mblk (w:=w) (cs:=#[.int .i64 0,.int .i64 0]) (t:=243) rfl)
 clear H ha
 generalize nth ty0 l a=v at *
 by_cases hk:v.kind=k
 ·rw [if_pos hk]
  have HK:=hid hk
  clear hk
  go_enter Tryz.func220,Tryz.ntmps220
  go_wp2_with (go_at_call 279;refine (fmust_yes _ _ _ HK.out).mono ?_;rintro e w2 ⟨rfl,b2⟩;have B2:=hid (HB.out.trans b2);have Z2:=hid (bl_blk b2 HZ.out);have r0:=c0_of Z2.out;have r1:=c1_of Z2.out;have rf:=free_blk Z2.out;clear b2)
  refine bodyPost_ret (results_cell_row rfl _ _ w.heap.size _ _ _ _ rfl (block_set (block_set Z2.out _) _) Tryz.underlying243 rfl info_fv) rfl ?_
  exact ⟨rfl,(B2.out.setCell (Nat.le_refl _) _).setCell (Nat.le_refl _) _⟩
 ·rw [if_neg hk]
  have HK:=hid hk
  clear hk
  go_enter Tryz.func220,Tryz.ntmps220
  go_wp2_with (go_at_call 279;refine (fmust_no _ _ _ HK.out).mono ?_;rintro e w2 ⟨rfl,b2⟩)
  exact ⟨rfl,rfl,HB.out.trans b2⟩
section
variable {X:Nat→Prop} {wx w0 w1:World} {g:Gf} {b0:Nat} {w:World} {cur:As} {at':Int} {st:List (Option As)} {wt:List Int} {f:Fi} {m:Me} {rv:Nat→Value} {vw:Value} {sp:Nat→Option Nat}
theorem FA.sl (H:FA X wx w1 g b0 w cur at' st wt rv vw sp) (hl:0<cur.slots.length):∃gb cap,rv 0=.slice (some ⟨gb,0,none⟩) cur.slots.length cap∧Sl w g.p gb cap b0 cur.slots:=by
 obtain ⟨A,cap,h1,h2,h3,h4⟩:=rowCell H.row0
 rcases h4 with h4|⟨gb,rfl,h6,⟨cu,h7,-⟩,h8⟩
 ·omega
 ·refine ⟨gb,cap,h1,⟨by rw [cell_blk H.blk,←h1];rfl,fun e=>?_,by have:=H.row0;rw [h1] at this;exact this⟩⟩
  rw [←e,H.blk] at h7;simp at h7
theorem cwrite_any (H:FX X wx w1 g b0 w cur at' st wt) (hb0:w1.heap.size≤b0) (a:Nat) (v:Ty) (ha:a<cur.slots.length) (hl:cur.slots.length≤3000) (T:PairT cur.slots) (hv:v.kind=2→a+1<cur.slots.length) :
  Calls Tryz.prog 271 #[.pointer (some ⟨g.p,0,none⟩),.int .i64 (a:Int),fvV v] w fun e w'=>e=.returned (.tuple #[])∧FX X wx w1 g b0 w' ⟨wrT cur.slots a v,cur.stk⟩ at' st wt:=by
 obtain ⟨rv,vw,sp,H⟩:=H
 obtain ⟨gb,cap,h0,hs⟩:=H.sl (by omega)
 refine (fwrite_any g.p gb cap b0 cur.slots a v w hs ha hl T hv).mono ?_
 rintro e w2 ⟨rfl,s2,g2⟩
 have hob:(rv 0).ownBlock=some gb:=by rw [h0];rfl
 have hgb1:w1.heap.size≤gb:=by have:=(H.row0.lt gb hob).1;omega
 refine ⟨rfl,_,vw,sp,H.newcur (b1:=b0) (cur':=⟨wrT cur.slots a v,cur.stk⟩) (at2:=at') (v0:=rv 0) (v1:=rv 1) g2.os g2.tape g2.output g2.size (fun b hb hbp hx=>g2.block b hb (fun e=>?_)) ?_ ?_ ?_ (fun b e=>Or.inl e) (fun b e=>Or.inr (Or.inl e)) (fun b e e2=>H.sep 0 1 b (by omega) e e2)⟩
 ·have:=Option.some.inj e
  subst this
  exact (hx hgb1).1 hob
 ·exact (g2.block g.p (lt_some H.blk) (fun e=>hs.ne (Option.some.inj e))).trans H.blk
 ·have:=s2.row
  rw [wrT_length] at this
  rw [h0]
  show w2.ownsRow b0 243 2 _ (wrT cur.slots a v).length _
  rw [wrT_length]
  exact this
 ·exact H.row1.kept g2 (by
   cases h1:(rv 1).ownBlock with
   | none=>exact Or.inl rfl
   | some c=>exact Or.inr (fun e=>H.sep 0 1 c (by omega) (by rw [hob,e]) h1))
end
end
structure Rd (w:World) (ob:Nat) (l:List Ty):Prop where
 c:∀j,j<l.length→w.cell? ⟨ob,j*2,none⟩=some (.int .i64 (nth ty0 l j).kind)∧w.cell? ⟨ob,j*2+1,none⟩=some (.int .i64 (nth ty0 l j).cls)
theorem Rd.grown {w w':World} {ob gb:Nat} {l:List Ty} (h:Rd w ob l) (hg:w.grownBy w' (some gb)) (hn:ob≠gb):Rd w' ob l :=
 ⟨fun j hj=>⟨hg.cell (h.c j hj).1 (fun e=>hn (Option.some.inj e)),hg.cell (h.c j hj).2 (fun e=>hn (Option.some.inj e))⟩⟩
theorem Rd.bl {w w':World} {ob:Nat} {l:List Ty} (h:Rd w ob l) (hg:Bl w w'):Rd w' ob l:=⟨fun j hj=>⟨hg.cell (h.c j hj).1,hg.cell (h.c j hj).2⟩⟩
theorem rowRd {w:World} {base:Nat} {e:TypeId} {gb n cap:Nat} {l:List Ty} (h:w.ownsRow base e 2 (.slice (some ⟨gb,0,none⟩) n cap) l.length (tyCs l)):Rd w gb l:=by
 refine ⟨fun j hj=>?_⟩
 obtain ⟨A,c,h1,h2,h3,h4⟩:=rowCell h
 have hA:A=some ⟨gb,0,none⟩:=by injection h1 with a1 a2 a3;exact a1.symm
 rcases h4 with h4|⟨gb',h5,h6,h7,h8⟩
 ·omega
 ·rw [hA] at h5;cases h5
  exact h8 j hj
theorem rowFree {w:World} {base:Nat} {e:TypeId} {gb n cap:Nat} {l:List Ty} (h:w.ownsRow base e 2 (.slice (some ⟨gb,0,none⟩) n cap) l.length (tyCs l)) (hl:0<l.length):(∀k,w.frozen? ⟨gb,k,none⟩=false)∧gb<w.heap.size:=by
 obtain ⟨A,c,h1,h2,h3,h4⟩:=rowCell h
 have hA:A=some ⟨gb,0,none⟩:=by injection h1 with a1 a2 a3;exact a1.symm
 rcases h4 with h4|⟨gb',h5,h6,⟨cu,h7,-⟩,h8⟩
 ·omega
 ·rw [hA] at h5;cases h5
  exact ⟨fun k=>free_blk h7 k,h6⟩
theorem fmergeAll_any (cs:List Cl) (h12:cs.length≤12) (vj:Value) (gb ob cap ocap base:Nat) (a b:List Ty) (w:World) (hab:a.length=b.length) (hl:a.length≤3000) (hne:ob≠gb) (hr:w.ownsRow base 243 2 (.slice (some ⟨gb,0,none⟩) a.length cap) a.length (tyCs a)) (hO:Rd w ob b)
  (hJ:∀w',w.grownBy w' (some gb)→JnAt w' vj cs) (ha:∀t∈a,refOk cs.length t) (hb:∀t∈b,refOk cs.length t) :
  Calls Tryz.prog 316 #[vj,.slice (some ⟨gb,0,none⟩) a.length cap,.slice (some ⟨ob,0,none⟩) a.length ocap] w fun e w'=>e=.returned (.bool (lessTo cs a b a.length))∧w'.ownsRow base 243 2 (.slice (some ⟨gb,0,none⟩) a.length cap) a.length (tyCs (mergeL cs a b))∧w.grownBy w' (some gb):=by
 have HR:=hid hr
 have HO:=hid hO
 have HJ:=hid hJ
 have HA:=hid ha
 have HBb:=hid hb
 have HAB:=hid hab
 have HNE:=hid hne
 have HG0:Hid (w.grownBy w (some gb)):=⟨rfl,rfl,rfl,Nat.le_refl _,fun _ _ _=>rfl⟩
 have R0:Hid (w.ownsRow base 243 2 (.slice (some ⟨gb,0,none⟩) a.length cap) (mergeTo cs a b 0).length (tyCs (mergeTo cs a b 0))):=by show w.ownsRow _ _ _ _ _ _;rw [mergeTo_zero];exact hr
 clear hr hO hJ ha hb hab hne
 go_enter Tryz.func316,Tryz.ntmps316
 go_wp2
 go_loopw [7,12] (fun u i wr=>∃k:Nat,k≤a.length∧i=.int .i64 (k:Int)∧u=.bool (lessTo cs a b k)∧Hid (wr.ownsRow base 243 2 (.slice (some ⟨gb,0,none⟩) a.length cap) (mergeTo cs a b k).length (tyCs (mergeTo cs a b k)))∧Hid (w.grownBy wr (some gb))) (fun _ i _=>a.length-(intOf i).toNat)
 case atStart=>exact ⟨0,Nat.zero_le _,rfl,rfl,R0,HG0⟩
 case round =>
  obtain ⟨k,hk,rfl,rfl,RR,GG⟩:=hrel
  by_cases hlt:k<a.length
  ·have hml:=mergeTo_length cs a b k
   have hnk:nth ty0 (mergeTo cs a b k) k=nth ty0 a k:=by rw [mergeTo_nth cs a b k k hlt,if_neg (by omega)]
   have rc:=(rowRd RR.out).c k (by rw [hml];exact hlt)
   rw [hnk] at rc
   obtain ⟨c0,c1⟩:=rc
   obtain ⟨o0,o1⟩:=(HO.out.grown GG.out HNE.out).c k (by rw [←HAB.out];exact hlt)
   obtain ⟨fz,hgb⟩:=rowFree RR.out (by rw [hml];omega)
   have hob:=cell_lt o0
   have hk0:(0:Int)≤(k:Int):=by omega
   have hk1:(k:Int)<(a.length:Int):=by omega
   have hx:=hid (HA.out _ (nth_mem (d:=ty0) hlt))
   have hy:=hid (HBb.out _ (nth_mem (d:=ty0) (l:=b) (i:=k) (by rw [←HAB.out];exact hlt)))
   have LS:=hid (lessTo_succ cs a b k)
   have MS:=hid (mergeTo_succ cs a b k hlt)
   have MM:Hid (m1 cs (nth ty0 a k) (nth ty0 b k)=nth ty0 a k→mergeTo cs a b k=mergeTo cs a b (k+1)):=fun e=>mergeTo_same cs a b k hlt e
   have HML:=hid hml
   have HLT:=hid hlt
   clear hml hnk
   generalize nth ty0 a k=x at *
   generalize nth ty0 b k=y at *
   have hq:∀w,_:=fun w=>eql_fv x.kind x.cls y.kind y.cls w
   generalize hl0:lessTo cs a b k=l0 at *
   clear hl0
   cases he:eqT x y with
   | true =>
    have he':(decide (x.kind=y.kind)&&decide (x.cls=y.cls))=true:=he
    rw [he'] at hq
    have hm:m1 cs x y=x:=by unfold m1;rw [if_pos he]
    have L2:Hid (lessTo cs a b (k+1)=l0):=by show _=_;rw [LS.out,hm,eqT_eq.2 rfl];simp
    have M2:=hid (MM.out hm)
    clear he he' hm
    go_wp2
    go_quiet (fail)
    go_wp2
    go_roundw
    case rel=>exact ⟨k+1,by omega,by go_num,by rw [L2.out],hid (by rw [←M2.out];exact rowBl RR.out (bl_drewN ((Bl.refl _).alloc _) _)),hid (grown_bl2 GG.out (bl_drewN ((Bl.refl _).alloc _) _))⟩
    case measure=>simp [intOf];omega
   | false =>
    have he':(decide (x.kind=y.kind)&&decide (x.cls=y.cls))=false:=he
    rw [he'] at hq
    have hm:m1 cs x y=bothT cs x y:=by unfold m1;rw [if_neg (by rw [he];decide)]
    rw [hm] at LS MS
    have BB:=hid (fun (w':World) (hg:w.grownBy w' (some gb))=>both_all cs vj x y w' (HJ.out w' hg) h12 hx.out hy.out)
    clear he he' hm MM
    generalize bothT cs x y=z at *
    have hq2:∀w,_:=fun w=>neq_fv z.kind z.cls x.kind x.cls w
    have HQ2:=hid hq2
    clear hq2
    go_wp2
    go_quiet (fail)
    go_wp2
    have BV:Hid (Bl wr ((wr.alloc (.cells #[.int .i64 x.kind,.int .i64 x.cls] 243)).drewN nq)):=bl_drewN ((Bl.refl _).alloc _) _
    have hbx:Hid (((wr.alloc (.cells #[.int .i64 x.kind,.int .i64 x.cls] 243)).drewN nq).heap[wr.heap.size]?=some (.cells #[.int .i64 x.kind,.int .i64 x.cls] 243 (0,0))):=bl_blk (bl_drewN (Bl.refl _) nq) (mblk rfl)
    have n1:=hid (show wr.heap.size≠gb by omega)
    generalize (wr.alloc (.cells #[.int .i64 x.kind,.int .i64 x.cls] 243)).drewN nq=V at *
    have v0:=BV.out.cell o0
    have v1:=BV.out.cell o1
    refine wp_region_held_drew (S:=fun w'=>w'.cell? ⟨wr.heap.size,0,none⟩=some (.int .i64 x.kind)∧w'.cell? ⟨wr.heap.size,1,none⟩=some (.int .i64 x.cls)∧w'.cell? ⟨ob,k*2,none⟩=some (.int .i64 y.kind)∧w'.cell? ⟨ob,k*2+1,none⟩=some (.int .i64 y.cls)) (by kernel_rfl) ?_ (fun hHeld0=>?_)
    ·exact ⟨c0_of hbx.out,c1_of hbx.out,v0,v1⟩
    iterate 8 (refine tn rfl (by kernel_rfl) (fun _ _ _ h=>h) (by intro _ h;go_split_ands;go_simp<;>with_reducible rfl) hHeld0 ?_;try simp only [aZ])
    refine rd1 (i:=8) (by kernel_rfl) rfl fun K hK=>?_
    go_simp
    go_at_call 325
    refine (BB.out V.drew (grown_bl2 GG.out (BV.out.drew))).mono ?_
    rintro e w3 ⟨rfl,b3⟩
    have B3:Hid (Bl wr w3):=BV.out.drew.trans b3
    have X3:=hid (bl_blk ((Bl.refl V).drew.trans b3) hbx.out)
    have R3:=hid (rowBl RR.out B3.out)
    have O3:=hid (And.intro (B3.out.cell o0) (B3.out.cell o1))
    have G3:=hid (grown_bl2 GG.out B3.out)
    refine hK.out _ _ ⟨c0_of X3.out,c1_of X3.out,O3.out.1,O3.out.2⟩ (fun hHeld1=>?_)
    try simp only [aZ]
    refine tn rfl (by kernel_rfl) (fun _ _ _ h=>h) (by intro _ h;go_split_ands;go_simp<;>with_reducible rfl) hHeld1 ?_
    try simp only [aZ]
    have e0:=(B3.out.cell c0)
    have e1:=(B3.out.cell c1)
    obtain ⟨ef,hgb3⟩:=rowFree R3.out (by rw [HML.out];have:=HLT.out;omega)
    have W4:=hid (rowSet (l:=mergeTo cs a b k) (by rw [HML.out];have:=R3.out;rw [HML.out] at this;exact this) k z (by rw [HML.out];exact HLT.out))
    rw [MS.out,mergeTo_length] at W4
    have G4:=hid (grown_trans G3.out (grown2 w3 gb (k*2) (k*2+1) (.int .i64 z.kind) (.int .i64 z.cls)))
    have S4:=hid (And.intro (((grown2 w3 gb (k*2) (k*2+1) (.int .i64 z.kind) (.int .i64 z.cls)).block wr.heap.size (lt_some X3.out) (fun e=>n1.out (Option.some.inj e))).trans X3.out) (And.intro ((grown2 w3 gb (k*2) (k*2+1) (.int .i64 z.kind) (.int .i64 z.cls)).cell O3.out.1 (fun e=>HNE.out (Option.some.inj e))) ((grown2 w3 gb (k*2) (k*2+1) (.int .i64 z.kind) (.int .i64 z.cls)).cell O3.out.2 (fun e=>HNE.out (Option.some.inj e)))))
    clear b3 hHeld0 hq
    refine rd1 (i:=10) (by kernel_rfl) rfl fun K hK=>?_
    go_simp
    refine hK.out _ _ ⟨c0_of S4.out.1,c1_of S4.out.1,S4.out.2.1,S4.out.2.2⟩ (fun hHeld2=>?_)
    try simp only [aZ]
    refine wpAnyH_done (by kernel_rfl) ?_ _
    have t0:=c0_of S4.out.1
    have t1:=c1_of S4.out.1
    have hrd:nth ty0 (mergeTo cs a b (k+1)) k=z:=by
     rw [←MS.out];exact nth_set_eq (by rw [HML.out];exact HLT.out)
    have rc4:=(rowRd (n:=a.length) (cap:=cap) (l:=mergeTo cs a b (k+1)) (by rw [mergeTo_length];exact W4.out)).c k (by rw [mergeTo_length];exact HLT.out)
    rw [hrd] at rc4
    obtain ⟨s0,s1⟩:=rc4
    have hgb4:=cell_lt s0
    have hwr4:=cell_lt t0
    have hq2:=HQ2.out
    clear hHeld1 hHeld2 hrd e0 e1 ef hgb3 v0 v1 c0 c1 o0 o1 fz hgb hob
    generalize (w3.setCell ⟨gb,k*2,none⟩ (.int .i64 z.kind)).setCell ⟨gb,k*2+1,none⟩ (.int .i64 z.cls)=w4 at *
    cases hz:eqT z x with
    | true =>
     have hz':(decide (z.kind=x.kind)&&decide (z.cls=x.cls))=true:=hz
     rw [hz'] at hq2
     have L2:Hid (lessTo cs a b (k+1)=l0):=by show _=_;rw [LS.out,hz];simp
     clear hz hz'
     go_wp2
     go_quiet (fail)
     go_wp2
     go_roundw
     case rel=>exact ⟨k+1,by omega,by go_num,by rw [L2.out],hid (by rw [mergeTo_length];exact rowBl W4.out (bl_drewN (Bl.refl _) _)),hid (grown_bl2 G4.out (bl_drewN (Bl.refl _) _))⟩
     case measure=>simp [intOf];omega
    | false =>
     have hz':(decide (z.kind=x.kind)&&decide (z.cls=x.cls))=false:=hz
     rw [hz'] at hq2
     have L2:Hid (lessTo cs a b (k+1)=true):=by show _=_;rw [LS.out,hz];simp
     clear hz hz'
     go_wp2
     go_quiet (fail)
     go_wp2
     go_roundw
     case rel=>exact ⟨k+1,by omega,by go_num,by rw [L2.out],hid (by rw [mergeTo_length];exact rowBl W4.out (bl_drewN (Bl.refl _) _)),hid (grown_bl2 G4.out (bl_drewN (Bl.refl _) _))⟩
     case measure=>simp [intOf];omega
  ·have hkn:k=a.length:=by omega
   subst hkn
   have HRR:=RR
   have HGG:=GG
   go_wp2
   go_ret
   exact ⟨rfl,by have:=HRR.out;rw [mergeTo_length] at this;exact this,HGG.out⟩
def idxA (l:List Ty):Int:=match l.findIdx? (fun x=>eqT ty0 x) with
 | some i=>(i:Nat)
 | none=>-1
def hasA (l:List Ty):Bool:=l.any (fun x=>eqT ty0 x)
theorem idxA_has (l:List Ty):decide (0≤idxA l)=hasA l:=by
 unfold idxA hasA
 cases h:l.findIdx? (fun x=>eqT ty0 x) with
 | none =>
  rw [List.findIdx?_eq_none_iff] at h
  have:l.any (fun x=>eqT ty0 x)=false:=by rw [List.any_eq_false];intro x hx;rw [h x hx];decide
  rw [this];decide
 | some i =>
  rw [List.findIdx?_eq_some_iff_getElem] at h
  obtain ⟨h1,h2,-⟩:=h
  have:l.any (fun x=>eqT ty0 x)=true:=by rw [List.any_eq_true];exact ⟨l[i],List.getElem_mem h1,h2⟩
  rw [this];simp
theorem idxA_hit {l:List Ty} {k:Nat} (hk:k<l.length) (hb:∀j,j<k→eqT ty0 (nth ty0 l j)=false) (hx:eqT ty0 (nth ty0 l k)=true):idxA l=(k:Nat):=by
 have:l.findIdx? (fun x=>eqT ty0 x)=some k:=by
  rw [List.findIdx?_eq_some_iff_getElem]
  refine ⟨hk,by rw [←nth_get (d:=ty0) hk];exact hx,fun j hj=>?_⟩
  rw [←nth_get (d:=ty0) (by omega),hb j hj];decide
 unfold idxA;rw [this]
theorem idxA_no {l:List Ty} (hb:∀j,j<l.length→eqT ty0 (nth ty0 l j)=false):idxA l=-1:=by
 have:l.findIdx? (fun x=>eqT ty0 x)=none:=by
  rw [List.findIdx?_eq_none_iff]
  intro x hx
  obtain ⟨j,hj,rfl⟩:=List.getElem_of_mem hx
  rw [←nth_get (d:=ty0) hj];exact hb j hj
 unfold idxA;rw [this]
def RV (w:World) (u:Value) (l:List Ty):Prop:=∃A c,u=.slice A l.length c∧l.length≤3000∧(l.length=0∨∃ob,A=some ⟨ob,0,none⟩∧Rd w ob l)
theorem findex_any (u:Value) (l:List Ty) (w:World) (hu:RV w u l) :
  Calls Tryz.prog 326 #[u,fvV ty0] w fun e w'=>e=.returned (.int .i64 (idxA l))∧Bl w w':=by
 obtain ⟨A,c,rfl,hl,hA⟩:=hu
 have HA:=hid hA
 have HB:Hid (Bl w (w.alloc fvZ)):=(Bl.refl w).alloc _
 have HX:=hid (mblk (w:=w) (cs:=#[.int .i64 0,.int .i64 0]) (t:=243) rfl)
 clear hA
 go_enter Tryz.func326,Tryz.ntmps326
 go_wp2
 go_loopw [8] (fun i wr=>∃k:Nat,k≤l.length∧i=.int .i64 (k:Int)∧Hid (Bl (w.alloc fvZ) wr)∧Hid (∀j,j<k→eqT ty0 (nth ty0 l j)=false)) (fun i _=>l.length-(intOf i).toNat)
 case atStart=>exact ⟨0,Nat.zero_le _,rfl,hid (Bl.refl _),fun j hj=>by omega⟩
 case round =>
  obtain ⟨k,hk,rfl,BB,NN⟩:=hrel
  by_cases hlt:k<l.length
  ·rcases HA.out with h0|⟨ob,hAe,hR⟩
   ·omega
   subst hAe
   have bb:=HB.out.trans BB.out
   obtain ⟨o0,o1⟩:=(hR.bl bb).c k hlt
   have xx:=hid (bl_blk BB.out HX.out)
   have x0:=c0_of xx.out
   have x1:=c1_of xx.out
   have hob:=cell_lt o0
   have hwl:=cell_lt x0
   have hk0:(0:Int)≤(k:Int):=by omega
   have hk1:(k:Int)<(l.length:Int):=by omega
   have hq:∀w,_:=fun w=>eql_fv 0 0 (nth ty0 l k).kind (nth ty0 l k).cls w
   have HLT:=hid hlt
   clear hR bb
   cases he:eqT ty0 (nth ty0 l k) with
   | true =>
    have he':(decide ((0:Int)=(nth ty0 l k).kind)&&decide ((0:Int)=(nth ty0 l k).cls))=true:=he
    rw [he'] at hq
    have EE:=hid (idxA_hit hlt NN.out he)
    clear he he'
    generalize nth ty0 l k=y at *
    go_wp2
    go_quiet (fail)
    go_wp2
    go_ret
    exact ⟨by rw [EE.out];rfl,HB.out.trans (BB.out.trans (bl_drewN (Bl.refl _) _))⟩
   | false =>
    have he':(decide ((0:Int)=(nth ty0 l k).kind)&&decide ((0:Int)=(nth ty0 l k).cls))=false:=he
    rw [he'] at hq
    have N2:Hid (∀j,j<k+1→eqT ty0 (nth ty0 l j)=false):=fun j hj=>by
     by_cases e:j=k
     ·subst e;exact he
     ·exact NN.out j (by omega)
    clear he he'
    generalize nth ty0 l k=y at *
    go_wp2
    go_quiet (fail)
    go_wp2
    go_roundw
    case rel=>exact ⟨k+1,by omega,by go_num,hid (BB.out.trans (bl_drewN (Bl.refl _) _)),N2⟩
    case measure=>simp [intOf];omega
  ·have hkl:k=l.length:=by omega
   subst hkl
   have EE:=hid (idxA_no NN.out)
   go_wp2
   go_ret
   exact ⟨by rw [EE.out];rfl,HB.out.trans BB.out⟩
theorem fhas_any (u:Value) (l:List Ty) (w:World) (hu:RV w u l) :
  Calls Tryz.prog 317 #[u,fvV ty0] w fun e w'=>e=.returned (.bool (hasA l))∧Bl w w':=by
 have HB:Hid (Bl w (w.alloc fvZ)):=(Bl.refl w).alloc _
 have hu2:RV (w.alloc fvZ) u l:=by
  obtain ⟨A,c,h1,h2,h3⟩:=hu
  exact ⟨A,c,h1,h2,h3.elim Or.inl (fun ⟨ob,e,r⟩=>Or.inr ⟨ob,e,r.bl HB.out⟩)⟩
 have HC:=hid (findex_any u l _ hu2)
 have HI:=hid (idxA_has l)
 clear hu hu2
 generalize idxA l=z at *
 generalize hasA l=y at *
 go_enter Tryz.func317,Tryz.ntmps317
 go_wp2_with (go_at_call 326;refine HC.out.mono ?_;rintro e w2 ⟨rfl,b2⟩;have B2:=hid b2;clear b2)
 go_ret
 exact ⟨by rw [←HI.out];rfl,HB.out.trans B2.out⟩
theorem tyCs_news {w:World} {b:Nat} {l:List Ty} (h:Rd w b l):∀j u,(tyCs l)[j]?=some u→w.cell? ⟨b,0+j,none⟩=some u:=by
 intro j u hu
 have hj:j<l.length*2:=by
  rw [←tyCs_length]
  exact (List.getElem?_eq_some_iff.mp hu).1
 have hx:=va_cells (l.map tv) (j/2) (by rw [List.length_map];omega)
 have e2:nth va0 (l.map tv) (j/2)=tv (nth ty0 l (j/2)):=by
  rw [nth_get (l:=l.map tv) (by rw [List.length_map];omega),nth_get (by omega),List.getElem_map]
 rw [e2] at hx
 have hy:=h.c (j/2) (by omega)
 have hm:j=j/2*2∨j=j/2*2+1:=by omega
 have hu:(vaCells (l.map tv))[j]?=some u:=hu
 rcases hm with hm|hm
 ·rw [hm,hx.1] at hu
  rw [hm,Nat.zero_add,hy.1];exact hu
 ·rw [hm,hx.2] at hu
  rw [hm,Nat.zero_add,hy.2];exact hu
theorem tyCs_one (l:List Ty):∀u∈tyCs l,u.oneCell'=true:=fun u hu=>vaCells_one _ u hu
theorem fclone_nil (c:Nat) (w:World):Calls Tryz.prog 275 #[.slice none 0 c] w fun e w'=>e=.returned (.slice none 0 0)∧w'=w:=by
 have q:∀(w:World) (a:Option Addr) (n c n' c':Nat),(binOp .eql 164 (.slice a n c) (.slice none n' c')).run Tryz.prog w=.ok (.bool a.isNone) w:=fun w a n c n' c'=>Lib.run_eql_slice_nil w _ _ a n c n' c' Tryz.underlying164
 go_enter Tryz.func275,Tryz.ntmps275
 go_wp2
 go_ret
 exact ⟨rfl,rfl⟩
theorem fclone_some (a:Addr) (c:Nat) (l:List Ty) (w:World) (hl:l.length≤3000) (hR:∀j u,(tyCs l)[j]?=some u→w.cell? (a.add j)=some u) :
  Calls Tryz.prog 275 #[.slice (some a) l.length c] w fun e w'=>∃v',e=.returned v'∧w'.ownsRow w.heap.size 243 2 v' l.length (tyCs l)∧Bl w w':=by
 obtain ⟨i0,hi0,hz0,hz1,hz2⟩:=info_partsT info_fv3
 have HN:=hid hR
 clear hR
 have q:∀(w:World) (a:Option Addr) (n c n' c':Nat),(binOp .eql 164 (.slice a n c) (.slice none n' c')).run Tryz.prog w=.ok (.bool a.isNone) w:=fun w a n c n' c'=>Lib.run_eql_slice_nil w _ _ a n c n' c' Tryz.underlying164
 go_enter Tryz.func275,Tryz.ntmps275
 go_wp2_with (at_builtin;refine wpList_append_own _ rfl _ _ 164 rfl w.heap.size 243 i0 _ 2 16 Tryz.underlying164 hi0 hz0 hz1 hz2 rfl (by omega) _ _ _ rfl (World.ownsRow_made w #[] 0 (Nat.le_refl _) (Nat.zero_le _) (by simp)) a l.length c (tyCs l) rfl (tyCs_length l) ?qc2 (tyCs_one l) ?qc4 ?qc5 ?qc6 ?_)
 case qc2 =>
  intro j u hj
  exact Lib.cell?_alloc_some _ (HN.out j u hj)
 case qc4=>rw [Nat.zero_add];unfold maxLen;omega
 case qc5=>rw [Nat.zero_add];omega
 case qc6=>simp
 intro v' w2 hown hgrow hnil
 go_wp2
 go_ret
 refine ⟨v',rfl,by simpa using hown,?_⟩
 exact ((Below.refl _ w).alloc (Nat.le_refl _) _).grown hgrow (by simp) (by intro k hk;simp [Value.ownBlock] at hk;omega)
theorem fclone_any (u:Value) (l:List Ty) (w:World) (h:RV w u l):Calls Tryz.prog 275 #[u] w fun e w'=>∃v',e=.returned v'∧w'.ownsRow w.heap.size 243 2 v' l.length (tyCs l)∧Bl w w':=by
 obtain ⟨A,c,rfl,hl,h2⟩:=h
 rcases h2 with h0|⟨ob,rfl,hR⟩
 ·have:l=[]:=List.length_eq_zero_iff.1 h0
  subst this
  cases A with
  | none =>
   refine (fclone_nil c w).mono ?_
   rintro e w' ⟨rfl,rfl⟩
   exact ⟨_,rfl,⟨rfl,Or.inl ⟨rfl,rfl⟩⟩,Bl.refl _⟩
  | some a=>exact fclone_some a c [] w hl (fun j u hu=>by cases hu)
 ·exact fclone_some ⟨ob,0,none⟩ c l w hl (fun j u hu=>by rw [Addr.add_lit];exact tyCs_news hR j u hu)
theorem RV.bl {w w':World} {u:Value} {l:List Ty} (h:RV w u l) (b:Bl w w'):RV w' u l:=by
 obtain ⟨A,c,h1,h2,h3⟩:=h
 exact ⟨A,c,h1,h2,h3.elim Or.inl (fun ⟨ob,e,r⟩=>Or.inr ⟨ob,e,r.bl b⟩)⟩
theorem info_st:(Tryz.prog.info? 166).map (·.size)=some 2:=by kernel_rfl
structure CpQ (s:As) (v0 v1:Value) (w w':World):Prop where
 r0:w'.ownsRow w.heap.size 243 2 v0 s.slots.length (tyCs s.slots)
 r1:w'.ownsRow w.heap.size 243 2 v1 s.stk.length (tyCs s.stk)
 sep:∀c,v0.ownBlock=some c→v1.ownBlock≠some c
 bl:Bl w w'
theorem own_base {w:World} {b b':Nat} {e:TypeId} {size n:Nat} {v:Value} {xs:List Value} (h:w.ownsRow b e size v n xs) (hb:b'≤b):w.ownsRow b' e size v n xs:=by
 refine ⟨h.1,h.2.imp id ?_⟩
 rintro ⟨g,cap,cur,h1,h2,h3⟩
 exact ⟨g,cap,cur,h1,Nat.le_trans hb h2,h3⟩
theorem fcopied_any (b:Nat) (s:As) (vs vk:Value) (w:World) (hb:w.heap[b]?=some (.cells #[vs,vk] 166 (0,0))) (hs:RV w vs s.slots) (hk:RV w vk s.stk) :
  Calls Tryz.prog 218 #[.pointer (some ⟨b,0,none⟩)] w fun e w'=>∃v0 v1,e=.returned (.agg #[v0,v1])∧CpQ s v0 v1 w w':=by
 obtain ⟨A0,c0,e0,-,-⟩:=id hs
 obtain ⟨A1,c1,e1,-,-⟩:=id hk
 subst e0
 subst e1
 have HB:Hid (Bl w (w.alloc (.cells #[.slice none 0 0,.slice none 0 0] 166))):=(Bl.refl w).alloc _
 have Z:=hid (mblk (w:=w) (cs:=#[.slice none 0 0,.slice none 0 0]) (t:=166) rfl)
 have HP:=hid (bl_blk HB.out hb)
 have HS:=hid (hs.bl HB.out)
 have HK:=hid (hk.bl HB.out)
 have hbl:=lt_some HP.out
 have hb0:=lt_some hb
 have hwl:=lt_some Z.out
 clear hb hs hk
 go_enter Tryz.func218,Tryz.ntmps218
 go_wp2
 generalize w.alloc (.cells #[.slice none 0 0,.slice none 0 0] 166)=V at *
 refine wp_region_held_drew (S:=fun w'=>w'.cell? ⟨b,0,none⟩=some (.slice A0 s.slots.length c0)∧w'.cell? ⟨b,1,none⟩=some (.slice A1 s.stk.length c1)) (by kernel_rfl) ?_ (fun hHeld0=>?_)
 ·exact ⟨c0_of HP.out,c1_of HP.out⟩
 iterate 8 (refine tn rfl (by kernel_rfl) (fun _ _ _ h=>h) (by intro _ h;go_split_ands;go_simp<;>with_reducible rfl) hHeld0 ?_;try simp only [aZ])
 refine rd1 (i:=4) (by kernel_rfl) rfl fun K hK=>?_
 go_simp
 go_at_call 275
 refine (fclone_any _ _ V.drew (HS.out.bl (Bl.refl _).drew)).mono ?_
 rintro e w2 ⟨v0,rfl,o2,b2⟩
 have B2:=hid ((Bl.refl V).drew.trans b2)
 have O2:=hid o2
 have P2:=hid (bl_blk B2.out HP.out)
 clear b2 o2
 refine hK.out _ _ ⟨c0_of P2.out,c1_of P2.out⟩ (fun hHeld1=>?_)
 try simp only [aZ]
 refine rd1 (i:=9) (by kernel_rfl) rfl fun K hK=>?_
 go_simp
 go_at_call 275
 refine (fclone_any _ _ w2 (HK.out.bl B2.out)).mono ?_
 rintro e w3 ⟨v1,rfl,o3,b3⟩
 have B3:=hid b3
 have O3:=hid o3
 have P3:=hid (bl_blk B3.out P2.out)
 clear b3 o3
 refine hK.out _ _ ⟨c0_of P3.out,c1_of P3.out⟩ (fun hHeld2=>?_)
 try simp only [aZ]
 clear hHeld0 hHeld1
 have Z3:=hid (bl_blk (B2.out.trans B3.out) Z.out)
 have BV:=hid (B2.out.trans B3.out)
 have sz2:=hid B2.out.size
 have R0:Hid (w3.ownsRow V.heap.size 243 2 v0 s.slots.length (tyCs s.slots)):=rowBl (own_base O2.out (Nat.le_refl _)) B3.out
 have R1:Hid (w3.ownsRow V.heap.size 243 2 v1 s.stk.length (tyCs s.stk)):=own_base O3.out sz2.out
 have SP:Hid (∀c,v0.ownBlock=some c→v1.ownBlock≠some c):=fun c x y=>by
  have l1:=(O2.out.lt c x).2
  have l2:=(O3.out.lt c y).1
  omega
 clear O2 O3 B2 B3 P2 P3 sz2
 as_aux_lemma =>
 obtain ⟨a2,q2,rfl,-,-⟩:=own_formT R0.out
 obtain ⟨a3,q3,rfl,-,-⟩:=own_formT R1.out
 have z0:=c0_of Z3.out
 have z1:=c1_of Z3.out
 have f0:=free_blk Z3.out 0
 have f1:=free_blk Z3.out 1
 refine tn rfl (by kernel_rfl) (fun _ _ _ h=>h) (by intro _ h;go_split_ands;go_simp<;>with_reducible rfl) hHeld2 ?_
 try simp only [aZ]
 refine rd1 (i:=11) (by kernel_rfl) rfl fun K hK=>?_
 go_simp
 have n1:¬b=w.heap.size:=by omega
 have hc:∀i v,w3.cell? ⟨b,i,none⟩=some v→((w3.setCell ⟨w.heap.size,0,none⟩ (.slice a2 s.slots.length q2)).setCell ⟨w.heap.size,1,none⟩ (.slice a3 s.stk.length q3)).cell? ⟨b,i,none⟩=some v:=fun i v h=>by
  rw [World.cell?_of_block (block_far n1 _),World.cell?_of_block (block_far n1 _)];exact h
 refine hK.out _ _ ⟨hc _ _ hHeld2.1,hc _ _ hHeld2.2⟩ (fun hHeld3=>?_)
 clear hc z0 z1 f0 f1 hHeld2 hHeld3 hK n1
 try simp only [aZ]
 refine wpAnyH_done (by kernel_rfl) ?_ _
 go_wp2
 refine bodyPost_ret (results_cell_row rfl _ _ w.heap.size _ _ _ _ rfl (set_two Z3.out) Tryz.underlying166 rfl info_st) rfl ?_
 have hg:=grown_trans (grown_set (w:=w3) w.heap.size 0 (.slice a2 s.slots.length q2)) (grown_set w.heap.size 1 (.slice a3 s.stk.length q3))
 exact ⟨_,_,rfl,own_base (R0.out.kept hg (Or.inr (fun e=>by have:=(R0.out.lt _ e).1;omega))) HB.out.size,own_base (R1.out.kept hg (Or.inr (fun e=>by have:=(R1.out.lt _ e).1;omega))) HB.out.size,SP.out,bl_two (HB.out.trans BV.out) (Nat.le_refl _) _ _⟩
theorem argsT_snoc:∀(l:List Ty) (l0:List Ty) (at':Nat) (v:Ty),argsT l0 at' (l++[v])=wrT (argsT l0 at' l) (at'+slotsN l) v
 | [],l0,at',v=>by simp [argsT,slotsN]
 | x::l,l0,at',v=>by
  show argsT (wrT l0 at' x) (at'+slotsN [x]) (l++[v])=wrT (argsT (wrT l0 at' x) (at'+slotsN [x]) l) (at'+slotsN (x::l)) v
  rw [argsT_snoc l,Nat.add_assoc]
  congr 2
theorem argsT_length:∀(l:List Ty) (l0:List Ty) (at':Nat),(argsT l0 at' l).length=l0.length
 | [],l0,at'=>rfl
 | x::l,l0,at'=>by
  show (argsT (wrT l0 at' x) (at'+slotsN [x]) l).length=_
  rw [argsT_length l,wrT_length]
theorem slotsT_ge:∀(l:List Ty),l.length≤slotsN l
 | []=>Nat.le_refl _
 | x::l=>by have:=slotsT_ge l;show l.length+1≤(if x.kind=2 then 2 else 1)+slotsN l;split<;>omega
theorem argsT_pair:∀(l:List Ty) (l0:List Ty) (at':Nat),PairT l0→(∀t∈l,t.kind≠4)→at'+slotsN l≤l0.length→PairT (argsT l0 at' l)
 | [],l0,at',P,_,_=>P
 | x::l,l0,at',P,h4,hs=>by
  have e:slotsN (x::l)=(if x.kind=2 then 2 else 1)+slotsN l:=rfl
  have e1:slotsN [x]=(if x.kind=2 then 2 else 1):=rfl
  rw [e] at hs
  refine argsT_pair l _ _ (wrT_pair P (by split at hs<;>omega) (fun k=>by rw [if_pos k] at hs;omega) (h4 x (List.mem_cons_self ..))) (fun t ht=>h4 t (List.mem_cons_of_mem _ ht)) ?_
  rw [wrT_length,e1]
  omega
theorem takeT_snoc {l:List Ty} {k:Nat} (h:k<l.length):l.take (k+1)=l.take k++[nth ty0 l k]:=by
 rw [List.take_add_one,nth_get h];simp [List.getElem?_eq_getElem h]
theorem slots_takeLe (l:List Ty) (n:Nat):slotsN (l.take n)≤slotsN l:=by
 have:=slots_app (l.take n) (l.drop n)
 rw [List.take_append_drop] at this
 omega
theorem rep_atF:∀(k j:Nat),j<k*2→(tyCs (List.replicate k ty0))[j]?=some (.int .i64 0)
 | 0,j,h=>by omega
 | k+1,0,_=>by rw [List.replicate_succ];rfl
 | k+1,1,_=>by rw [List.replicate_succ];rfl
 | k+1,j+2,h=>by
  rw [List.replicate_succ]
  show (tyCs (List.replicate k ty0))[j]?=_
  exact rep_atF k j (by omega)
theorem made_fv (k:Nat):madeCells #[.int .i64 0,.int .i64 0] (k*2)=(tyCs (List.replicate k ty0)).toArray:=by
 apply Array.ext_getElem?
 intro j
 by_cases hj:j<k*2
 ·have h2:=rep_atF k j hj
  simp only [List.getElem?_toArray,h2]
  unfold madeCells
  have hm:j%2=0∨j%2=1:=by omega
  rcases hm with hm|hm<;>simp [hj,hm]
 ·rw [Array.getElem?_eq_none (by rw [size_madeCells];omega),Array.getElem?_eq_none (by simp [tyCs_length];omega)]
theorem make_fv (n:Nat) (hn:n≤1000000) (u:World):(Instr.makeSlice 164 (.int .i64 (n:Int)) (.int .i64 (n:Int))).run Tryz.prog u=.ok (.slice (some ⟨u.heap.size,0,none⟩) n n) (u.alloc (.cells (tyCs (List.replicate n ty0)).toArray 243)):=by
 obtain ⟨i,hi,hz,hs,hb⟩:=info_partsT info_fv3
 have h:=run_make u 164 243 i _ Tryz.underlying164 hi hz .i64 .i64 (n:Int) (n:Int) (by omega) (Int.le_refl _) (by rw [hb];omega) (by omega)
 rw [hs] at h
 simp only [Int.toNat_natCast] at h
 rw [←made_fv]
 exact h
theorem own_new (w:World) (l:List Ty) (hl:l.length≤maxLen):(w.alloc (.cells (tyCs l).toArray 243)).ownsRow w.heap.size 243 2 (.slice (some ⟨w.heap.size,0,none⟩) l.length l.length) l.length (tyCs l):=by
 refine ⟨tyCs_length l,Or.inr ⟨w.heap.size,l.length,(tyCs l).toArray,rfl,Nat.le_refl _,mblk rfl,Nat.le_refl _,hl,by simp [tyCs_length],?_⟩⟩
 rw [←tyCs_length l]
 simp
structure NsQ (N:Nat) (l:List Ty) (v:Value) (w w':World):Prop where
 own:w'.ownsRow w.heap.size 243 2 v N (tyCs l)
 len:l.length=N
 bl:Bl w w'
theorem ty_width {t:Ty} (h:1≤t.kind∧t.kind≤3):widI t.kind=((if t.kind=2 then 2 else 1:Nat):Int):=by unfold widI;rw [if_neg (by omega)];split<;>rfl
structure NsI (N:Nat) (l:List Ty) (w wr:World):Prop where
 bl:Bl w wr
 sl:Sl wr (w.heap.size+1+1) (w.heap.size+1) N w.heap.size l
 len:l.length=N
 z:wr.heap[w.heap.size]?=some (.cells #[.slice none 0 0,.slice none 0 0] 166 (0,0))
 s:wr.heap[w.heap.size+1+1]?=some (.cells #[.slice (some ⟨w.heap.size+1,0,none⟩) N N,.slice none 0 0] 166 (0,0))
theorem NsI.new (N:Nat) (w:World) (hN:N≤3000):NsI N (List.replicate N ty0) w (((w.alloc (.cells #[.slice none 0 0,.slice none 0 0] 166)).alloc (.cells (tyCs (List.replicate N ty0)).toArray 243)).alloc (.cells #[.slice (some ⟨w.heap.size+1,0,none⟩) N N,.slice none 0 0] 166)):=by
 have hb:=mblk (w:=(w.alloc (.cells #[.slice none 0 0,.slice none 0 0] 166)).alloc (.cells (tyCs (List.replicate N ty0)).toArray 243)) (cs:=#[.slice (some ⟨w.heap.size+1,0,none⟩) N N,.slice none 0 0]) (t:=166) rfl
 have e:((w.alloc (.cells #[.slice none 0 0,.slice none 0 0] 166)).alloc (.cells (tyCs (List.replicate N ty0)).toArray 243)).heap.size=w.heap.size+1+1:=by simp
 have e1:(w.alloc (.cells #[.slice none 0 0,.slice none 0 0] 166)).heap.size=w.heap.size+1:=by simp
 rw [e] at hb
 have ho:=own_new (w.alloc (.cells #[.slice none 0 0,.slice none 0 0] 166)) (List.replicate N ty0) (by rw [List.length_replicate];unfold maxLen;omega)
 rw [e1,List.length_replicate] at ho
 refine ⟨(((Bl.refl w).alloc _).alloc _).alloc _,⟨?_,by omega,?_⟩,List.length_replicate,?_,hb⟩
 ·rw [List.length_replicate];exact c0_of hb
 ·rw [List.length_replicate];exact own_base (rowBl ho ((Bl.refl _).alloc _)) (by omega)
 ·exact bl_blk (((Bl.refl _).alloc _).alloc _) (mblk rfl)
theorem fnewst_any (N:Nat) (ts:List Ty) (P:Option Addr) (pc:Nat) (w:World) (hP:TysAt w P ts) (hN:N≤3000) (hfit:slotsN ts≤N) (hk:∀t∈ts,1≤t.kind∧t.kind≤3) :
  Calls Tryz.prog 212 #[.int .i64 (N:Int),.slice P ts.length pc] w fun e w'=>∃v,e=.returned (.agg #[v,.slice none 0 0])∧NsQ N (argsT (List.replicate N ty0) 0 ts) v w w':=by
 have hlen:ts.length≤N:=by have:=slotsT_ge ts;omega
 have hmk:=make_fv N (by omega)
 have HP:=hid hP
 have HK:=hid hk
 have HFIT:=hid hfit
 have HS:=hid (NsI.new N w hN)
 clear hP hk hfit
 go_enter Tryz.func212,Tryz.ntmps212
 go_wp2
 go_loopw [6,14] (fun at' i wr=>∃j:Nat,j≤ts.length∧i=.int .i64 j∧at'=.int .i64 ((slotsN (ts.take j):Nat):Int)∧Hid (NsI N (argsT (List.replicate N ty0) 0 (ts.take j)) w wr)) (fun _ i _=>ts.length-(intOf i).toNat)
 case atStart=>exact ⟨0,Nat.zero_le _,rfl,by simp [slotsN],HS.out⟩
 case round =>
  clear HS hmk
  obtain ⟨j,hj,rfl,rfl,HR⟩:=hrel
  by_cases hjl:j<ts.length
  ·rcases HP.out.2 with h0|⟨tb,to,rfl,ht⟩
   ·omega
   obtain ⟨x0,x1,-,-⟩:=ht j hjl
   have x0:=HR.out.bl.cell x0
   have x1:=HR.out.bl.cell x1
   have hx:=cell_lt x0
   have ets:=takeT_snoc hjl
   have hv:=HK.out _ (nth_mem (d:=ty0) hjl)
   have hP4:PairT (argsT (List.replicate N ty0) 0 (ts.take j)):=argsT_pair _ _ _ (rep_pairT N) (fun t ht=>by have:=HK.out t (List.mem_of_mem_take ht);omega) (by rw [List.length_replicate];have:=slots_takeLe ts j;have:=HFIT.out;omega)
   have HP4:=hid hP4
   generalize hV:nth ty0 ts j=v at *
   have hsz:slotsN (ts.take (j+1))=slotsN (ts.take j)+(if v.kind=2 then 2 else 1):=by rw [ets,slots_app];rfl
   have hle:slotsN (ts.take (j+1))≤N:=Nat.le_trans (slots_takeLe ts _) HFIT.out
   have hwd:=ty_width hv
   have HSZ:=hid hsz
   have hlt:slotsN (ts.take j)<N:=by split at hsz<;>omega
   have h2:v.kind=2→slotsN (ts.take j)+1<N:=fun e=>by rw [if_pos e] at hsz;omega
   have HETS:=hid ets
   have HV:=hid hv
   have H2:=hid h2
   have HLT:=hid hlt
   obtain ⟨S,hS⟩:∃S,slotsN (ts.take j)=S:=⟨_,rfl⟩
   have HSE:=hid hS
   obtain ⟨W,hW⟩:∃W,widI v.kind=W:=⟨_,rfl⟩
   have HW:=hid (hW.symm.trans hwd)
   have hWb:0≤W∧W≤2:=by rw [←hW];exact widI_bounds _
   rw [hS]
   rw [hS] at hlt
   have hk0:¬(j:Int)<0:=by omega
   have hk1:(j:Int)<(ts.length:Int):=by omega
   have BA:Hid (Bl wr (wr.alloc (.cells #[.int .i64 v.kind,.int .i64 v.cls] 46))):=(Bl.refl wr).alloc _
   have HBN:=hid (mblk (w:=wr) (cs:=#[.int .i64 v.kind,.int .i64 v.cls]) (t:=46) rfl)
   have HNE:Hid (w.heap.size+1+1<wr.heap.size):=lt_some HR.out.s
   clear hsz hle hwd h2 ets hv hV hS hP4 ht
   go_wp2_with (first
    | (go_at_call 271;refine (fwrite_any (w.heap.size+1+1) (w.heap.size+1) N w.heap.size (argsT (List.replicate N ty0) 0 (ts.take j)) S v _ (HR.out.sl.bl BA.out) (by rw [HR.out.len];exact hlt) (by rw [HR.out.len];exact hN) HP4.out (by rw [HR.out.len,←HSE.out];exact H2.out)).mono ?_;rintro e w1 ⟨rfl,L1,G1⟩;have y0:=c0_of ((G1.block _ (lt_some HBN.out) (fun e=>by have:=HNE.out;have:=Option.some.inj e;omega)).trans HBN.out);have hy:=cell_lt y0;have L1:=hid L1;have G1:=hid G1)
    | (go_at_call 133;refine (width_any _ _).mono ?_;rintro e w2 ⟨he,hw2⟩;rw [hW] at he;subst he;rw [hw2];clear hw2 w2))
   go_roundw
   case rel =>
    have hS:=HSE.out
    have hsz:=HSZ.out
    have hWW:=HW.out
    have kp:∀b o,wr.heap[b]?=some o→b≠w.heap.size+1→w1.heap[b]?=some o:=fun b o hb hn=>(G1.out.block b (lt_some (bl_blk BA.out hb)) (fun e=>hn (Option.some.inj e))).trans (bl_blk BA.out hb)
    refine ⟨j+1,by omega,by go_num,?_,?_,?_,?_,kp _ _ HR.out.z (by omega),kp _ _ HR.out.s (by omega)⟩
    ·rw [hsz,hS,hWW];simp
    ·exact Below.grown (HR.out.bl.trans BA.out) G1.out (HR.out.bl.trans BA.out).size (fun k hk=>by cases hk;omega)
    ·rw [HETS.out,argsT_snoc,Nat.zero_add,hS];exact L1.out
    ·rw [argsT_length,List.length_replicate]
   case measure=>simp [intOf];omega
  ·obtain rfl:j=ts.length:=by omega
   have z0:=cell_blk (i:=0) HR.out.z
   have z1:=cell_blk (i:=1) HR.out.z
   have s0:=c0_of HR.out.s
   have s1:=c1_of HR.out.s
   have hz:=lt_some HR.out.z
   have hs:=lt_some HR.out.s
   have fz:=free_blk HR.out.z
   go_wp2
   refine bodyPost_ret (results_cell_row rfl _ _ w.heap.size _ _ _ _ rfl (set_two HR.out.z) Tryz.underlying166 rfl info_st) rfl ?_
   have hr:=HR.out.sl.row
   have hl:=HR.out.len
   rw [List.take_length] at hr hl
   rw [hl] at hr
   have hg:=grown2 wr w.heap.size 0 1 (.slice (some ⟨w.heap.size+1,0,none⟩) N N) (.slice none 0 0)
   exact ⟨_,rfl,hr.kept hg (Or.inr (fun e=>by simp [Value.ownBlock] at e)),hl,bl_two HR.out.bl (Nat.le_refl _) _ _⟩
theorem info_int3:(Tryz.prog.info? 3).map (fun i=>(i.zero,i.size,i.bytes))=some (some (.int .i64 0),1,8):=by kernel_rfl
theorem info_ints3:(Tryz.prog.info? 56).map (fun i=>(i.zero,i.size,i.bytes))=some (some (.slice none 0 0),1,24):=by kernel_rfl
theorem make_ints (n:Nat) (hn:n≤3000) (u:World):(Instr.makeSlice 56 (.int .i64 (n:Int)) (.int .i64 (n:Int))).run Tryz.prog u=.ok (.slice (some ⟨u.heap.size,0,none⟩) n n) (u.alloc (.cells (madeCells #[.int .i64 0] n) 3)):=by
 obtain ⟨i,hi,hz,hs,hb⟩:=info_partsT info_int3
 have h:=run_make u 56 3 i _ Tryz.underlying56 hi hz .i64 .i64 (n:Int) (n:Int) (by omega) (Int.le_refl _) (by rw [hb];omega) (by omega)
 rw [hs] at h
 simp only [Int.toNat_natCast,Nat.mul_one] at h
 exact h
theorem make_rows (n:Nat) (hn:n≤3000) (u:World):(Instr.makeSlice 274 (.int .i64 (n:Int)) (.int .i64 (n:Int))).run Tryz.prog u=.ok (.slice (some ⟨u.heap.size,0,none⟩) n n) (u.alloc (.cells (madeCells #[.slice none 0 0] n) 56)):=by
 obtain ⟨i,hi,hz,hs,hb⟩:=info_partsT info_ints3
 have h:=run_make u 274 56 i _ Tryz.underlying274 hi hz .i64 .i64 (n:Int) (n:Int) (by omega) (Int.le_refl _) (by rw [hb];omega) (by omega)
 rw [hs] at h
 simp only [Int.toNat_natCast,Nat.mul_one] at h
 exact h
structure JI (l:List Cl) (w wr:World) (jb q:Nat) (R:Nat→Nat):Prop where
 bl:Bl w wr
 lo:w.heap.size≤jb
 blk:∃cs:Array Value,wr.heap[jb]?=some (.cells cs 56 (0,0))∧cs.size=l.length
 row:∀i,i<q→w.heap.size≤R i∧R i≠jb∧R i<wr.heap.size∧wr.cell? ⟨jb,i,none⟩=some (.slice (some ⟨R i,0,none⟩) l.length l.length)∧∀j,j<l.length→wr.cell? ⟨R i,j,none⟩=some (.int .i64 (joinN l i j:Nat))
theorem JI.ext {l:List Cl} {w wr wr':World} {jb q:Nat} {R:Nat→Nat} (J:JI l w wr jb q R) (h:Bl wr wr'):JI l w wr' jb q R:=by
 obtain ⟨cs,h1,h2⟩:=J.blk
 exact ⟨J.bl.trans h,J.lo,⟨cs,bl_blk h h1,h2⟩,fun i hi=>⟨(J.row i hi).1,(J.row i hi).2.1,Nat.lt_of_lt_of_le (J.row i hi).2.2.1 h.size,h.cell (J.row i hi).2.2.2.1,fun j hj=>h.cell ((J.row i hi).2.2.2.2 j hj)⟩⟩
structure JJ (l:List Cl) (w wr:World) (jb q:Nat) (R:Nat→Nat) (rb p:Nat):Prop where
 ji:JI l w wr jb q R
 lo:w.heap.size≤rb
 ne:rb≠jb
 nr:∀i,i<q→R i≠rb
 c:wr.cell? ⟨jb,q,none⟩=some (.slice (some ⟨rb,0,none⟩) l.length l.length)
 blk:∃cs:Array Value,wr.heap[rb]?=some (.cells cs 3 (0,0))∧cs.size=l.length
 cell:∀j,j<p→wr.cell? ⟨rb,j,none⟩=some (.int .i64 (joinN l q j:Nat))
theorem cell_setI {w:World} {b i:Nat} {cs:Array Value} {t:TypeId} (h:w.heap[b]?=some (.cells cs t (0,0))) (hi:i<cs.size) (v:Value):(w.setCell ⟨b,i,none⟩ v).cell? ⟨b,i,none⟩=some v:=by
 rw [cell_blk (block_set h v)]
 simp [hi]
theorem cell_setN {w:World} {b i j:Nat} {cs:Array Value} {t:TypeId} (h:w.heap[b]?=some (.cells cs t (0,0))) (hij:i≠j) (v:Value):(w.setCell ⟨b,i,none⟩ v).cell? ⟨b,j,none⟩=w.cell? ⟨b,j,none⟩:=by
 rw [cell_blk (block_set h v),cell_blk h]
 simp [hij]
theorem JJ.ext {l:List Cl} {w wr wr':World} {jb q rb p:Nat} {R:Nat→Nat} (J:JJ l w wr jb q R rb p) (h:Bl wr wr'):JJ l w wr' jb q R rb p:=by
 obtain ⟨cs,h1,h2⟩:=J.blk
 exact ⟨J.ji.ext h,J.lo,J.ne,J.nr,h.cell J.c,⟨cs,bl_blk h h1,h2⟩,fun j hj=>h.cell (J.cell j hj)⟩
theorem JI.lay {l:List Cl} {w wr:World} {jb q:Nat} {R:Nat→Nat} (J:JI l w wr jb q R) (hq:q<l.length):JJ l w ((wr.setCell ⟨jb,q,none⟩ (.slice (some ⟨wr.heap.size,0,none⟩) l.length l.length)).alloc (.cells (madeCells #[.int .i64 0] l.length) 3)) jb q R wr.heap.size 0:=by
 obtain ⟨cs,h1,h2⟩:=J.blk
 have hjl:=lt_some h1
 have es:(wr.setCell ⟨jb,q,none⟩ (.slice (some ⟨wr.heap.size,0,none⟩) l.length l.length)).heap.size=wr.heap.size:=by simp
 have B:Bl (wr.setCell ⟨jb,q,none⟩ (.slice (some ⟨wr.heap.size,0,none⟩) l.length l.length)) ((wr.setCell ⟨jb,q,none⟩ (.slice (some ⟨wr.heap.size,0,none⟩) l.length l.length)).alloc (.cells (madeCells #[.int .i64 0] l.length) 3)):=(Bl.refl _).alloc _
 refine ⟨JI.ext (wr:=wr.setCell ⟨jb,q,none⟩ (.slice (some ⟨wr.heap.size,0,none⟩) l.length l.length)) ⟨J.bl.setCell J.lo _,J.lo,⟨_,block_set h1 _,by simp [h2]⟩,fun i hi=>?_⟩ B,J.bl.size,by omega,fun i hi=>by have:=(J.row i hi).2.2.1;omega,B.cell (cell_setI h1 (by omega) _),⟨madeCells #[.int .i64 0] l.length,mblk es.symm,by rw [size_madeCells]⟩,fun j hj=>by omega⟩
 obtain ⟨a1,a2,a3,a4,a5⟩:=J.row i hi
 refine ⟨a1,a2,by rw [es];exact a3,?_,fun j hj=>?_⟩
 ·rw [cell_setN h1 (by omega)];exact a4
 ·rw [World.cell?_of_block (block_far a2 _)];exact a5 j hj
theorem JJ.set {l:List Cl} {w wr:World} {jb q rb p:Nat} {R:Nat→Nat} (J:JJ l w wr jb q R rb p) (hp:p<l.length):JJ l w (wr.setCell ⟨rb,p,none⟩ (.int .i64 (joinN l q p:Nat))) jb q R rb (p+1):=by
 obtain ⟨cs,h1,h2⟩:=J.blk
 obtain ⟨cs2,k1,k2⟩:=J.ji.blk
 have nj:jb≠rb:=fun e=>J.ne e.symm
 have es:(wr.setCell ⟨rb,p,none⟩ (.int .i64 (joinN l q p:Nat))).heap.size=wr.heap.size:=by simp
 refine ⟨⟨J.ji.bl.setCell J.lo _,J.ji.lo,⟨cs2,(block_far nj _).trans k1,k2⟩,fun i hi=>?_⟩,J.lo,J.ne,J.nr,?_,⟨_,block_set h1 _,by simp [h2]⟩,fun j hj=>?_⟩
 ·obtain ⟨a1,a2,a3,a4,a5⟩:=J.ji.row i hi
  refine ⟨a1,a2,by rw [es];exact a3,?_,fun j hj=>?_⟩
  ·rw [World.cell?_of_block (block_far nj _)];exact a4
  ·rw [World.cell?_of_block (block_far (J.nr i hi) _)];exact a5 j hj
 ·rw [World.cell?_of_block (block_far nj _)];exact J.c
 ·by_cases e:p=j
  ·subst e;exact cell_setI h1 (by omega) _
  ·rw [cell_setN h1 e];exact J.cell j (by omega)
theorem JJ.done {l:List Cl} {w wr:World} {jb q rb:Nat} {R:Nat→Nat} (J:JJ l w wr jb q R rb l.length):JI l w wr jb (q+1) (fun i=>if i=q then rb else R i):=by
 obtain ⟨cs,h1,h2⟩:=J.blk
 refine ⟨J.ji.bl,J.ji.lo,J.ji.blk,fun i hi=>?_⟩
 split
 ·rename_i e;subst e;exact ⟨J.lo,J.ne,lt_some h1,J.c,J.cell⟩
 ·exact J.ji.row i (by omega)
theorem JI.new {l:List Cl} {w w1:World} (h:Bl w w1):JI l w (w1.alloc (.cells (madeCells #[.slice none 0 0] l.length) 56)) w1.heap.size 0 (fun _=>0) :=
 ⟨h.alloc _,h.size,⟨_,mblk rfl,by rw [size_madeCells]⟩,fun i hi=>by omega⟩
def JnQ (l:List Cl) (w:World) (e:Ending) (w':World):Prop:=∃jb R,e=.returned (.slice (some ⟨jb,0,none⟩) l.length l.length)∧JI l w w' jb l.length R
theorem joins_any (A:Option Addr) (c:Nat) (l:List Cl) (w:World) (hm:mayB l=true) (hl:ClsAt w A l) :
  Calls Tryz.prog 213 #[.slice A l.length c] w fun e w'=>JnQ l w e w':=by
 obtain ⟨ht,-,h12⟩:=may_tree hm
 have HL:=hid hl
 have HM:=hid hm
 have HT:=hid ht
 have mk1:=make_rows l.length (by omega)
 have mk2:=make_ints l.length (by omega)
 clear hl hm ht
 go_enter Tryz.func213,Tryz.ntmps213
 go_wp2_with (go_at_call 62;refine (may_any _ _ _ _ HL.out).mono ?_;rintro e w1 ⟨he,b1⟩;rw [HM.out] at he;subst he;have J0:=hid (JI.new (l:=l) b1);clear b1)
 obtain ⟨jb,hjb⟩:∃jb,jb=w1.heap.size:=⟨_,rfl⟩
 rw [←hjb] at J0 ⊢
 clear mk1
 go_loopw [14] (fun i wr=>∃(q:Nat) (R:Nat→Nat),q≤l.length∧i=.int .i64 q∧Hid (JI l w wr jb q R)) (fun i _=>l.length-(intOf i).toNat)
 case atStart=>exact ⟨0,_,Nat.zero_le _,rfl,J0.out⟩
 case round =>
  clear J0 hjb
  obtain ⟨q,R,hq,rfl,HR⟩:=hrel
  rename World=>w0
  by_cases hql:q<l.length
  ·have hq0:¬(q:Int)<0:=by omega
   have hq1:(q:Int)<(l.length:Int):=by omega
   have hq2:(0:Int)≤(q:Int):=by omega
   obtain ⟨cs,hb1,hb2⟩:=HR.out.blk
   have hjl:=lt_some hb1
   have fz:=free_blk hb1
   have hcq:∃v,w0.cell? ⟨jb,q,none⟩=some v:=⟨_,(cell_blk hb1).trans (Array.getElem?_eq_getElem (by omega))⟩
   obtain ⟨vq,hvq⟩:=hcq
   have J1:=hid (HR.out.lay hql)
   clear hb1 hb2
   go_wp2
   obtain ⟨rb,hrb⟩:∃rb,rb=w0.heap.size:=⟨_,rfl⟩
   rw [←hrb] at J1 ⊢
   clear mk2 hjl fz hvq vq
   go_loopw [25] (fun i wr2=>∃p:Nat,p≤l.length∧i=.int .i64 p∧Hid (JJ l w wr2 jb q R rb p)) (fun i _=>l.length-(intOf i).toNat)
   case atStart=>exact ⟨0,Nat.zero_le _,rfl,J1.out⟩
   case round =>
    clear J1 hrb
    obtain ⟨p,hp,rfl,HJ⟩:=hrel
    by_cases hpl:p<l.length
    ·have hp0:¬(p:Int)<0:=by omega
     have hp1:(p:Int)<(l.length:Int):=by omega
     have hp2:(0:Int)≤(p:Int):=by omega
     have c0:=HJ.out.c
     have hc0:=cell_lt c0
     go_wp2
     refine wp_region_held_drew (S:=fun w'=>w'.cell? ⟨jb,q,none⟩=some (.slice (some ⟨rb,0,none⟩) l.length l.length)) (by kernel_rfl) ?_ (fun hHeld0=>?_)
     ·exact c0
     iterate 8 (refine tn rfl (by kernel_rfl) (fun _ _ _ h=>h) (by intro _ h;go_split_ands;go_simp<;>with_reducible rfl) hHeld0 ?_;try simp only [aZ])
     refine rd1 (i:=8) (by kernel_rfl) rfl fun K hK=>?_
     go_simp
     go_at_call 272
     refine (join_any A c l q p HT.out hql hpl _ (HL.out.bl (HJ.out.ji.bl.trans (Bl.refl _).drew))).mono ?_
     rintro e w5 ⟨rfl,b5⟩
     have J5:=hid (HJ.out.ext ((Bl.refl _).drew.trans b5))
     clear b5
     obtain ⟨cs5,k1,k2⟩:=J5.out.blk
     have hl5:=lt_some k1
     have fz5:=free_blk k1
     have hc5:∃v,w5.cell? ⟨rb,p,none⟩=some v:=⟨_,(cell_blk k1).trans (Array.getElem?_eq_getElem (by omega))⟩
     obtain ⟨v5,hv5⟩:=hc5
     have J6:=hid (J5.out.set hpl)
     clear k1 k2
     refine hK.out _ _ J5.out.c (fun hHeld1=>?_)
     try simp only [aZ]
     clear hK
     refine tn rfl (by kernel_rfl) (fun _ _ _ h=>h) (by intro _ h;go_split_ands;go_simp<;>with_reducible rfl) hHeld1 ?_
     try simp only [aZ]
     refine rd1 (i:=10) (by kernel_rfl) rfl fun K hK=>?_
     go_simp
     refine hK.out _ _ J6.out.c (fun hHeld2=>?_)
     try simp only [aZ]
     clear hK hHeld0 hHeld1 hHeld2 fz5 hv5 v5 hl5
     refine wpAnyH_done (by kernel_rfl) ?_ _
     go_wp2
     go_roundw
     case rel=>exact ⟨p+1,by omega,by go_num,J6.out⟩
     case measure=>simp [intOf];omega
    ·obtain rfl:p=l.length:=by omega
     have J9:=hid HJ.out.done
     go_wp2
     go_roundw
     case rel=>exact ⟨q+1,_,by omega,by go_num,J9.out⟩
     case measure=>simp [intOf];omega
  ·obtain rfl:q=l.length:=by omega
   go_wp2
   go_ret
   exact ⟨jb,R,rfl,HR.out⟩
section
open Go.Shelf
def lay25_ren:Ren:=⟨fun|25=>318|31=>327|32=>328|37=>333|n=>n,fun|22=>56|3=>3|4=>4|40=>343|0=>0|n=>n,fun|n=>n⟩
theorem lay25:Lays2.n25 Tryz.prog lay25_ren:={
 mixed:=by kernel_rfl
 f25:=Tryz.func318.trans (congrArg some (by kernel_rfl))
 f31:=Tryz.func327.trans (congrArg some (by kernel_rfl))
 f32:=Tryz.func328.trans (congrArg some (by kernel_rfl))
 f37:=Tryz.func333.trans (congrArg some (by kernel_rfl))
 t0:=Tryz.underlying0
 a0:=Tryz.isAgg0
 z0:=Tryz.sizeOf0
 v0:=Tryz.zeroValue0
 t3:=Tryz.underlying3
 a3:=Tryz.isAgg3
 z3:=Tryz.sizeOf3
 v3:=Tryz.zeroValue3
 t4:=Tryz.underlying4
 a4:=Tryz.isAgg4
 z4:=Tryz.sizeOf4
 v4:=Tryz.zeroValue4
 t22:=Tryz.underlying56
 a22:=Tryz.isAgg56
 z22:=Tryz.sizeOf56
 v22:=Tryz.zeroValue56
 t40:=Tryz.underlying343
 a40:=Tryz.isAgg343
 z40:=Tryz.sizeOf343
 v40:=Tryz.zeroValue343 }
def lay23_ren:Ren:=⟨fun|23=>217|n=>n,fun|22=>56|3=>3|4=>4|0=>0|n=>n,fun|n=>n⟩
theorem lay23:Lays2.n23 Tryz.prog lay23_ren:={
 mixed:=by kernel_rfl
 f23:=Tryz.func217.trans (congrArg some (by kernel_rfl))
 t0:=Tryz.underlying0
 a0:=Tryz.isAgg0
 z0:=Tryz.sizeOf0
 v0:=Tryz.zeroValue0
 t3:=Tryz.underlying3
 a3:=Tryz.isAgg3
 z3:=Tryz.sizeOf3
 v3:=Tryz.zeroValue3
 t4:=Tryz.underlying4
 a4:=Tryz.isAgg4
 z4:=Tryz.sizeOf4
 v4:=Tryz.zeroValue4
 t22:=Tryz.underlying56
 a22:=Tryz.isAgg56
 z22:=Tryz.sizeOf56
 v22:=Tryz.zeroValue56
 i3:=by kernel_rfl }
def lay21_ren:Ren:=⟨fun|21=>319|27=>329|28=>330|35=>334|39=>335|n=>n,fun|22=>56|3=>3|4=>4|0=>0|n=>n,fun|n=>n⟩
theorem lay21:Lays2.n21 Tryz.prog lay21_ren:={
 mixed:=by kernel_rfl
 f21:=Tryz.func319.trans (congrArg some (by kernel_rfl))
 f27:=Tryz.func329.trans (congrArg some (by kernel_rfl))
 f28:=Tryz.func330.trans (congrArg some (by kernel_rfl))
 f35:=Tryz.func334.trans (congrArg some (by kernel_rfl))
 f39:=Tryz.func335.trans (congrArg some (by kernel_rfl))
 t0:=Tryz.underlying0
 a0:=Tryz.isAgg0
 z0:=Tryz.sizeOf0
 v0:=Tryz.zeroValue0
 t3:=Tryz.underlying3
 a3:=Tryz.isAgg3
 z3:=Tryz.sizeOf3
 v3:=Tryz.zeroValue3
 t4:=Tryz.underlying4
 a4:=Tryz.isAgg4
 z4:=Tryz.sizeOf4
 v4:=Tryz.zeroValue4
 t22:=Tryz.underlying56
 a22:=Tryz.isAgg56
 z22:=Tryz.sizeOf56
 v22:=Tryz.zeroValue56
 i3:=by kernel_rfl }
end
end Go.Proofs.YtgiiapenmjollabGreat
