import Derived.Test.YtgiiapenmjollaaGreatSsau
import Derived.Deep.RegionLaw
import Derived.Deep.AppendLies
import Derived.OwnWalk
import Derived.Lib.SliceRun
import Derived.Lib.Walk
import Derived.Laws.OwnMore
namespace Go.Proofs.YtgiiapenmjollaaGreat
set_option linter.all false
set_option maxHeartbeats 40000000
set_option maxRecDepth 100000
open Go.RowKit
section
theorem info_fv3:(Tryz.prog.info? 233).map (fun i=>(i.zero,i.size,i.bytes))=some (some (.agg #[.int .i64 0,.int .i64 0]),2,16):=by kernel_rfl
theorem tyCs_app (l:List Ty) (v:Ty):tyCs (l++[v])=tyCs l++[.int .i64 v.kind,.int .i64 v.cls]:=by unfold tyCs;rw [List.map_append,vaCells_append];rfl
theorem FA.push {X:Nat→Prop} {wx w1:World} {g:Gf} {b0:Nat} {w w2:World} {sl l:List Ty} {v:Ty} {at':Int} {st:List (Option As)} {wt:List Int} {rv:Nat→Value} {vw v':Value} {sp:Nat→Option Nat} (H:FA X wx w1 g b0 w ⟨sl,l⟩ at' st wt rv vw sp) (hg:w.grownBy w2 (rv 1).ownBlock)
  (ho:w2.ownsRow w1.heap.size 233 2 v' (l.length+1) (tyCs l++[.int .i64 v.kind,.int .i64 v.cls])) (hat:v'.ownBlock=(rv 1).ownBlock∨∀b,v'.ownBlock=some b→w.heap.size≤b) :
  FA X wx w1 g b0 (w2.setCell ⟨g.p,1,none⟩ v') ⟨sl,l++[v]⟩ at' st wt (fun r=>if r=0 then rv 0 else if r=1 then v' else rv r) vw sp:=by
 have n1:(rv 1).ownBlock≠some g.p:=own_far H.row1 H.blk (by decide)
 have hp2:w2.heap[g.p]?=some (.cells (flRow g st.length (rv 0) (rv 1) vw at') 228 (0,0)):=(hg.block _ (lt_some H.blk) (fun e=>n1 e.symm)).trans H.blk
 have hg2:=grown_set (w:=w2) g.p 1 v'
 have ll:(l++[v]).length=l.length+1:=by simp
 refine H.newcur (hg2.os.trans hg.os) (hg2.tape.trans hg.tape) (hg2.output.trans hg.output) (Nat.le_trans hg.size hg2.size) (fun b hb hbp hx=>?_) ?_ ?_ ?_ (fun b e=>Or.inl e) (fun b e=>?_) (fun b e=>?_)
 ·rw [hg2.block b (Nat.lt_of_lt_of_le hb hg.size) (fun e=>hbp (Option.some.inj e))]
  refine hg.block b hb (fun e=>?_)
  have hlt:=(H.row1.lt b e.symm).1
  exact (hx hlt).2 e.symm
 ·rw [block_set hp2];rfl
 ·have r2:w2.ownsRow b0 233 2 (rv 0) sl.length (tyCs sl):=H.row0.kept hg (by
   cases h0:(rv 0).ownBlock with
   | none=>exact Or.inl rfl
   | some c=>exact Or.inr (fun e=>H.sep 0 1 c (by omega) h0 e.symm))
  exact r2.kept hg2 (Or.inr (own_far r2 hp2 (by decide)))
 ·dsimp only
  rw [ll,tyCs_app]
  exact ho.kept hg2 (Or.inr (own_far ho hp2 (by decide)))
 ·rcases hat with h|h
  ·exact Or.inr (Or.inl (h▸e))
  ·exact Or.inr (Or.inr (h b e))
 ·intro e2
  rcases hat with h|h
  ·exact H.sep 0 1 b (by omega) e (h▸e2)
  ·have:=h b e2
   have:=H.lt0 0 b e
   omega
theorem wid_slots {t:Ty} (h:1≤t.kind∧t.kind≤3):widI t.kind=if t.kind=2 then 2 else 1:=by
 unfold widI
 split<;>(try split)<;>(try split)<;>omega
theorem own_formT {w:World} {base:Nat} {e:TypeId} {size n:Nat} {v:Value} {xs:List Value} (h:w.ownsRow base e size v n xs):∃A cap,v=.slice A n cap∧n≤cap∧cap≤maxLen:=by
 rcases h.2 with ⟨h1,h0⟩|⟨gb,cap,cur,rfl,hg,hh,hn,hcap,hsz,htake⟩
 ·exact ⟨none,0,by rw [h1,h0],by omega,by unfold maxLen;omega⟩
 ·exact ⟨_,cap,rfl,hn,hcap⟩
theorem info_partsT {t:TypeId} {z:Option Value} {n k:Nat} (h:(Tryz.prog.info? t).map (fun i=>(i.zero,i.size,i.bytes))=some (z,n,k)):∃i,Tryz.prog.info? t=some i∧i.zero=z∧i.size=n∧i.bytes=k:=by
 cases hx:Tryz.prog.info? t with
 | none=>rw [hx] at h;simp at h
 | some i =>
  rw [hx] at h
  simp at h
  exact ⟨i,rfl,h.1,h.2.1,h.2.2⟩
theorem lt_szT (w:World) (o:Obj):(w.alloc o).heap.size=w.heap.size+1:=by simp
section
variable {X:Nat→Prop} {wx w0 w1:World} {g:Gf} {b0:Nat} {w:World} {cur:As} {at':Int} {st:List (Option As)} {wt:List Int} {f:Fi} {m:Me}
theorem fput_any (C:Cx w0 w1 g f m) (v:Ty) (H:FX X wx w1 g b0 w cur at' st wt) (hl:cur.stk.length≤1000) (hk:∀t∈cur.stk,1≤t.kind∧t.kind≤3) (hv:1≤v.kind∧v.kind≤3) :
  Calls Tryz.prog 213 #[.pointer (some ⟨g.q,0,none⟩),fvV v] w fun e w'=>AsQ X wx w1 g b0 at' st wt (putT m.stack v cur) e w':=by
 obtain ⟨i0,hi0,hz0,hz1,hz2⟩:=info_partsT info_fv3
 obtain ⟨sl,l⟩:=cur
 dsimp only at hl hk
 have HB:Hid (Bl w (w.alloc (fvO v))):=(Bl.refl w).alloc _
 have HH:=hid H
 have HC:=hid C
 have HW:=hid (H.wide HB.out)
 have q0:=C.q0 H
 have hql:=cell_lt q0
 obtain ⟨rv,vw,sp,HA0⟩:=H
 have HA:=HA0.wide HB.out
 obtain ⟨A,cap,hvs,h1,h2⟩:=own_formT HA.row1
 dsimp only at hvs h1
 have HVS:=hid hvs
 have HL:=hid (mblk (w:=w) (cs:=#[.int .i64 v.kind,.int .i64 v.cls]) (t:=233) rfl)
 have x0:=c0_of HL.out
 have x1:=c1_of HL.out
 have p1:w.cell? ⟨g.p,1,none⟩=some (.slice A l.length cap):=by rw [cell_blk HA0.blk,←hvs];rfl
 have hpl:=cell_lt p1
 have fz:=free_blk HA.blk
 have HO:=hid HA.row1
 rw [hvs] at HO
 have HP:=hid HA.blk
 have HNB:Hid ((Value.slice A l.length cap).ownBlock≠some w.heap.size):=by
  rw [←hvs];exact (HA.far w.heap.size (Or.inr ⟨Nat.le_refl _,by simp⟩)).r 1
 have HNH:Hid ((Value.slice A l.length cap).ownBlock≠some g.p):=by rw [←hvs];exact own_far HA.row1 HA.blk (by decide)
 have QN:Hid (∀b,(Value.slice A l.length cap).ownBlock=some b→b≠g.q):=fun b e e2=>by
  obtain ⟨A2,c2,hq2,-⟩:=C.q
  exact own_far (HVS.out▸HA.row1) (FX.old HW.out hq2 C.qp C.qs) (by decide) (e2▸e)
 have HAA:=hid HA
 have HK:=hid hk
 have HV:=hid hv
 clear HA HA0 hvs C hk hv
 go_enter Tryz.func213,Tryz.ntmps213
 go_wp2
 refine wp_region_held_drew (S:=fun w'=>w'.cell? ⟨g.q,0,none⟩=some (.pointer (some ⟨g.p,0,none⟩))∧w'.cell? ⟨w.heap.size,0,none⟩=some (.int .i64 v.kind)∧w'.cell? ⟨w.heap.size,1,none⟩=some (.int .i64 v.cls)) (by kernel_rfl) ?_ (fun hHeld0=>?_)
 ·exact ⟨((Bl.refl w).alloc _).drew.cell q0,x0,x1⟩
 iterate 11 (refine tn rfl (by kernel_rfl) (fun _ _ _ h=>h) (by intro _ h;go_split_ands;go_simp<;>with_reducible rfl) hHeld0 ?_;try simp only [aZ])
 refine tk (i:=12) (d:=some 19) rfl rfl (by kernel_rfl) (fun _ _ _ h=>h) (by rfl) (by intro _ h;go_split_ands;go_simp<;>with_reducible rfl) hHeld0 ?_
 try simp only [aZ]
 refine wpAnyH_ready (rs:=[11,13]) (by kernel_rfl) (by simp) ?_
 refine AllReadyH.cons rfl (fun K hK=>?_) (AllReadyH.cons rfl (fun K hK=>?_) AllReadyH.nil)
 ·go_simp
  refine hK.out _ _ hHeld0 (fun hHeld1=>?_)
  try simp only [aZ]
  refine rd1 (i:=13) (by kernel_rfl) rfl fun K hK=>?_
  go_simp
  refine hK.out _ _ ⟨(((Bl.refl w).alloc _).alloc _).drew.cell q0,((Bl.refl _).alloc _).drew.cell x0,((Bl.refl _).alloc _).drew.cell x1⟩ (fun hHeld2=>?_)
  try simp only [aZ]
  refine rd1 (i:=14) (by kernel_rfl) rfl fun K hK=>?_
  refine step_append_lies _ (by rfl) _ _ _ (by rfl) w1.heap.size 233 i0 _ 2 16 Tryz.underlying221 hi0 hz0 hz1 hz2 rfl (by omega) (.slice A l.length cap) l.length (tyCs l) (by rfl) ((HO.out.alloc _).drew) ⟨w.heap.size+1,0,none⟩ 1 1 [.int .i64 v.kind,.int .i64 v.cls] (by rfl) (by rfl) (World.news_of_block (cs:=#[.int .i64 v.kind,.int .i64 v.cls]) (t:=233) (fr:=(0,0)) (by rw [←lt_szT w (fvO v)];exact blk_new _ _ _)) (by simp [Value.oneCell']) (by omega) (by unfold maxLen;omega) (by omega) (by have:=HAA.out.fz.size;simp at this ⊢;omega) _ rfl ?_
  intro gb cp w2 hown hgrow hat hlt1
  have hp2:w2.heap[g.p]?=some (.cells (flRow g st.length (rv 0) (rv 1) vw at') 228 (0,0)):=(hgrow.block _ (by have:=lt_some HP.out;simp at this ⊢;omega) (fun e=>HNH.out e.symm)).trans ((Below.heap_alloc _ _ _ (lt_some HP.out)).trans HP.out)
  have hb2:=(hgrow.block w.heap.size (by simp;omega) (fun e=>HNB.out e.symm)).trans ((Below.heap_alloc _ _ _ (lt_some HL.out)).trans HL.out)
  have q02:w2.cell? ⟨g.q,0,none⟩=some (.pointer (some ⟨g.p,0,none⟩)):=hgrow.cell ((((Bl.refl w).alloc _).alloc _).drew.cell q0) (fun e=>QN.out g.q e.symm rfl)
  have q12:w2.cell? ⟨g.p,1,none⟩=some (rv 1):=(cell_blk hp2).trans rfl
  have z12:=free_blk hp2 1
  refine hK.out _ _ ⟨q02,c0_of hb2,c1_of hb2⟩ (fun hHeld3=>?_)
  try simp only [aZ]
  iterate 3 (refine tn rfl (by kernel_rfl) (fun _ _ _ h=>h) (by intro _ h;go_split_ands;go_simp<;>with_reducible rfl) hHeld3 ?_;try simp only [aZ])
  have Q02:=hid q02
  have Y0:=hid (c0_of hb2)
  have Y1:=hid (c1_of hb2)
  have n1:=hid (show g.p≠g.q from fun e=>HC.out.qp e.symm)
  have n2:=hid (show g.p≠w.heap.size by omega)
  replace hown:=hid hown
  replace hgrow:=hid hgrow
  replace hat:=hid hat
  clear hb2 hp2 q02
  refine rd1 (i:=18) (by kernel_rfl) rfl fun K hK=>?_
  go_simp
  refine hK.out _ _ ⟨(World.cell?_of_block (block_far (fun e=>n1.out e.symm) _)).trans Q02.out,(World.cell?_of_block (block_far (fun e=>n2.out e.symm) _)).trans Y0.out,(World.cell?_of_block (block_far (fun e=>n2.out e.symm) _)).trans Y1.out⟩ (fun hHeld4=>?_)
  try simp only [aZ]
  refine wpAnyH_done (by kernel_rfl) ?_ _
  obtain ⟨W,hW⟩:∃W,W=w2.setCell ⟨g.p,1,none⟩ (.slice (some ⟨gb,0,none⟩) (l.length+1) cp):=⟨_,rfl⟩
  have HA2:FX (Xf X w.heap.size (w.alloc (fvO v)).heap.size) (w.alloc (fvO v)) w1 g b0 W ⟨sl,l++[v]⟩ at' st wt:=by
   rw [hW]
   exact ⟨_,_,_,FA.push (HAA.out.bl (((Bl.refl _).alloc _).drew)) (by rw [HVS.out];exact hgrow.out) hown.out (hat.out.elim (fun e=>Or.inl (by rw [HVS.out];exact e.symm)) (fun e=>Or.inr fun b hb=>Nat.le_of_eq (e.symm.trans (by simpa [Value.ownBlock] using hb))))⟩
  have k12:W.cell? ⟨g.p,1,none⟩=some (.slice (some ⟨gb,0,none⟩) (l.length+1) cp):=by
   rw [hW]
   have hp2:w2.heap[g.p]?=some (.cells (flRow g st.length (rv 0) (rv 1) vw at') 228 (0,0)):=(hgrow.out.block _ (by have:=lt_some HP.out;simp at this ⊢;omega) (fun e=>HNH.out e.symm)).trans ((Below.heap_alloc _ _ _ (lt_some HP.out)).trans HP.out)
   rw [cell_blk (block_set hp2 _)];rfl
  have hrow:W.ownsRow w1.heap.size 233 2 (.slice (some ⟨gb,0,none⟩) (l.length+1) cp) (l++[v]).length (tyCs (l++[v])):=by
   obtain ⟨rv',vw',sp',HZ⟩:=HA2
   have e:rv' 1=.slice (some ⟨gb,0,none⟩) (l.length+1) cp:=by
    have:=(cell_blk HZ.blk (i:=1)).symm.trans k12
    simpa [flRow] using this
   rw [←e];exact HZ.row1
  rw [←hW]
  clear hW
  have VR:Hid (∀k,k<l.length+1→W.cell? ⟨gb,k*2,none⟩=some (.int .i64 (nth ty0 (l++[v]) k).kind)∧W.cell? ⟨gb,k*2+1,none⟩=some (.int .i64 (nth ty0 (l++[v]) k).cls)∧1≤(nth ty0 (l++[v]) k).kind∧(nth ty0 (l++[v]) k).kind≤3):=fun k hk=>by
   have hkl:k<(l++[v]).length:=by simp;omega
   obtain ⟨A',cap',r1,r2,r3,r4⟩:=rowCell hrow
   have rA:A'=some ⟨gb,0,none⟩:=by injection r1 with a1 a2 a3;exact a1.symm
   rcases r4 with r4|⟨gb',r5,r6,r7,r8⟩
   ·simp at r4
   ·rw [rA] at r5
    cases r5
    refine ⟨(r8 k hkl).1,(r8 k hkl).2,?_⟩
    have hm:nth ty0 (l++[v]) k∈l++[v]:=nth_mem hkl
    rw [List.mem_append,List.mem_singleton] at hm
    rcases hm with hm|hm
    ·exact HK.out _ hm
    ·rw [hm];exact HV.out
  have k6:W.cell? ⟨g.p,6,none⟩=some (.int .i64 m.stack):=by rw [HA2.pc.2.2.2.1,HC.out.room]
  have kq:=HC.out.q0 HA2
  replace HA2:=hid HA2
  clear hown hgrow hat q12 z12 hlt1 hHeld3 hHeld4 Q02 Y0 Y1 hrow
  have hsz:∀k,slotsN ((l++[v]).take k)≤2*k:=fun k=>by
   have:=slotsN_le ((l++[v]).take k)
   have:=List.length_take_le k (l++[v])
   omega
  have HSZ:=hid hsz
  clear hsz
  obtain ⟨N,hN⟩:∃N,l.length+1=N:=⟨_,rfl⟩
  have hN1:N≤1001:=by omega
  have HST:Hid ((l++[v]).length=N):=by show (l++[v]).length=N;rw [←hN];simp
  rw [hN] at k12 VR ⊢
  clear hN x0 x1 p1 q0 fz
  go_wp2
  go_loopw [4,34] (fun u i wr=>∃k:Nat,k≤N∧i=.int .i64 k∧u=.int .i64 ((slotsN ((l++[v]).take k):Nat):Int)∧Bl W wr) (fun _ i _=>N-(intOf i).toNat)
  case atStart=>exact ⟨0,Nat.zero_le _,rfl,by simp [slotsN],Bl.refl _⟩
  case round =>
   obtain ⟨k,hk,rfl,rfl,hbl⟩:=hrel
   have h2:=HSZ.out k
   by_cases hlt:k<N
   ·obtain ⟨r0,r1,r2⟩:=VR.out k hlt
    replace r0:=hbl.cell r0
    replace r1:=hbl.cell r1
    have hgb:=cell_lt r0
    have HS1:=hid (slotsN_take (l++[v]) k (by rw [HST.out];exact hlt))
    have HW:=hid (wid_slots r2)
    have hk0:(0:Int)≤(k:Int):=by omega
    have hk1:(k:Int)<(N:Int):=by omega
    generalize nth ty0 (l++[v]) k=u at *
    obtain ⟨z,hz⟩:∃z,slotsN ((l++[v]).take k)=z:=⟨_,rfl⟩
    rw [hz] at HS1 h2
    have HBL:=hid hbl
    have HZ:=hid hz
    rw [hz]
    clear r2 hz hbl
    go_wp2_with (go_at_call 85;refine (width_any _ _).mono ?_;rintro e w2 ⟨he,hw⟩;rw [HW.out] at he;subst he;rw [hw];clear hw w2)
    by_cases hu2:u.kind=2
    ·rw [if_pos hu2] at HS1 ⊢
     go_wp2
     go_roundw
     case rel=>exact ⟨k+1,by omega,by go_num,by rw [HS1.out];go_num,HBL.out.alloc _⟩
     case measure=>simp [intOf];omega
    ·rw [if_neg hu2] at HS1 ⊢
     go_wp2
     go_roundw
     case rel=>exact ⟨k+1,by omega,by go_num,by rw [HS1.out];go_num,HBL.out.alloc _⟩
     case measure=>simp [intOf];omega
   ·have hkN:k=N:=by omega
    subst hkN
    have hfull:(l++[v]).take k=l++[v]:=List.take_of_length_le (Nat.le_of_eq HST.out)
    rw [hfull] at h2 ⊢
    have HA3:=hid (FX.bl HA2.out hbl)
    have m6:=hbl.cell k6
    have mq:=hbl.cell kq
    clear k6 k12 kq
    by_cases hroom:(slotsN (l++[v]):Int)≤m.stack
    ·have E1:Hid (putT m.stack v ⟨sl,l⟩=some ⟨sl,l++[v]⟩):=by show putT m.stack v ⟨sl,l⟩=_;unfold putT;rw [if_pos hroom]
     have hd:decide (m.stack<(slotsN (l++[v]):Int))=false:=by simpa using hroom
     clear hroom
     go_wp2
     go_end0
     rw [E1.out]
     exact ⟨rfl,FX.back HH.out HB.out HA3.out⟩
    ·have E1:Hid (putT m.stack v ⟨sl,l⟩=none):=by show putT m.stack v ⟨sl,l⟩=_;unfold putT;rw [if_neg hroom]
     have hd:decide (m.stack<(slotsN (l++[v]):Int))=true:=by simpa using hroom
     clear hroom
     go_wp2_with (go_at_call 208;refine (up_any _).mono ?_;rintro e w1 ⟨rfl,hw⟩;rw [hw];clear hw w1)
     refine ⟨rfl,?_⟩
     rw [E1.out]
     exact ⟨rfl,FE.back HH.out HB.out HA3.out.fe⟩
 ·go_simp
  refine hK.out _ _ ⟨(((Bl.refl w).alloc _).alloc _).drew.cell q0,((Bl.refl _).alloc _).drew.cell x0,((Bl.refl _).alloc _).drew.cell x1⟩ (fun hHeld1=>?_)
  try simp only [aZ]
  refine rd1 (i:=11) (by kernel_rfl) rfl fun K hK=>?_
  go_simp
  refine hK.out _ _ hHeld1 (fun hHeld2=>?_)
  try simp only [aZ]
  refine rd1 (i:=14) (by kernel_rfl) rfl fun K hK=>?_
  refine step_append_lies _ (by rfl) _ _ _ (by rfl) w1.heap.size 233 i0 _ 2 16 Tryz.underlying221 hi0 hz0 hz1 hz2 rfl (by omega) (.slice A l.length cap) l.length (tyCs l) (by rfl) ((HO.out.alloc _).drew) ⟨w.heap.size+1,0,none⟩ 1 1 [.int .i64 v.kind,.int .i64 v.cls] (by rfl) (by rfl) (World.news_of_block (cs:=#[.int .i64 v.kind,.int .i64 v.cls]) (t:=233) (fr:=(0,0)) (by rw [←lt_szT w (fvO v)];exact blk_new _ _ _)) (by simp [Value.oneCell']) (by omega) (by unfold maxLen;omega) (by omega) (by have:=HAA.out.fz.size;simp at this ⊢;omega) _ rfl ?_
  intro gb cp w2 hown hgrow hat hlt1
  have hp2:w2.heap[g.p]?=some (.cells (flRow g st.length (rv 0) (rv 1) vw at') 228 (0,0)):=(hgrow.block _ (by have:=lt_some HP.out;simp at this ⊢;omega) (fun e=>HNH.out e.symm)).trans ((Below.heap_alloc _ _ _ (lt_some HP.out)).trans HP.out)
  have hb2:=(hgrow.block w.heap.size (by simp;omega) (fun e=>HNB.out e.symm)).trans ((Below.heap_alloc _ _ _ (lt_some HL.out)).trans HL.out)
  have q02:w2.cell? ⟨g.q,0,none⟩=some (.pointer (some ⟨g.p,0,none⟩)):=hgrow.cell ((((Bl.refl w).alloc _).alloc _).drew.cell q0) (fun e=>QN.out g.q e.symm rfl)
  have q12:w2.cell? ⟨g.p,1,none⟩=some (rv 1):=(cell_blk hp2).trans rfl
  have z12:=free_blk hp2 1
  refine hK.out _ _ ⟨q02,c0_of hb2,c1_of hb2⟩ (fun hHeld3=>?_)
  try simp only [aZ]
  iterate 3 (refine tn rfl (by kernel_rfl) (fun _ _ _ h=>h) (by intro _ h;go_split_ands;go_simp<;>with_reducible rfl) hHeld3 ?_;try simp only [aZ])
  have Q02:=hid q02
  have Y0:=hid (c0_of hb2)
  have Y1:=hid (c1_of hb2)
  have n1:=hid (show g.p≠g.q from fun e=>HC.out.qp e.symm)
  have n2:=hid (show g.p≠w.heap.size by omega)
  replace hown:=hid hown
  replace hgrow:=hid hgrow
  replace hat:=hid hat
  clear hb2 hp2 q02
  refine rd1 (i:=18) (by kernel_rfl) rfl fun K hK=>?_
  go_simp
  refine hK.out _ _ ⟨(World.cell?_of_block (block_far (fun e=>n1.out e.symm) _)).trans Q02.out,(World.cell?_of_block (block_far (fun e=>n2.out e.symm) _)).trans Y0.out,(World.cell?_of_block (block_far (fun e=>n2.out e.symm) _)).trans Y1.out⟩ (fun hHeld4=>?_)
  try simp only [aZ]
  refine wpAnyH_done (by kernel_rfl) ?_ _
  obtain ⟨W,hW⟩:∃W,W=w2.setCell ⟨g.p,1,none⟩ (.slice (some ⟨gb,0,none⟩) (l.length+1) cp):=⟨_,rfl⟩
  have HA2:FX (Xf X w.heap.size (w.alloc (fvO v)).heap.size) (w.alloc (fvO v)) w1 g b0 W ⟨sl,l++[v]⟩ at' st wt:=by
   rw [hW]
   exact ⟨_,_,_,FA.push (HAA.out.bl (((Bl.refl _).alloc _).drew)) (by rw [HVS.out];exact hgrow.out) hown.out (hat.out.elim (fun e=>Or.inl (by rw [HVS.out];exact e.symm)) (fun e=>Or.inr fun b hb=>Nat.le_of_eq (e.symm.trans (by simpa [Value.ownBlock] using hb))))⟩
  have k12:W.cell? ⟨g.p,1,none⟩=some (.slice (some ⟨gb,0,none⟩) (l.length+1) cp):=by
   rw [hW]
   have hp2:w2.heap[g.p]?=some (.cells (flRow g st.length (rv 0) (rv 1) vw at') 228 (0,0)):=(hgrow.out.block _ (by have:=lt_some HP.out;simp at this ⊢;omega) (fun e=>HNH.out e.symm)).trans ((Below.heap_alloc _ _ _ (lt_some HP.out)).trans HP.out)
   rw [cell_blk (block_set hp2 _)];rfl
  have hrow:W.ownsRow w1.heap.size 233 2 (.slice (some ⟨gb,0,none⟩) (l.length+1) cp) (l++[v]).length (tyCs (l++[v])):=by
   obtain ⟨rv',vw',sp',HZ⟩:=HA2
   have e:rv' 1=.slice (some ⟨gb,0,none⟩) (l.length+1) cp:=by
    have:=(cell_blk HZ.blk (i:=1)).symm.trans k12
    simpa [flRow] using this
   rw [←e];exact HZ.row1
  rw [←hW]
  clear hW
  have VR:Hid (∀k,k<l.length+1→W.cell? ⟨gb,k*2,none⟩=some (.int .i64 (nth ty0 (l++[v]) k).kind)∧W.cell? ⟨gb,k*2+1,none⟩=some (.int .i64 (nth ty0 (l++[v]) k).cls)∧1≤(nth ty0 (l++[v]) k).kind∧(nth ty0 (l++[v]) k).kind≤3):=fun k hk=>by
   have hkl:k<(l++[v]).length:=by simp;omega
   obtain ⟨A',cap',r1,r2,r3,r4⟩:=rowCell hrow
   have rA:A'=some ⟨gb,0,none⟩:=by injection r1 with a1 a2 a3;exact a1.symm
   rcases r4 with r4|⟨gb',r5,r6,r7,r8⟩
   ·simp at r4
   ·rw [rA] at r5
    cases r5
    refine ⟨(r8 k hkl).1,(r8 k hkl).2,?_⟩
    have hm:nth ty0 (l++[v]) k∈l++[v]:=nth_mem hkl
    rw [List.mem_append,List.mem_singleton] at hm
    rcases hm with hm|hm
    ·exact HK.out _ hm
    ·rw [hm];exact HV.out
  have k6:W.cell? ⟨g.p,6,none⟩=some (.int .i64 m.stack):=by rw [HA2.pc.2.2.2.1,HC.out.room]
  have kq:=HC.out.q0 HA2
  replace HA2:=hid HA2
  clear hown hgrow hat q12 z12 hlt1 hHeld3 hHeld4 Q02 Y0 Y1 hrow
  have hsz:∀k,slotsN ((l++[v]).take k)≤2*k:=fun k=>by
   have:=slotsN_le ((l++[v]).take k)
   have:=List.length_take_le k (l++[v])
   omega
  have HSZ:=hid hsz
  clear hsz
  obtain ⟨N,hN⟩:∃N,l.length+1=N:=⟨_,rfl⟩
  have hN1:N≤1001:=by omega
  have HST:Hid ((l++[v]).length=N):=by show (l++[v]).length=N;rw [←hN];simp
  rw [hN] at k12 VR ⊢
  clear hN x0 x1 p1 q0 fz
  go_wp2
  go_loopw [4,34] (fun u i wr=>∃k:Nat,k≤N∧i=.int .i64 k∧u=.int .i64 ((slotsN ((l++[v]).take k):Nat):Int)∧Bl W wr) (fun _ i _=>N-(intOf i).toNat)
  case atStart=>exact ⟨0,Nat.zero_le _,rfl,by simp [slotsN],Bl.refl _⟩
  case round =>
   obtain ⟨k,hk,rfl,rfl,hbl⟩:=hrel
   have h2:=HSZ.out k
   by_cases hlt:k<N
   ·obtain ⟨r0,r1,r2⟩:=VR.out k hlt
    replace r0:=hbl.cell r0
    replace r1:=hbl.cell r1
    have hgb:=cell_lt r0
    have HS1:=hid (slotsN_take (l++[v]) k (by rw [HST.out];exact hlt))
    have HW:=hid (wid_slots r2)
    have hk0:(0:Int)≤(k:Int):=by omega
    have hk1:(k:Int)<(N:Int):=by omega
    generalize nth ty0 (l++[v]) k=u at *
    obtain ⟨z,hz⟩:∃z,slotsN ((l++[v]).take k)=z:=⟨_,rfl⟩
    rw [hz] at HS1 h2
    have HBL:=hid hbl
    have HZ:=hid hz
    rw [hz]
    clear r2 hz hbl
    go_wp2_with (go_at_call 85;refine (width_any _ _).mono ?_;rintro e w2 ⟨he,hw⟩;rw [HW.out] at he;subst he;rw [hw];clear hw w2)
    by_cases hu2:u.kind=2
    ·rw [if_pos hu2] at HS1 ⊢
     go_wp2
     go_roundw
     case rel=>exact ⟨k+1,by omega,by go_num,by rw [HS1.out];go_num,HBL.out.alloc _⟩
     case measure=>simp [intOf];omega
    ·rw [if_neg hu2] at HS1 ⊢
     go_wp2
     go_roundw
     case rel=>exact ⟨k+1,by omega,by go_num,by rw [HS1.out];go_num,HBL.out.alloc _⟩
     case measure=>simp [intOf];omega
   ·have hkN:k=N:=by omega
    subst hkN
    have hfull:(l++[v]).take k=l++[v]:=List.take_of_length_le (Nat.le_of_eq HST.out)
    rw [hfull] at h2 ⊢
    have HA3:=hid (FX.bl HA2.out hbl)
    have m6:=hbl.cell k6
    have mq:=hbl.cell kq
    clear k6 k12 kq
    by_cases hroom:(slotsN (l++[v]):Int)≤m.stack
    ·have E1:Hid (putT m.stack v ⟨sl,l⟩=some ⟨sl,l++[v]⟩):=by show putT m.stack v ⟨sl,l⟩=_;unfold putT;rw [if_pos hroom]
     have hd:decide (m.stack<(slotsN (l++[v]):Int))=false:=by simpa using hroom
     clear hroom
     go_wp2
     go_end0
     rw [E1.out]
     exact ⟨rfl,FX.back HH.out HB.out HA3.out⟩
    ·have E1:Hid (putT m.stack v ⟨sl,l⟩=none):=by show putT m.stack v ⟨sl,l⟩=_;unfold putT;rw [if_neg hroom]
     have hd:decide (m.stack<(slotsN (l++[v]):Int))=true:=by simpa using hroom
     clear hroom
     go_wp2_with (go_at_call 208;refine (up_any _).mono ?_;rintro e w1 ⟨rfl,hw⟩;rw [hw];clear hw w1)
     refine ⟨rfl,?_⟩
     rw [E1.out]
     exact ⟨rfl,FE.back HH.out HB.out HA3.out.fe⟩
end
end
section
theorem fread_any (b gb cap base:Nat) (l:List Ty) (a:Nat) (k:Int) (w:World) (H:Sl w b gb cap base l) (ha:a<l.length) :
  Calls Tryz.prog 217 #[.pointer (some ⟨b,0,none⟩),.int .i64 (a:Int),.int .i64 k] w fun e w'=>e=(if (nth ty0 l a).kind=k then .returned (fvV (nth ty0 l a)) else upE)∧Bl w w':=by
 obtain ⟨c0,c1,-⟩:=H.cells ha
 have hb:=cell_lt H.c
 have hgb:=cell_lt c0
 have hc:=H.c
 have ha0:(0:Int)≤(a:Int):=by omega
 have ha1:(a:Int)<(l.length:Int):=by omega
 have HB:Hid (Bl w (w.alloc fvZ)):=(Bl.refl w).alloc _
 have HZ:=hid (mblk (w:=w) (cs:=#[.int .i64 0,.int .i64 0]) (t:=233) rfl)
 clear H ha
 generalize nth ty0 l a=v at *
 by_cases hk:v.kind=k
 ·rw [if_pos hk]
  have HK:=hid hk
  clear hk
  go_enter Tryz.func217,Tryz.ntmps217
  go_wp2_with (go_at_call 211;refine (fmust_yes _ _ _ HK.out).mono ?_;rintro e w2 ⟨rfl,b2⟩;have B2:=hid (HB.out.trans b2);have Z2:=hid (bl_blk b2 HZ.out);have r0:=c0_of Z2.out;have r1:=c1_of Z2.out;have rf:=free_blk Z2.out;clear b2)
  refine bodyPost_ret (results_cell_row rfl _ _ w.heap.size _ _ _ _ rfl (block_set (block_set Z2.out _) _) Tryz.underlying233 rfl info_fv) rfl ?_
  exact ⟨rfl,(B2.out.setCell (Nat.le_refl _) _).setCell (Nat.le_refl _) _⟩
 ·rw [if_neg hk]
  have HK:=hid hk
  clear hk
  go_enter Tryz.func217,Tryz.ntmps217
  go_wp2_with (go_at_call 211;refine (fmust_no _ _ _ HK.out).mono ?_;rintro e w2 ⟨rfl,b2⟩)
  exact ⟨rfl,rfl,HB.out.trans b2⟩
section
variable {X:Nat→Prop} {wx w0 w1:World} {g:Gf} {b0:Nat} {w:World} {cur:As} {at':Int} {st:List (Option As)} {wt:List Int} {f:Fi} {m:Me} {rv:Nat→Value} {vw:Value} {sp:Nat→Option Nat}
theorem FA.sl (H:FA X wx w1 g b0 w cur at' st wt rv vw sp) (hl:0<cur.slots.length):∃gb cap,rv 0=.slice (some ⟨gb,0,none⟩) cur.slots.length cap∧Sl w g.p gb cap b0 cur.slots:=by
 obtain ⟨A,cap,h1,h2,h3,h4⟩:=rowCell H.row0
 rcases h4 with h4|⟨gb,rfl,h6,⟨cu,h7,-⟩,h8⟩
 ·omega
 ·refine ⟨gb,cap,h1,⟨by rw [cell_blk H.blk,←h1];rfl,fun e=>?_,by have:=H.row0;rw [h1] at this;exact this⟩⟩
  rw [←e,H.blk] at h7;simp at h7
theorem cread_any (H:FX X wx w1 g b0 w cur at' st wt) (a:Nat) (k:Int) (ha:a<cur.slots.length) :
  Calls Tryz.prog 217 #[.pointer (some ⟨g.p,0,none⟩),.int .i64 (a:Int),.int .i64 k] w fun e w'=>e=(if (nth ty0 cur.slots a).kind=k then .returned (fvV (nth ty0 cur.slots a)) else upE)∧Bl w w':=by
 obtain ⟨rv,vw,sp,H⟩:=H
 obtain ⟨gb,cap,-,hs⟩:=H.sl (by omega)
 exact fread_any g.p gb cap b0 cur.slots a k w hs ha
theorem cwrite_any (H:FX X wx w1 g b0 w cur at' st wt) (hb0:w1.heap.size≤b0) (a:Nat) (v:Ty) (ha:a<cur.slots.length) (hl:cur.slots.length≤1000) (T:PairT cur.slots) (hv:v.kind=2→a+1<cur.slots.length) :
  Calls Tryz.prog 202 #[.pointer (some ⟨g.p,0,none⟩),.int .i64 (a:Int),fvV v] w fun e w'=>e=.returned (.tuple #[])∧FX X wx w1 g b0 w' ⟨wrT cur.slots a v,cur.stk⟩ at' st wt:=by
 obtain ⟨rv,vw,sp,H⟩:=H
 obtain ⟨gb,cap,h0,hs⟩:=H.sl (by omega)
 refine (fwrite_any g.p gb cap b0 cur.slots a v w hs ha hl T hv).mono ?_
 rintro e w2 ⟨rfl,s2,g2⟩
 have hob:(rv 0).ownBlock=some gb:=by rw [h0];rfl
 have hgb1:w1.heap.size≤gb:=by have:=(H.row0.lt gb hob).1;omega
 refine ⟨rfl,_,vw,sp,H.newcur (b1:=b0) (cur':=⟨wrT cur.slots a v,cur.stk⟩) (at2:=at') (v0:=rv 0) (v1:=rv 1) g2.os g2.tape g2.output g2.size (fun b hb hbp hx=>g2.block b hb (fun e=>?_)) ?_ ?_ ?_ (fun b e=>Or.inl e) (fun b e=>Or.inr (Or.inl e)) (fun b e e2=>H.sep 0 1 b (by omega) e e2)⟩
 ·have:=Option.some.inj e
  subst this
  exact (hx hgb1).1 hob
 ·exact (g2.block g.p (lt_some H.blk) (fun e=>hs.ne (Option.some.inj e))).trans H.blk
 ·have:=s2.row
  rw [wrT_length] at this
  rw [h0]
  show w2.ownsRow b0 233 2 _ (wrT cur.slots a v).length _
  rw [wrT_length]
  exact this
 ·exact H.row1.kept g2 (by
   cases h1:(rv 1).ownBlock with
   | none=>exact Or.inl rfl
   | some c=>exact Or.inr (fun e=>H.sep 0 1 c (by omega) (by rw [hob,e]) h1))
end
end
structure Rd (w:World) (ob:Nat) (l:List Ty):Prop where
 c:∀j,j<l.length→w.cell? ⟨ob,j*2,none⟩=some (.int .i64 (nth ty0 l j).kind)∧w.cell? ⟨ob,j*2+1,none⟩=some (.int .i64 (nth ty0 l j).cls)
theorem Rd.grown {w w':World} {ob gb:Nat} {l:List Ty} (h:Rd w ob l) (hg:w.grownBy w' (some gb)) (hn:ob≠gb):Rd w' ob l :=
 ⟨fun j hj=>⟨hg.cell (h.c j hj).1 (fun e=>hn (Option.some.inj e)),hg.cell (h.c j hj).2 (fun e=>hn (Option.some.inj e))⟩⟩
theorem Rd.bl {w w':World} {ob:Nat} {l:List Ty} (h:Rd w ob l) (hg:Bl w w'):Rd w' ob l:=⟨fun j hj=>⟨hg.cell (h.c j hj).1,hg.cell (h.c j hj).2⟩⟩
theorem rowRd {w:World} {base:Nat} {e:TypeId} {gb n cap:Nat} {l:List Ty} (h:w.ownsRow base e 2 (.slice (some ⟨gb,0,none⟩) n cap) l.length (tyCs l)):Rd w gb l:=by
 refine ⟨fun j hj=>?_⟩
 obtain ⟨A,c,h1,h2,h3,h4⟩:=rowCell h
 have hA:A=some ⟨gb,0,none⟩:=by injection h1 with a1 a2 a3;exact a1.symm
 rcases h4 with h4|⟨gb',h5,h6,h7,h8⟩
 ·omega
 ·rw [hA] at h5;cases h5
  exact h8 j hj
theorem rowFree {w:World} {base:Nat} {e:TypeId} {gb n cap:Nat} {l:List Ty} (h:w.ownsRow base e 2 (.slice (some ⟨gb,0,none⟩) n cap) l.length (tyCs l)) (hl:0<l.length):(∀k,w.frozen? ⟨gb,k,none⟩=false)∧gb<w.heap.size:=by
 obtain ⟨A,c,h1,h2,h3,h4⟩:=rowCell h
 have hA:A=some ⟨gb,0,none⟩:=by injection h1 with a1 a2 a3;exact a1.symm
 rcases h4 with h4|⟨gb',h5,h6,⟨cu,h7,-⟩,h8⟩
 ·omega
 ·rw [hA] at h5;cases h5
  exact ⟨fun k=>free_blk h7 k,h6⟩
theorem fmergeAll_any (cs:List Cl) (h12:cs.length≤12) (vj:Value) (gb ob cap ocap base:Nat) (a b:List Ty) (w:World) (hab:a.length=b.length) (hl:a.length≤1000) (hne:ob≠gb) (hr:w.ownsRow base 233 2 (.slice (some ⟨gb,0,none⟩) a.length cap) a.length (tyCs a)) (hO:Rd w ob b)
  (hJ:∀w',w.grownBy w' (some gb)→JnAt w' vj cs) (ha:∀t∈a,refOk cs.length t) (hb:∀t∈b,refOk cs.length t) :
  Calls Tryz.prog 249 #[vj,.slice (some ⟨gb,0,none⟩) a.length cap,.slice (some ⟨ob,0,none⟩) a.length ocap] w fun e w'=>e=.returned (.bool (lessTo cs a b a.length))∧w'.ownsRow base 233 2 (.slice (some ⟨gb,0,none⟩) a.length cap) a.length (tyCs (mergeL cs a b))∧w.grownBy w' (some gb):=by
 have HR:=hid hr
 have HO:=hid hO
 have HJ:=hid hJ
 have HA:=hid ha
 have HBb:=hid hb
 have HAB:=hid hab
 have HNE:=hid hne
 have HG0:Hid (w.grownBy w (some gb)):=⟨rfl,rfl,rfl,Nat.le_refl _,fun _ _ _=>rfl⟩
 have R0:Hid (w.ownsRow base 233 2 (.slice (some ⟨gb,0,none⟩) a.length cap) (mergeTo cs a b 0).length (tyCs (mergeTo cs a b 0))):=by show w.ownsRow _ _ _ _ _ _;rw [mergeTo_zero];exact hr
 clear hr hO hJ ha hb hab hne
 go_enter Tryz.func249,Tryz.ntmps249
 go_wp2
 go_loopw [7,12] (fun u i wr=>∃k:Nat,k≤a.length∧i=.int .i64 (k:Int)∧u=.bool (lessTo cs a b k)∧Hid (wr.ownsRow base 233 2 (.slice (some ⟨gb,0,none⟩) a.length cap) (mergeTo cs a b k).length (tyCs (mergeTo cs a b k)))∧Hid (w.grownBy wr (some gb))) (fun _ i _=>a.length-(intOf i).toNat)
 case atStart=>exact ⟨0,Nat.zero_le _,rfl,rfl,R0,HG0⟩
 case round =>
  obtain ⟨k,hk,rfl,rfl,RR,GG⟩:=hrel
  by_cases hlt:k<a.length
  ·have hml:=mergeTo_length cs a b k
   have hnk:nth ty0 (mergeTo cs a b k) k=nth ty0 a k:=by rw [mergeTo_nth cs a b k k hlt,if_neg (by omega)]
   have rc:=(rowRd RR.out).c k (by rw [hml];exact hlt)
   rw [hnk] at rc
   obtain ⟨c0,c1⟩:=rc
   obtain ⟨o0,o1⟩:=(HO.out.grown GG.out HNE.out).c k (by rw [←HAB.out];exact hlt)
   obtain ⟨fz,hgb⟩:=rowFree RR.out (by rw [hml];omega)
   have hob:=cell_lt o0
   have hk0:(0:Int)≤(k:Int):=by omega
   have hk1:(k:Int)<(a.length:Int):=by omega
   have hx:=hid (HA.out _ (nth_mem (d:=ty0) hlt))
   have hy:=hid (HBb.out _ (nth_mem (d:=ty0) (l:=b) (i:=k) (by rw [←HAB.out];exact hlt)))
   have LS:=hid (lessTo_succ cs a b k)
   have MS:=hid (mergeTo_succ cs a b k hlt)
   have MM:Hid (m1 cs (nth ty0 a k) (nth ty0 b k)=nth ty0 a k→mergeTo cs a b k=mergeTo cs a b (k+1)):=fun e=>mergeTo_same cs a b k hlt e
   have HML:=hid hml
   have HLT:=hid hlt
   clear hml hnk
   generalize nth ty0 a k=x at *
   generalize nth ty0 b k=y at *
   have hq:∀w,_:=fun w=>eql_fv x.kind x.cls y.kind y.cls w
   generalize hl0:lessTo cs a b k=l0 at *
   clear hl0
   cases he:eqT x y with
   | true =>
    have he':(decide (x.kind=y.kind)&&decide (x.cls=y.cls))=true:=he
    rw [he'] at hq
    have hm:m1 cs x y=x:=by unfold m1;rw [if_pos he]
    have L2:Hid (lessTo cs a b (k+1)=l0):=by show _=_;rw [LS.out,hm,eqT_eq.2 rfl];simp
    have M2:=hid (MM.out hm)
    clear he he' hm
    go_wp2
    go_quiet (fail)
    go_wp2
    go_roundw
    case rel=>exact ⟨k+1,by omega,by go_num,by rw [L2.out],hid (by rw [←M2.out];exact rowBl RR.out (bl_drewN ((Bl.refl _).alloc _) _)),hid (grown_bl2 GG.out (bl_drewN ((Bl.refl _).alloc _) _))⟩
    case measure=>simp [intOf];omega
   | false =>
    have he':(decide (x.kind=y.kind)&&decide (x.cls=y.cls))=false:=he
    rw [he'] at hq
    have hm:m1 cs x y=bothT cs x y:=by unfold m1;rw [if_neg (by rw [he];decide)]
    rw [hm] at LS MS
    have BB:=hid (fun (w':World) (hg:w.grownBy w' (some gb))=>both_all cs vj x y w' (HJ.out w' hg) h12 hx.out hy.out)
    clear he he' hm MM
    generalize bothT cs x y=z at *
    have hq2:∀w,_:=fun w=>neq_fv z.kind z.cls x.kind x.cls w
    have HQ2:=hid hq2
    clear hq2
    go_wp2
    go_quiet (fail)
    go_wp2
    have BV:Hid (Bl wr ((wr.alloc (.cells #[.int .i64 x.kind,.int .i64 x.cls] 233)).drewN nq)):=bl_drewN ((Bl.refl _).alloc _) _
    have hbx:Hid (((wr.alloc (.cells #[.int .i64 x.kind,.int .i64 x.cls] 233)).drewN nq).heap[wr.heap.size]?=some (.cells #[.int .i64 x.kind,.int .i64 x.cls] 233 (0,0))):=bl_blk (bl_drewN (Bl.refl _) nq) (mblk rfl)
    have n1:=hid (show wr.heap.size≠gb by omega)
    generalize (wr.alloc (.cells #[.int .i64 x.kind,.int .i64 x.cls] 233)).drewN nq=V at *
    have v0:=BV.out.cell o0
    have v1:=BV.out.cell o1
    refine wp_region_held_drew (S:=fun w'=>w'.cell? ⟨wr.heap.size,0,none⟩=some (.int .i64 x.kind)∧w'.cell? ⟨wr.heap.size,1,none⟩=some (.int .i64 x.cls)∧w'.cell? ⟨ob,k*2,none⟩=some (.int .i64 y.kind)∧w'.cell? ⟨ob,k*2+1,none⟩=some (.int .i64 y.cls)) (by kernel_rfl) ?_ (fun hHeld0=>?_)
    ·exact ⟨c0_of hbx.out,c1_of hbx.out,v0,v1⟩
    iterate 8 (refine tn rfl (by kernel_rfl) (fun _ _ _ h=>h) (by intro _ h;go_split_ands;go_simp<;>with_reducible rfl) hHeld0 ?_;try simp only [aZ])
    refine rd1 (i:=8) (by kernel_rfl) rfl fun K hK=>?_
    go_simp
    go_at_call 256
    refine (BB.out V.drew (grown_bl2 GG.out (BV.out.drew))).mono ?_
    rintro e w3 ⟨rfl,b3⟩
    have B3:Hid (Bl wr w3):=BV.out.drew.trans b3
    have X3:=hid (bl_blk ((Bl.refl V).drew.trans b3) hbx.out)
    have R3:=hid (rowBl RR.out B3.out)
    have O3:=hid (And.intro (B3.out.cell o0) (B3.out.cell o1))
    have G3:=hid (grown_bl2 GG.out B3.out)
    refine hK.out _ _ ⟨c0_of X3.out,c1_of X3.out,O3.out.1,O3.out.2⟩ (fun hHeld1=>?_)
    try simp only [aZ]
    refine tn rfl (by kernel_rfl) (fun _ _ _ h=>h) (by intro _ h;go_split_ands;go_simp<;>with_reducible rfl) hHeld1 ?_
    try simp only [aZ]
    have e0:=(B3.out.cell c0)
    have e1:=(B3.out.cell c1)
    obtain ⟨ef,hgb3⟩:=rowFree R3.out (by rw [HML.out];have:=HLT.out;omega)
    have W4:=hid (rowSet (l:=mergeTo cs a b k) (by rw [HML.out];have:=R3.out;rw [HML.out] at this;exact this) k z (by rw [HML.out];exact HLT.out))
    rw [MS.out,mergeTo_length] at W4
    have G4:=hid (grown_trans G3.out (grown2 w3 gb (k*2) (k*2+1) (.int .i64 z.kind) (.int .i64 z.cls)))
    have S4:=hid (And.intro (((grown2 w3 gb (k*2) (k*2+1) (.int .i64 z.kind) (.int .i64 z.cls)).block wr.heap.size (lt_some X3.out) (fun e=>n1.out (Option.some.inj e))).trans X3.out) (And.intro ((grown2 w3 gb (k*2) (k*2+1) (.int .i64 z.kind) (.int .i64 z.cls)).cell O3.out.1 (fun e=>HNE.out (Option.some.inj e))) ((grown2 w3 gb (k*2) (k*2+1) (.int .i64 z.kind) (.int .i64 z.cls)).cell O3.out.2 (fun e=>HNE.out (Option.some.inj e)))))
    clear b3 hHeld0 hq
    refine rd1 (i:=10) (by kernel_rfl) rfl fun K hK=>?_
    go_simp
    refine hK.out _ _ ⟨c0_of S4.out.1,c1_of S4.out.1,S4.out.2.1,S4.out.2.2⟩ (fun hHeld2=>?_)
    try simp only [aZ]
    refine wpAnyH_done (by kernel_rfl) ?_ _
    have t0:=c0_of S4.out.1
    have t1:=c1_of S4.out.1
    have hrd:nth ty0 (mergeTo cs a b (k+1)) k=z:=by
     rw [←MS.out];exact nth_set_eq (by rw [HML.out];exact HLT.out)
    have rc4:=(rowRd (n:=a.length) (cap:=cap) (l:=mergeTo cs a b (k+1)) (by rw [mergeTo_length];exact W4.out)).c k (by rw [mergeTo_length];exact HLT.out)
    rw [hrd] at rc4
    obtain ⟨s0,s1⟩:=rc4
    have hgb4:=cell_lt s0
    have hwr4:=cell_lt t0
    have hq2:=HQ2.out
    clear hHeld1 hHeld2 hrd e0 e1 ef hgb3 v0 v1 c0 c1 o0 o1 fz hgb hob
    generalize (w3.setCell ⟨gb,k*2,none⟩ (.int .i64 z.kind)).setCell ⟨gb,k*2+1,none⟩ (.int .i64 z.cls)=w4 at *
    cases hz:eqT z x with
    | true =>
     have hz':(decide (z.kind=x.kind)&&decide (z.cls=x.cls))=true:=hz
     rw [hz'] at hq2
     have L2:Hid (lessTo cs a b (k+1)=l0):=by show _=_;rw [LS.out,hz];simp
     clear hz hz'
     go_wp2
     go_quiet (fail)
     go_wp2
     go_roundw
     case rel=>exact ⟨k+1,by omega,by go_num,by rw [L2.out],hid (by rw [mergeTo_length];exact rowBl W4.out (bl_drewN (Bl.refl _) _)),hid (grown_bl2 G4.out (bl_drewN (Bl.refl _) _))⟩
     case measure=>simp [intOf];omega
    | false =>
     have hz':(decide (z.kind=x.kind)&&decide (z.cls=x.cls))=false:=hz
     rw [hz'] at hq2
     have L2:Hid (lessTo cs a b (k+1)=true):=by show _=_;rw [LS.out,hz];simp
     clear hz hz'
     go_wp2
     go_quiet (fail)
     go_wp2
     go_roundw
     case rel=>exact ⟨k+1,by omega,by go_num,by rw [L2.out],hid (by rw [mergeTo_length];exact rowBl W4.out (bl_drewN (Bl.refl _) _)),hid (grown_bl2 G4.out (bl_drewN (Bl.refl _) _))⟩
     case measure=>simp [intOf];omega
  ·have hkn:k=a.length:=by omega
   subst hkn
   have HRR:=RR
   have HGG:=GG
   go_wp2
   go_ret
   exact ⟨rfl,by have:=HRR.out;rw [mergeTo_length] at this;exact this,HGG.out⟩
def idxA (l:List Ty):Int:=match l.findIdx? (fun x=>eqT ty0 x) with
 | some i=>(i:Nat)
 | none=>-1
def hasA (l:List Ty):Bool:=l.any (fun x=>eqT ty0 x)
theorem idxA_has (l:List Ty):decide (0≤idxA l)=hasA l:=by
 unfold idxA hasA
 cases h:l.findIdx? (fun x=>eqT ty0 x) with
 | none =>
  rw [List.findIdx?_eq_none_iff] at h
  have:l.any (fun x=>eqT ty0 x)=false:=by rw [List.any_eq_false];intro x hx;rw [h x hx];decide
  rw [this];decide
 | some i =>
  rw [List.findIdx?_eq_some_iff_getElem] at h
  obtain ⟨h1,h2,-⟩:=h
  have:l.any (fun x=>eqT ty0 x)=true:=by rw [List.any_eq_true];exact ⟨l[i],List.getElem_mem h1,h2⟩
  rw [this];simp
theorem idxA_hit {l:List Ty} {k:Nat} (hk:k<l.length) (hb:∀j,j<k→eqT ty0 (nth ty0 l j)=false) (hx:eqT ty0 (nth ty0 l k)=true):idxA l=(k:Nat):=by
 have:l.findIdx? (fun x=>eqT ty0 x)=some k:=by
  rw [List.findIdx?_eq_some_iff_getElem]
  refine ⟨hk,by rw [←nth_get (d:=ty0) hk];exact hx,fun j hj=>?_⟩
  rw [←nth_get (d:=ty0) (by omega),hb j hj];decide
 unfold idxA;rw [this]
theorem idxA_no {l:List Ty} (hb:∀j,j<l.length→eqT ty0 (nth ty0 l j)=false):idxA l=-1:=by
 have:l.findIdx? (fun x=>eqT ty0 x)=none:=by
  rw [List.findIdx?_eq_none_iff]
  intro x hx
  obtain ⟨j,hj,rfl⟩:=List.getElem_of_mem hx
  rw [←nth_get (d:=ty0) hj];exact hb j hj
 unfold idxA;rw [this]
def RV (w:World) (u:Value) (l:List Ty):Prop:=∃A c,u=.slice A l.length c∧l.length≤1000∧(l.length=0∨∃ob,A=some ⟨ob,0,none⟩∧Rd w ob l)
theorem findex_any (u:Value) (l:List Ty) (w:World) (hu:RV w u l) :
  Calls Tryz.prog 257 #[u,fvV ty0] w fun e w'=>e=.returned (.int .i64 (idxA l))∧Bl w w':=by
 obtain ⟨A,c,rfl,hl,hA⟩:=hu
 have HA:=hid hA
 have HB:Hid (Bl w (w.alloc fvZ)):=(Bl.refl w).alloc _
 have HX:=hid (mblk (w:=w) (cs:=#[.int .i64 0,.int .i64 0]) (t:=233) rfl)
 clear hA
 go_enter Tryz.func257,Tryz.ntmps257
 go_wp2
 go_loopw [8] (fun i wr=>∃k:Nat,k≤l.length∧i=.int .i64 (k:Int)∧Hid (Bl (w.alloc fvZ) wr)∧Hid (∀j,j<k→eqT ty0 (nth ty0 l j)=false)) (fun i _=>l.length-(intOf i).toNat)
 case atStart=>exact ⟨0,Nat.zero_le _,rfl,hid (Bl.refl _),fun j hj=>by omega⟩
 case round =>
  obtain ⟨k,hk,rfl,BB,NN⟩:=hrel
  by_cases hlt:k<l.length
  ·rcases HA.out with h0|⟨ob,hAe,hR⟩
   ·omega
   subst hAe
   have bb:=HB.out.trans BB.out
   obtain ⟨o0,o1⟩:=(hR.bl bb).c k hlt
   have xx:=hid (bl_blk BB.out HX.out)
   have x0:=c0_of xx.out
   have x1:=c1_of xx.out
   have hob:=cell_lt o0
   have hwl:=cell_lt x0
   have hk0:(0:Int)≤(k:Int):=by omega
   have hk1:(k:Int)<(l.length:Int):=by omega
   have hq:∀w,_:=fun w=>eql_fv 0 0 (nth ty0 l k).kind (nth ty0 l k).cls w
   have HLT:=hid hlt
   clear hR bb
   cases he:eqT ty0 (nth ty0 l k) with
   | true =>
    have he':(decide ((0:Int)=(nth ty0 l k).kind)&&decide ((0:Int)=(nth ty0 l k).cls))=true:=he
    rw [he'] at hq
    have EE:=hid (idxA_hit hlt NN.out he)
    clear he he'
    generalize nth ty0 l k=y at *
    go_wp2
    go_quiet (fail)
    go_wp2
    go_ret
    exact ⟨by rw [EE.out];rfl,HB.out.trans (BB.out.trans (bl_drewN (Bl.refl _) _))⟩
   | false =>
    have he':(decide ((0:Int)=(nth ty0 l k).kind)&&decide ((0:Int)=(nth ty0 l k).cls))=false:=he
    rw [he'] at hq
    have N2:Hid (∀j,j<k+1→eqT ty0 (nth ty0 l j)=false):=fun j hj=>by
     by_cases e:j=k
     ·subst e;exact he
     ·exact NN.out j (by omega)
    clear he he'
    generalize nth ty0 l k=y at *
    go_wp2
    go_quiet (fail)
    go_wp2
    go_roundw
    case rel=>exact ⟨k+1,by omega,by go_num,hid (BB.out.trans (bl_drewN (Bl.refl _) _)),N2⟩
    case measure=>simp [intOf];omega
  ·have hkl:k=l.length:=by omega
   subst hkl
   have EE:=hid (idxA_no NN.out)
   go_wp2
   go_ret
   exact ⟨by rw [EE.out];rfl,HB.out.trans BB.out⟩
theorem fhas_any (u:Value) (l:List Ty) (w:World) (hu:RV w u l) :
  Calls Tryz.prog 250 #[u,fvV ty0] w fun e w'=>e=.returned (.bool (hasA l))∧Bl w w':=by
 have HB:Hid (Bl w (w.alloc fvZ)):=(Bl.refl w).alloc _
 have hu2:RV (w.alloc fvZ) u l:=by
  obtain ⟨A,c,h1,h2,h3⟩:=hu
  exact ⟨A,c,h1,h2,h3.elim Or.inl (fun ⟨ob,e,r⟩=>Or.inr ⟨ob,e,r.bl HB.out⟩)⟩
 have HC:=hid (findex_any u l _ hu2)
 have HI:=hid (idxA_has l)
 clear hu hu2
 generalize idxA l=z at *
 generalize hasA l=y at *
 go_enter Tryz.func250,Tryz.ntmps250
 go_wp2_with (go_at_call 257;refine HC.out.mono ?_;rintro e w2 ⟨rfl,b2⟩;have B2:=hid b2;clear b2)
 go_ret
 exact ⟨by rw [←HI.out];rfl,HB.out.trans B2.out⟩
theorem tyCs_news {w:World} {b:Nat} {l:List Ty} (h:Rd w b l):∀j u,(tyCs l)[j]?=some u→w.cell? ⟨b,0+j,none⟩=some u:=by
 intro j u hu
 have hj:j<l.length*2:=by
  rw [←tyCs_length]
  exact (List.getElem?_eq_some_iff.mp hu).1
 have hx:=va_cells (l.map tv) (j/2) (by rw [List.length_map];omega)
 have e2:nth va0 (l.map tv) (j/2)=tv (nth ty0 l (j/2)):=by
  rw [nth_get (l:=l.map tv) (by rw [List.length_map];omega),nth_get (by omega),List.getElem_map]
 rw [e2] at hx
 have hy:=h.c (j/2) (by omega)
 have hm:j=j/2*2∨j=j/2*2+1:=by omega
 have hu:(vaCells (l.map tv))[j]?=some u:=hu
 rcases hm with hm|hm
 ·rw [hm,hx.1] at hu
  rw [hm,Nat.zero_add,hy.1];exact hu
 ·rw [hm,hx.2] at hu
  rw [hm,Nat.zero_add,hy.2];exact hu
theorem tyCs_one (l:List Ty):∀u∈tyCs l,u.oneCell'=true:=fun u hu=>vaCells_one _ u hu
theorem fclone_nil (c:Nat) (w:World):Calls Tryz.prog 206 #[.slice none 0 c] w fun e w'=>e=.returned (.slice none 0 0)∧w'=w:=by
 have q:∀(w:World) (a:Option Addr) (n c n' c':Nat),(binOp .eql 221 (.slice a n c) (.slice none n' c')).run Tryz.prog w=.ok (.bool a.isNone) w:=fun w a n c n' c'=>Lib.run_eql_slice_nil w _ _ a n c n' c' Tryz.underlying221
 go_enter Tryz.func206,Tryz.ntmps206
 go_wp2
 go_ret
 exact ⟨rfl,rfl⟩
theorem fclone_some (a:Addr) (c:Nat) (l:List Ty) (w:World) (hl:l.length≤1000) (hR:∀j u,(tyCs l)[j]?=some u→w.cell? (a.add j)=some u) :
  Calls Tryz.prog 206 #[.slice (some a) l.length c] w fun e w'=>∃v',e=.returned v'∧w'.ownsRow w.heap.size 233 2 v' l.length (tyCs l)∧Bl w w':=by
 obtain ⟨i0,hi0,hz0,hz1,hz2⟩:=info_partsT info_fv3
 have HN:=hid hR
 clear hR
 have q:∀(w:World) (a:Option Addr) (n c n' c':Nat),(binOp .eql 221 (.slice a n c) (.slice none n' c')).run Tryz.prog w=.ok (.bool a.isNone) w:=fun w a n c n' c'=>Lib.run_eql_slice_nil w _ _ a n c n' c' Tryz.underlying221
 go_enter Tryz.func206,Tryz.ntmps206
 go_wp2_with (at_builtin;refine wpList_append_own _ rfl _ _ 221 rfl w.heap.size 233 i0 _ 2 16 Tryz.underlying221 hi0 hz0 hz1 hz2 rfl (by omega) _ _ _ rfl (World.ownsRow_made w #[] 0 (Nat.le_refl _) (Nat.zero_le _) (by simp)) a l.length c (tyCs l) rfl (tyCs_length l) ?qc2 (tyCs_one l) ?qc4 ?qc5 ?qc6 ?_)
 case qc2 =>
  intro j u hj
  exact Lib.cell?_alloc_some _ (HN.out j u hj)
 case qc4=>rw [Nat.zero_add];unfold maxLen;omega
 case qc5=>rw [Nat.zero_add];omega
 case qc6=>simp
 intro v' w2 hown hgrow hnil
 go_wp2
 go_ret
 refine ⟨v',rfl,by simpa using hown,?_⟩
 exact ((Below.refl _ w).alloc (Nat.le_refl _) _).grown hgrow (by simp) (by intro k hk;simp [Value.ownBlock] at hk;omega)
theorem fclone_any (u:Value) (l:List Ty) (w:World) (h:RV w u l):Calls Tryz.prog 206 #[u] w fun e w'=>∃v',e=.returned v'∧w'.ownsRow w.heap.size 233 2 v' l.length (tyCs l)∧Bl w w':=by
 obtain ⟨A,c,rfl,hl,h2⟩:=h
 rcases h2 with h0|⟨ob,rfl,hR⟩
 ·have:l=[]:=List.length_eq_zero_iff.1 h0
  subst this
  cases A with
  | none =>
   refine (fclone_nil c w).mono ?_
   rintro e w' ⟨rfl,rfl⟩
   exact ⟨_,rfl,⟨rfl,Or.inl ⟨rfl,rfl⟩⟩,Bl.refl _⟩
  | some a=>exact fclone_some a c [] w hl (fun j u hu=>by cases hu)
 ·exact fclone_some ⟨ob,0,none⟩ c l w hl (fun j u hu=>by rw [Addr.add_lit];exact tyCs_news hR j u hu)
theorem RV.bl {w w':World} {u:Value} {l:List Ty} (h:RV w u l) (b:Bl w w'):RV w' u l:=by
 obtain ⟨A,c,h1,h2,h3⟩:=h
 exact ⟨A,c,h1,h2,h3.elim Or.inl (fun ⟨ob,e,r⟩=>Or.inr ⟨ob,e,r.bl b⟩)⟩
theorem info_st:(Tryz.prog.info? 223).map (·.size)=some 2:=by kernel_rfl
structure CpQ (s:As) (v0 v1:Value) (w w':World):Prop where
 r0:w'.ownsRow w.heap.size 233 2 v0 s.slots.length (tyCs s.slots)
 r1:w'.ownsRow w.heap.size 233 2 v1 s.stk.length (tyCs s.stk)
 sep:∀c,v0.ownBlock=some c→v1.ownBlock≠some c
 bl:Bl w w'
theorem own_base {w:World} {b b':Nat} {e:TypeId} {size n:Nat} {v:Value} {xs:List Value} (h:w.ownsRow b e size v n xs) (hb:b'≤b):w.ownsRow b' e size v n xs:=by
 refine ⟨h.1,h.2.imp id ?_⟩
 rintro ⟨g,cap,cur,h1,h2,h3⟩
 exact ⟨g,cap,cur,h1,Nat.le_trans hb h2,h3⟩
theorem fcopied_any (b:Nat) (s:As) (vs vk:Value) (w:World) (hb:w.heap[b]?=some (.cells #[vs,vk] 223 (0,0))) (hs:RV w vs s.slots) (hk:RV w vk s.stk) :
  Calls Tryz.prog 171 #[.pointer (some ⟨b,0,none⟩)] w fun e w'=>∃v0 v1,e=.returned (.agg #[v0,v1])∧CpQ s v0 v1 w w':=by
 obtain ⟨A0,c0,e0,-,-⟩:=id hs
 obtain ⟨A1,c1,e1,-,-⟩:=id hk
 subst e0
 subst e1
 have HB:Hid (Bl w (w.alloc (.cells #[.slice none 0 0,.slice none 0 0] 223))):=(Bl.refl w).alloc _
 have Z:=hid (mblk (w:=w) (cs:=#[.slice none 0 0,.slice none 0 0]) (t:=223) rfl)
 have HP:=hid (bl_blk HB.out hb)
 have HS:=hid (hs.bl HB.out)
 have HK:=hid (hk.bl HB.out)
 have hbl:=lt_some HP.out
 have hb0:=lt_some hb
 have hwl:=lt_some Z.out
 clear hb hs hk
 go_enter Tryz.func171,Tryz.ntmps171
 go_wp2
 generalize w.alloc (.cells #[.slice none 0 0,.slice none 0 0] 223)=V at *
 refine wp_region_held_drew (S:=fun w'=>w'.cell? ⟨b,0,none⟩=some (.slice A0 s.slots.length c0)∧w'.cell? ⟨b,1,none⟩=some (.slice A1 s.stk.length c1)) (by kernel_rfl) ?_ (fun hHeld0=>?_)
 ·exact ⟨c0_of HP.out,c1_of HP.out⟩
 iterate 8 (refine tn rfl (by kernel_rfl) (fun _ _ _ h=>h) (by intro _ h;go_split_ands;go_simp<;>with_reducible rfl) hHeld0 ?_;try simp only [aZ])
 refine rd1 (i:=4) (by kernel_rfl) rfl fun K hK=>?_
 go_simp
 go_at_call 206
 refine (fclone_any _ _ V.drew (HS.out.bl (Bl.refl _).drew)).mono ?_
 rintro e w2 ⟨v0,rfl,o2,b2⟩
 have B2:=hid ((Bl.refl V).drew.trans b2)
 have O2:=hid o2
 have P2:=hid (bl_blk B2.out HP.out)
 clear b2 o2
 refine hK.out _ _ ⟨c0_of P2.out,c1_of P2.out⟩ (fun hHeld1=>?_)
 try simp only [aZ]
 refine rd1 (i:=9) (by kernel_rfl) rfl fun K hK=>?_
 go_simp
 go_at_call 206
 refine (fclone_any _ _ w2 (HK.out.bl B2.out)).mono ?_
 rintro e w3 ⟨v1,rfl,o3,b3⟩
 have B3:=hid b3
 have O3:=hid o3
 have P3:=hid (bl_blk B3.out P2.out)
 clear b3 o3
 refine hK.out _ _ ⟨c0_of P3.out,c1_of P3.out⟩ (fun hHeld2=>?_)
 try simp only [aZ]
 clear hHeld0 hHeld1
 have Z3:=hid (bl_blk (B2.out.trans B3.out) Z.out)
 have BV:=hid (B2.out.trans B3.out)
 have sz2:=hid B2.out.size
 have R0:Hid (w3.ownsRow V.heap.size 233 2 v0 s.slots.length (tyCs s.slots)):=rowBl (own_base O2.out (Nat.le_refl _)) B3.out
 have R1:Hid (w3.ownsRow V.heap.size 233 2 v1 s.stk.length (tyCs s.stk)):=own_base O3.out sz2.out
 have SP:Hid (∀c,v0.ownBlock=some c→v1.ownBlock≠some c):=fun c x y=>by
  have l1:=(O2.out.lt c x).2
  have l2:=(O3.out.lt c y).1
  omega
 clear O2 O3 B2 B3 P2 P3 sz2
 as_aux_lemma =>
 obtain ⟨a2,q2,rfl,-,-⟩:=own_formT R0.out
 obtain ⟨a3,q3,rfl,-,-⟩:=own_formT R1.out
 have z0:=c0_of Z3.out
 have z1:=c1_of Z3.out
 have f0:=free_blk Z3.out 0
 have f1:=free_blk Z3.out 1
 refine tn rfl (by kernel_rfl) (fun _ _ _ h=>h) (by intro _ h;go_split_ands;go_simp<;>with_reducible rfl) hHeld2 ?_
 try simp only [aZ]
 refine rd1 (i:=11) (by kernel_rfl) rfl fun K hK=>?_
 go_simp
 have n1:¬b=w.heap.size:=by omega
 have hc:∀i v,w3.cell? ⟨b,i,none⟩=some v→((w3.setCell ⟨w.heap.size,0,none⟩ (.slice a2 s.slots.length q2)).setCell ⟨w.heap.size,1,none⟩ (.slice a3 s.stk.length q3)).cell? ⟨b,i,none⟩=some v:=fun i v h=>by
  rw [World.cell?_of_block (block_far n1 _),World.cell?_of_block (block_far n1 _)];exact h
 refine hK.out _ _ ⟨hc _ _ hHeld2.1,hc _ _ hHeld2.2⟩ (fun hHeld3=>?_)
 clear hc z0 z1 f0 f1 hHeld2 hHeld3 hK n1
 try simp only [aZ]
 refine wpAnyH_done (by kernel_rfl) ?_ _
 go_wp2
 refine bodyPost_ret (results_cell_row rfl _ _ w.heap.size _ _ _ _ rfl (set_two Z3.out) Tryz.underlying223 rfl info_st) rfl ?_
 have hg:=grown_trans (grown_set (w:=w3) w.heap.size 0 (.slice a2 s.slots.length q2)) (grown_set w.heap.size 1 (.slice a3 s.stk.length q3))
 exact ⟨_,_,rfl,own_base (R0.out.kept hg (Or.inr (fun e=>by have:=(R0.out.lt _ e).1;omega))) HB.out.size,own_base (R1.out.kept hg (Or.inr (fun e=>by have:=(R1.out.lt _ e).1;omega))) HB.out.size,SP.out,bl_two (HB.out.trans BV.out) (Nat.le_refl _) _ _⟩
end Go.Proofs.YtgiiapenmjollaaGreat
