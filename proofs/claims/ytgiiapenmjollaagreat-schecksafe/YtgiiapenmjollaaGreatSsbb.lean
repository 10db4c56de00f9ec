import Derived.Test.YtgiiapenmjollaaGreatSsag
import Derived.Test.YtgiiapenmjollaaGreatSsba
namespace Go.Proofs.YtgiiapenmjollaaGreat
set_option linter.all false
set_option maxHeartbeats 40000000
set_option maxRecDepth 100000
open Go.RowKit
theorem argsT_snoc:∀(l:List Ty) (l0:List Ty) (at':Nat) (v:Ty),argsT l0 at' (l++[v])=wrT (argsT l0 at' l) (at'+slotsN l) v
 | [],l0,at',v=>by simp [argsT,slotsN]
 | x::l,l0,at',v=>by
  show argsT (wrT l0 at' x) (at'+slotsN [x]) (l++[v])=wrT (argsT (wrT l0 at' x) (at'+slotsN [x]) l) (at'+slotsN (x::l)) v
  rw [argsT_snoc l,Nat.add_assoc]
  congr 2
theorem argsT_length:∀(l:List Ty) (l0:List Ty) (at':Nat),(argsT l0 at' l).length=l0.length
 | [],l0,at'=>rfl
 | x::l,l0,at'=>by
  show (argsT (wrT l0 at' x) (at'+slotsN [x]) l).length=_
  rw [argsT_length l,wrT_length]
theorem slotsT_ge:∀(l:List Ty),l.length≤slotsN l
 | []=>Nat.le_refl _
 | x::l=>by have:=slotsT_ge l;show l.length+1≤(if x.kind=2 then 2 else 1)+slotsN l;split<;>omega
theorem argsT_pair:∀(l:List Ty) (l0:List Ty) (at':Nat),PairT l0→(∀t∈l,t.kind≠4)→at'+slotsN l≤l0.length→PairT (argsT l0 at' l)
 | [],l0,at',P,_,_=>P
 | x::l,l0,at',P,h4,hs=>by
  have e:slotsN (x::l)=(if x.kind=2 then 2 else 1)+slotsN l:=rfl
  have e1:slotsN [x]=(if x.kind=2 then 2 else 1):=rfl
  rw [e] at hs
  refine argsT_pair l _ _ (wrT_pair P (by split at hs<;>omega) (fun k=>by rw [if_pos k] at hs;omega) (h4 x (List.mem_cons_self ..))) (fun t ht=>h4 t (List.mem_cons_of_mem _ ht)) ?_
  rw [wrT_length,e1]
  omega
theorem takeT_snoc {l:List Ty} {k:Nat} (h:k<l.length):l.take (k+1)=l.take k++[nth ty0 l k]:=by
 rw [List.take_add_one,nth_get h];simp [List.getElem?_eq_getElem h]
theorem slots_takeLe (l:List Ty) (n:Nat):slotsN (l.take n)≤slotsN l:=by
 have:=slots_app (l.take n) (l.drop n)
 rw [List.take_append_drop] at this
 omega
theorem rep_atF:∀(k j:Nat),j<k*2→(tyCs (List.replicate k ty0))[j]?=some (.int .i64 0)
 | 0,j,h=>by omega
 | k+1,0,_=>by rw [List.replicate_succ];rfl
 | k+1,1,_=>by rw [List.replicate_succ];rfl
 | k+1,j+2,h=>by
  rw [List.replicate_succ]
  show (tyCs (List.replicate k ty0))[j]?=_
  exact rep_atF k j (by omega)
theorem made_fv (k:Nat):madeCells #[.int .i64 0,.int .i64 0] (k*2)=(tyCs (List.replicate k ty0)).toArray:=by
 apply Array.ext_getElem?
 intro j
 by_cases hj:j<k*2
 ·have h2:=rep_atF k j hj
  simp only [List.getElem?_toArray,h2]
  unfold madeCells
  have hm:j%2=0∨j%2=1:=by omega
  rcases hm with hm|hm<;>simp [hj,hm]
 ·rw [Array.getElem?_eq_none (by rw [size_madeCells];omega),Array.getElem?_eq_none (by simp [tyCs_length];omega)]
theorem make_fv (n:Nat) (hn:n≤1000000) (u:World):(Instr.makeSlice 221 (.int .i64 (n:Int)) (.int .i64 (n:Int))).run Tryz.prog u=.ok (.slice (some ⟨u.heap.size,0,none⟩) n n) (u.alloc (.cells (tyCs (List.replicate n ty0)).toArray 233)):=by
 obtain ⟨i,hi,hz,hs,hb⟩:=info_partsT info_fv3
 have h:=run_make u 221 233 i _ Tryz.underlying221 hi hz .i64 .i64 (n:Int) (n:Int) (by omega) (Int.le_refl _) (by rw [hb];omega) (by omega)
 rw [hs] at h
 simp only [Int.toNat_natCast] at h
 rw [←made_fv]
 exact h
theorem own_new (w:World) (l:List Ty) (hl:l.length≤maxLen):(w.alloc (.cells (tyCs l).toArray 233)).ownsRow w.heap.size 233 2 (.slice (some ⟨w.heap.size,0,none⟩) l.length l.length) l.length (tyCs l):=by
 refine ⟨tyCs_length l,Or.inr ⟨w.heap.size,l.length,(tyCs l).toArray,rfl,Nat.le_refl _,mblk rfl,Nat.le_refl _,hl,by simp [tyCs_length],?_⟩⟩
 rw [←tyCs_length l]
 simp
structure NsQ (N:Nat) (l:List Ty) (v:Value) (w w':World):Prop where
 own:w'.ownsRow w.heap.size 233 2 v N (tyCs l)
 len:l.length=N
 bl:Bl w w'
theorem ty_width {t:Ty} (h:1≤t.kind∧t.kind≤3):widI t.kind=((if t.kind=2 then 2 else 1:Nat):Int):=by unfold widI;rw [if_neg (by omega)];split<;>rfl
structure NsI (N:Nat) (l:List Ty) (w wr:World):Prop where
 bl:Bl w wr
 sl:Sl wr (w.heap.size+1+1) (w.heap.size+1) N w.heap.size l
 len:l.length=N
 z:wr.heap[w.heap.size]?=some (.cells #[.slice none 0 0,.slice none 0 0] 223 (0,0))
 s:wr.heap[w.heap.size+1+1]?=some (.cells #[.slice (some ⟨w.heap.size+1,0,none⟩) N N,.slice none 0 0] 223 (0,0))
theorem NsI.new (N:Nat) (w:World) (hN:N≤1000):NsI N (List.replicate N ty0) w (((w.alloc (.cells #[.slice none 0 0,.slice none 0 0] 223)).alloc (.cells (tyCs (List.replicate N ty0)).toArray 233)).alloc (.cells #[.slice (some ⟨w.heap.size+1,0,none⟩) N N,.slice none 0 0] 223)):=by
 have hb:=mblk (w:=(w.alloc (.cells #[.slice none 0 0,.slice none 0 0] 223)).alloc (.cells (tyCs (List.replicate N ty0)).toArray 233)) (cs:=#[.slice (some ⟨w.heap.size+1,0,none⟩) N N,.slice none 0 0]) (t:=223) rfl
 have e:((w.alloc (.cells #[.slice none 0 0,.slice none 0 0] 223)).alloc (.cells (tyCs (List.replicate N ty0)).toArray 233)).heap.size=w.heap.size+1+1:=by simp
 have e1:(w.alloc (.cells #[.slice none 0 0,.slice none 0 0] 223)).heap.size=w.heap.size+1:=by simp
 rw [e] at hb
 have ho:=own_new (w.alloc (.cells #[.slice none 0 0,.slice none 0 0] 223)) (List.replicate N ty0) (by rw [List.length_replicate];unfold maxLen;omega)
 rw [e1,List.length_replicate] at ho
 refine ⟨(((Bl.refl w).alloc _).alloc _).alloc _,⟨?_,by omega,?_⟩,List.length_replicate,?_,hb⟩
 ·rw [List.length_replicate];exact c0_of hb
 ·rw [List.length_replicate];exact own_base (rowBl ho ((Bl.refl _).alloc _)) (by omega)
 ·exact bl_blk (((Bl.refl _).alloc _).alloc _) (mblk rfl)
theorem fnewst_any (N:Nat) (ts:List Ty) (P:Option Addr) (pc:Nat) (w:World) (hP:TysAt w P ts) (hN:N≤1000) (hfit:slotsN ts≤N) (hk:∀t∈ts,1≤t.kind∧t.kind≤3) :
  Calls Tryz.prog 165 #[.int .i64 (N:Int),.slice P ts.length pc] w fun e w'=>∃v,e=.returned (.agg #[v,.slice none 0 0])∧NsQ N (argsT (List.replicate N ty0) 0 ts) v w w':=by
 have hlen:ts.length≤N:=by have:=slotsT_ge ts;omega
 have hmk:=make_fv N (by omega)
 have HP:=hid hP
 have HK:=hid hk
 have HFIT:=hid hfit
 have HS:=hid (NsI.new N w hN)
 clear hP hk hfit
 go_enter Tryz.func165,Tryz.ntmps165
 go_wp2
 go_loopw [6,14] (fun at' i wr=>∃j:Nat,j≤ts.length∧i=.int .i64 j∧at'=.int .i64 ((slotsN (ts.take j):Nat):Int)∧Hid (NsI N (argsT (List.replicate N ty0) 0 (ts.take j)) w wr)) (fun _ i _=>ts.length-(intOf i).toNat)
 case atStart=>exact ⟨0,Nat.zero_le _,rfl,by simp [slotsN],HS.out⟩
 case round =>
  clear HS hmk
  obtain ⟨j,hj,rfl,rfl,HR⟩:=hrel
  by_cases hjl:j<ts.length
  ·rcases HP.out.2 with h0|⟨tb,to,rfl,ht⟩
   ·omega
   obtain ⟨x0,x1,-,-⟩:=ht j hjl
   have x0:=HR.out.bl.cell x0
   have x1:=HR.out.bl.cell x1
   have hx:=cell_lt x0
   have ets:=takeT_snoc hjl
   have hv:=HK.out _ (nth_mem (d:=ty0) hjl)
   have hP4:PairT (argsT (List.replicate N ty0) 0 (ts.take j)):=argsT_pair _ _ _ (rep_pairT N) (fun t ht=>by have:=HK.out t (List.mem_of_mem_take ht);omega) (by rw [List.length_replicate];have:=slots_takeLe ts j;have:=HFIT.out;omega)
   have HP4:=hid hP4
   generalize hV:nth ty0 ts j=v at *
   have hsz:slotsN (ts.take (j+1))=slotsN (ts.take j)+(if v.kind=2 then 2 else 1):=by rw [ets,slots_app];rfl
   have hle:slotsN (ts.take (j+1))≤N:=Nat.le_trans (slots_takeLe ts _) HFIT.out
   have hwd:=ty_width hv
   have HSZ:=hid hsz
   have hlt:slotsN (ts.take j)<N:=by split at hsz<;>omega
   have h2:v.kind=2→slotsN (ts.take j)+1<N:=fun e=>by rw [if_pos e] at hsz;omega
   have HETS:=hid ets
   have HV:=hid hv
   have H2:=hid h2
   have HLT:=hid hlt
   obtain ⟨S,hS⟩:∃S,slotsN (ts.take j)=S:=⟨_,rfl⟩
   have HSE:=hid hS
   obtain ⟨W,hW⟩:∃W,widI v.kind=W:=⟨_,rfl⟩
   have HW:=hid (hW.symm.trans hwd)
   have hWb:0≤W∧W≤2:=by rw [←hW];exact widI_bounds _
   rw [hS]
   rw [hS] at hlt
   have hk0:¬(j:Int)<0:=by omega
   have hk1:(j:Int)<(ts.length:Int):=by omega
   have BA:Hid (Bl wr (wr.alloc (.cells #[.int .i64 v.kind,.int .i64 v.cls] 45))):=(Bl.refl wr).alloc _
   have HBN:=hid (mblk (w:=wr) (cs:=#[.int .i64 v.kind,.int .i64 v.cls]) (t:=45) rfl)
   have HNE:Hid (w.heap.size+1+1<wr.heap.size):=lt_some HR.out.s
   clear hsz hle hwd h2 ets hv hV hS hP4 ht
   go_wp2_with (first
    | (go_at_call 202;refine (fwrite_any (w.heap.size+1+1) (w.heap.size+1) N w.heap.size (argsT (List.replicate N ty0) 0 (ts.take j)) S v _ (HR.out.sl.bl BA.out) (by rw [HR.out.len];exact hlt) (by rw [HR.out.len];exact hN) HP4.out (by rw [HR.out.len,←HSE.out];exact H2.out)).mono ?_;rintro e w1 ⟨rfl,L1,G1⟩;have y0:=c0_of ((G1.block _ (lt_some HBN.out) (fun e=>by have:=HNE.out;have:=Option.some.inj e;omega)).trans HBN.out);have hy:=cell_lt y0;have L1:=hid L1;have G1:=hid G1)
    | (go_at_call 85;refine (width_any _ _).mono ?_;rintro e w2 ⟨he,hw2⟩;rw [hW] at he;subst he;rw [hw2];clear hw2 w2))
   go_roundw
   case rel =>
    have hS:=HSE.out
    have hsz:=HSZ.out
    have hWW:=HW.out
    have kp:∀b o,wr.heap[b]?=some o→b≠w.heap.size+1→w1.heap[b]?=some o:=fun b o hb hn=>(G1.out.block b (lt_some (bl_blk BA.out hb)) (fun e=>hn (Option.some.inj e))).trans (bl_blk BA.out hb)
    refine ⟨j+1,by omega,by go_num,?_,?_,?_,?_,kp _ _ HR.out.z (by omega),kp _ _ HR.out.s (by omega)⟩
    ·rw [hsz,hS,hWW];simp
    ·exact Below.grown (HR.out.bl.trans BA.out) G1.out (HR.out.bl.trans BA.out).size (fun k hk=>by cases hk;omega)
    ·rw [HETS.out,argsT_snoc,Nat.zero_add,hS];exact L1.out
    ·rw [argsT_length,List.length_replicate]
   case measure=>simp [intOf];omega
  ·obtain rfl:j=ts.length:=by omega
   have z0:=cell_blk (i:=0) HR.out.z
   have z1:=cell_blk (i:=1) HR.out.z
   have s0:=c0_of HR.out.s
   have s1:=c1_of HR.out.s
   have hz:=lt_some HR.out.z
   have hs:=lt_some HR.out.s
   have fz:=free_blk HR.out.z
   go_wp2
   refine bodyPost_ret (results_cell_row rfl _ _ w.heap.size _ _ _ _ rfl (set_two HR.out.z) Tryz.underlying223 rfl info_st) rfl ?_
   have hr:=HR.out.sl.row
   have hl:=HR.out.len
   rw [List.take_length] at hr hl
   rw [hl] at hr
   have hg:=grown2 wr w.heap.size 0 1 (.slice (some ⟨w.heap.size+1,0,none⟩) N N) (.slice none 0 0)
   exact ⟨_,rfl,hr.kept hg (Or.inr (fun e=>by simp [Value.ownBlock] at e)),hl,bl_two HR.out.bl (Nat.le_refl _) _ _⟩
theorem info_int3:(Tryz.prog.info? 3).map (fun i=>(i.zero,i.size,i.bytes))=some (some (.int .i64 0),1,8):=by kernel_rfl
theorem info_ints3:(Tryz.prog.info? 53).map (fun i=>(i.zero,i.size,i.bytes))=some (some (.slice none 0 0),1,24):=by kernel_rfl
theorem make_ints (n:Nat) (hn:n≤1000) (u:World):(Instr.makeSlice 53 (.int .i64 (n:Int)) (.int .i64 (n:Int))).run Tryz.prog u=.ok (.slice (some ⟨u.heap.size,0,none⟩) n n) (u.alloc (.cells (madeCells #[.int .i64 0] n) 3)):=by
 obtain ⟨i,hi,hz,hs,hb⟩:=info_partsT info_int3
 have h:=run_make u 53 3 i _ Tryz.underlying53 hi hz .i64 .i64 (n:Int) (n:Int) (by omega) (Int.le_refl _) (by rw [hb];omega) (by omega)
 rw [hs] at h
 simp only [Int.toNat_natCast,Nat.mul_one] at h
 exact h
theorem make_rows (n:Nat) (hn:n≤1000) (u:World):(Instr.makeSlice 225 (.int .i64 (n:Int)) (.int .i64 (n:Int))).run Tryz.prog u=.ok (.slice (some ⟨u.heap.size,0,none⟩) n n) (u.alloc (.cells (madeCells #[.slice none 0 0] n) 53)):=by
 obtain ⟨i,hi,hz,hs,hb⟩:=info_partsT info_ints3
 have h:=run_make u 225 53 i _ Tryz.underlying225 hi hz .i64 .i64 (n:Int) (n:Int) (by omega) (Int.le_refl _) (by rw [hb];omega) (by omega)
 rw [hs] at h
 simp only [Int.toNat_natCast,Nat.mul_one] at h
 exact h
structure JI (l:List Cl) (w wr:World) (jb q:Nat) (R:Nat→Nat):Prop where
 bl:Bl w wr
 lo:w.heap.size≤jb
 blk:∃cs:Array Value,wr.heap[jb]?=some (.cells cs 53 (0,0))∧cs.size=l.length
 row:∀i,i<q→w.heap.size≤R i∧R i≠jb∧R i<wr.heap.size∧wr.cell? ⟨jb,i,none⟩=some (.slice (some ⟨R i,0,none⟩) l.length l.length)∧∀j,j<l.length→wr.cell? ⟨R i,j,none⟩=some (.int .i64 (joinN l i j:Nat))
theorem JI.ext {l:List Cl} {w wr wr':World} {jb q:Nat} {R:Nat→Nat} (J:JI l w wr jb q R) (h:Bl wr wr'):JI l w wr' jb q R:=by
 obtain ⟨cs,h1,h2⟩:=J.blk
 exact ⟨J.bl.trans h,J.lo,⟨cs,bl_blk h h1,h2⟩,fun i hi=>⟨(J.row i hi).1,(J.row i hi).2.1,Nat.lt_of_lt_of_le (J.row i hi).2.2.1 h.size,h.cell (J.row i hi).2.2.2.1,fun j hj=>h.cell ((J.row i hi).2.2.2.2 j hj)⟩⟩
structure JJ (l:List Cl) (w wr:World) (jb q:Nat) (R:Nat→Nat) (rb p:Nat):Prop where
 ji:JI l w wr jb q R
 lo:w.heap.size≤rb
 ne:rb≠jb
 nr:∀i,i<q→R i≠rb
 c:wr.cell? ⟨jb,q,none⟩=some (.slice (some ⟨rb,0,none⟩) l.length l.length)
 blk:∃cs:Array Value,wr.heap[rb]?=some (.cells cs 3 (0,0))∧cs.size=l.length
 cell:∀j,j<p→wr.cell? ⟨rb,j,none⟩=some (.int .i64 (joinN l q j:Nat))
theorem cell_setI {w:World} {b i:Nat} {cs:Array Value} {t:TypeId} (h:w.heap[b]?=some (.cells cs t (0,0))) (hi:i<cs.size) (v:Value):(w.setCell ⟨b,i,none⟩ v).cell? ⟨b,i,none⟩=some v:=by
 rw [cell_blk (block_set h v)]
 simp [hi]
theorem cell_setN {w:World} {b i j:Nat} {cs:Array Value} {t:TypeId} (h:w.heap[b]?=some (.cells cs t (0,0))) (hij:i≠j) (v:Value):(w.setCell ⟨b,i,none⟩ v).cell? ⟨b,j,none⟩=w.cell? ⟨b,j,none⟩:=by
 rw [cell_blk (block_set h v),cell_blk h]
 simp [hij]
theorem JJ.ext {l:List Cl} {w wr wr':World} {jb q rb p:Nat} {R:Nat→Nat} (J:JJ l w wr jb q R rb p) (h:Bl wr wr'):JJ l w wr' jb q R rb p:=by
 obtain ⟨cs,h1,h2⟩:=J.blk
 exact ⟨J.ji.ext h,J.lo,J.ne,J.nr,h.cell J.c,⟨cs,bl_blk h h1,h2⟩,fun j hj=>h.cell (J.cell j hj)⟩
theorem JI.lay {l:List Cl} {w wr:World} {jb q:Nat} {R:Nat→Nat} (J:JI l w wr jb q R) (hq:q<l.length):JJ l w ((wr.setCell ⟨jb,q,none⟩ (.slice (some ⟨wr.heap.size,0,none⟩) l.length l.length)).alloc (.cells (madeCells #[.int .i64 0] l.length) 3)) jb q R wr.heap.size 0:=by
 obtain ⟨cs,h1,h2⟩:=J.blk
 have hjl:=lt_some h1
 have es:(wr.setCell ⟨jb,q,none⟩ (.slice (some ⟨wr.heap.size,0,none⟩) l.length l.length)).heap.size=wr.heap.size:=by simp
 have B:Bl (wr.setCell ⟨jb,q,none⟩ (.slice (some ⟨wr.heap.size,0,none⟩) l.length l.length)) ((wr.setCell ⟨jb,q,none⟩ (.slice (some ⟨wr.heap.size,0,none⟩) l.length l.length)).alloc (.cells (madeCells #[.int .i64 0] l.length) 3)):=(Bl.refl _).alloc _
 refine ⟨JI.ext (wr:=wr.setCell ⟨jb,q,none⟩ (.slice (some ⟨wr.heap.size,0,none⟩) l.length l.length)) ⟨J.bl.setCell J.lo _,J.lo,⟨_,block_set h1 _,by simp [h2]⟩,fun i hi=>?_⟩ B,J.bl.size,by omega,fun i hi=>by have:=(J.row i hi).2.2.1;omega,B.cell (cell_setI h1 (by omega) _),⟨madeCells #[.int .i64 0] l.length,mblk es.symm,by rw [size_madeCells]⟩,fun j hj=>by omega⟩
 obtain ⟨a1,a2,a3,a4,a5⟩:=J.row i hi
 refine ⟨a1,a2,by rw [es];exact a3,?_,fun j hj=>?_⟩
 ·rw [cell_setN h1 (by omega)];exact a4
 ·rw [World.cell?_of_block (block_far a2 _)];exact a5 j hj
theorem JJ.set {l:List Cl} {w wr:World} {jb q rb p:Nat} {R:Nat→Nat} (J:JJ l w wr jb q R rb p) (hp:p<l.length):JJ l w (wr.setCell ⟨rb,p,none⟩ (.int .i64 (joinN l q p:Nat))) jb q R rb (p+1):=by
 obtain ⟨cs,h1,h2⟩:=J.blk
 obtain ⟨cs2,k1,k2⟩:=J.ji.blk
 have nj:jb≠rb:=fun e=>J.ne e.symm
 have es:(wr.setCell ⟨rb,p,none⟩ (.int .i64 (joinN l q p:Nat))).heap.size=wr.heap.size:=by simp
 refine ⟨⟨J.ji.bl.setCell J.lo _,J.ji.lo,⟨cs2,(block_far nj _).trans k1,k2⟩,fun i hi=>?_⟩,J.lo,J.ne,J.nr,?_,⟨_,block_set h1 _,by simp [h2]⟩,fun j hj=>?_⟩
 ·obtain ⟨a1,a2,a3,a4,a5⟩:=J.ji.row i hi
  refine ⟨a1,a2,by rw [es];exact a3,?_,fun j hj=>?_⟩
  ·rw [World.cell?_of_block (block_far nj _)];exact a4
  ·rw [World.cell?_of_block (block_far (J.nr i hi) _)];exact a5 j hj
 ·rw [World.cell?_of_block (block_far nj _)];exact J.c
 ·by_cases e:p=j
  ·subst e;exact cell_setI h1 (by omega) _
  ·rw [cell_setN h1 e];exact J.cell j (by omega)
theorem JJ.done {l:List Cl} {w wr:World} {jb q rb:Nat} {R:Nat→Nat} (J:JJ l w wr jb q R rb l.length):JI l w wr jb (q+1) (fun i=>if i=q then rb else R i):=by
 obtain ⟨cs,h1,h2⟩:=J.blk
 refine ⟨J.ji.bl,J.ji.lo,J.ji.blk,fun i hi=>?_⟩
 split
 ·rename_i e;subst e;exact ⟨J.lo,J.ne,lt_some h1,J.c,J.cell⟩
 ·exact J.ji.row i (by omega)
theorem JI.new {l:List Cl} {w w1:World} (h:Bl w w1):JI l w (w1.alloc (.cells (madeCells #[.slice none 0 0] l.length) 53)) w1.heap.size 0 (fun _=>0) :=
 ⟨h.alloc _,h.size,⟨_,mblk rfl,by rw [size_madeCells]⟩,fun i hi=>by omega⟩
def JnQ (l:List Cl) (w:World) (e:Ending) (w':World):Prop:=∃jb R,e=.returned (.slice (some ⟨jb,0,none⟩) l.length l.length)∧JI l w w' jb l.length R
theorem joins_any (A:Option Addr) (c:Nat) (l:List Cl) (w:World) (hm:mayB l=true) (hl:ClsAt w A l) :
  Calls Tryz.prog 166 #[.slice A l.length c] w fun e w'=>JnQ l w e w':=by
 obtain ⟨ht,-,h12⟩:=may_tree hm
 have HL:=hid hl
 have HM:=hid hm
 have HT:=hid ht
 have mk1:=make_rows l.length (by omega)
 have mk2:=make_ints l.length (by omega)
 clear hl hm ht
 go_enter Tryz.func166,Tryz.ntmps166
 go_wp2_with (go_at_call 34;refine (may_any _ _ _ _ HL.out).mono ?_;rintro e w1 ⟨he,b1⟩;rw [HM.out] at he;subst he;have J0:=hid (JI.new (l:=l) b1);clear b1)
 obtain ⟨jb,hjb⟩:∃jb,jb=w1.heap.size:=⟨_,rfl⟩
 rw [←hjb] at J0 ⊢
 clear mk1
 go_loopw [14] (fun i wr=>∃(q:Nat) (R:Nat→Nat),q≤l.length∧i=.int .i64 q∧Hid (JI l w wr jb q R)) (fun i _=>l.length-(intOf i).toNat)
 case atStart=>exact ⟨0,_,Nat.zero_le _,rfl,J0.out⟩
 case round =>
  clear J0 hjb
  obtain ⟨q,R,hq,rfl,HR⟩:=hrel
  rename World=>w0
  by_cases hql:q<l.length
  ·have hq0:¬(q:Int)<0:=by omega
   have hq1:(q:Int)<(l.length:Int):=by omega
   have hq2:(0:Int)≤(q:Int):=by omega
   obtain ⟨cs,hb1,hb2⟩:=HR.out.blk
   have hjl:=lt_some hb1
   have fz:=free_blk hb1
   have hcq:∃v,w0.cell? ⟨jb,q,none⟩=some v:=⟨_,(cell_blk hb1).trans (Array.getElem?_eq_getElem (by omega))⟩
   obtain ⟨vq,hvq⟩:=hcq
   have J1:=hid (HR.out.lay hql)
   clear hb1 hb2
   go_wp2
   obtain ⟨rb,hrb⟩:∃rb,rb=w0.heap.size:=⟨_,rfl⟩
   rw [←hrb] at J1 ⊢
   clear mk2 hjl fz hvq vq
   go_loopw [25] (fun i wr2=>∃p:Nat,p≤l.length∧i=.int .i64 p∧Hid (JJ l w wr2 jb q R rb p)) (fun i _=>l.length-(intOf i).toNat)
   case atStart=>exact ⟨0,Nat.zero_le _,rfl,J1.out⟩
   case round =>
    clear J1 hrb
    obtain ⟨p,hp,rfl,HJ⟩:=hrel
    by_cases hpl:p<l.length
    ·have hp0:¬(p:Int)<0:=by omega
     have hp1:(p:Int)<(l.length:Int):=by omega
     have hp2:(0:Int)≤(p:Int):=by omega
     have c0:=HJ.out.c
     have hc0:=cell_lt c0
     go_wp2
     refine wp_region_held_drew (S:=fun w'=>w'.cell? ⟨jb,q,none⟩=some (.slice (some ⟨rb,0,none⟩) l.length l.length)) (by kernel_rfl) ?_ (fun hHeld0=>?_)
     ·exact c0
     iterate 8 (refine tn rfl (by kernel_rfl) (fun _ _ _ h=>h) (by intro _ h;go_split_ands;go_simp<;>with_reducible rfl) hHeld0 ?_;try simp only [aZ])
     refine rd1 (i:=8) (by kernel_rfl) rfl fun K hK=>?_
     go_simp
     go_at_call 203
     refine (join_any A c l q p HT.out hql hpl _ (HL.out.bl (HJ.out.ji.bl.trans (Bl.refl _).drew))).mono ?_
     rintro e w5 ⟨rfl,b5⟩
     have J5:=hid (HJ.out.ext ((Bl.refl _).drew.trans b5))
     clear b5
     obtain ⟨cs5,k1,k2⟩:=J5.out.blk
     have hl5:=lt_some k1
     have fz5:=free_blk k1
     have hc5:∃v,w5.cell? ⟨rb,p,none⟩=some v:=⟨_,(cell_blk k1).trans (Array.getElem?_eq_getElem (by omega))⟩
     obtain ⟨v5,hv5⟩:=hc5
     have J6:=hid (J5.out.set hpl)
     clear k1 k2
     refine hK.out _ _ J5.out.c (fun hHeld1=>?_)
     try simp only [aZ]
     clear hK
     refine tn rfl (by kernel_rfl) (fun _ _ _ h=>h) (by intro _ h;go_split_ands;go_simp<;>with_reducible rfl) hHeld1 ?_
     try simp only [aZ]
     refine rd1 (i:=10) (by kernel_rfl) rfl fun K hK=>?_
     go_simp
     refine hK.out _ _ J6.out.c (fun hHeld2=>?_)
     try simp only [aZ]
     clear hK hHeld0 hHeld1 hHeld2 fz5 hv5 v5 hl5
     refine wpAnyH_done (by kernel_rfl) ?_ _
     go_wp2
     go_roundw
     case rel=>exact ⟨p+1,by omega,by go_num,J6.out⟩
     case measure=>simp [intOf];omega
    ·obtain rfl:p=l.length:=by omega
     have J9:=hid HJ.out.done
     go_wp2
     go_roundw
     case rel=>exact ⟨q+1,_,by omega,by go_num,J9.out⟩
     case measure=>simp [intOf];omega
  ·obtain rfl:q=l.length:=by omega
   go_wp2
   go_ret
   exact ⟨jb,R,rfl,HR.out⟩
section
section
variable {X:Nat→Prop} {wx w0 w1:World} {g:Gf} {b0:Nat} {w:World} {cur s:As} {at':Int} {st:List (Option As)} {wt:List Int} {f:Fi} {m:Me} {v t:Ty} {k:Int}
theorem ftake_n (C:Cx w0 w1 g f m) (W:Wq f m cur) (H:FX X wx w1 g b0 w cur at' st wt) (h:takeT cur=none):Calls Tryz.prog 210 #[.pointer (some ⟨g.q,0,none⟩)] w fun e w'=>e=upE∧FE X wx w1 g w':=by
 have:=ftake_any C H (by have:=W.len;omega)
 rw [h] at this;exact this
theorem ftake_y (C:Cx w0 w1 g f m) (W:Wq f m cur) (H:FX X wx w1 g b0 w cur at' st wt) (h:takeT cur=some (v,s)):Calls Tryz.prog 210 #[.pointer (some ⟨g.q,0,none⟩)] w fun e w'=>e=.returned (fvV v)∧FX X wx w1 g b0 w' s at' st wt:=by
 have:=ftake_any C H (by have:=W.len;omega)
 rw [h] at this;exact this
theorem ftakeK_n (C:Cx w0 w1 g f m) (W:Wq f m cur) (H:FX X wx w1 g b0 w cur at' st wt) (h:takeK k cur=none):Calls Tryz.prog 173 #[.pointer (some ⟨g.q,0,none⟩),.int .i64 k] w fun e w'=>e=upE∧FE X wx w1 g w':=by
 have:=ftakeK_any C k H (by have:=W.len;omega)
 rw [h] at this;exact this
theorem ftakeK_y (C:Cx w0 w1 g f m) (W:Wq f m cur) (H:FX X wx w1 g b0 w cur at' st wt) (h:takeK k cur=some (v,s)):Calls Tryz.prog 173 #[.pointer (some ⟨g.q,0,none⟩),.int .i64 k] w fun e w'=>e=.returned (fvV v)∧FX X wx w1 g b0 w' s at' st wt:=by
 have:=ftakeK_any C k H (by have:=W.len;omega)
 rw [h] at this;exact this
theorem ftakeY_n (C:Cx w0 w1 g f m) (W:Wq f m cur) (ht:t.kind=3→0≤t.cls∧t.cls<f.classes.length) (H:FX X wx w1 g b0 w cur at' st wt) (h:takeY f.classes t cur=none):Calls Tryz.prog 212 #[.pointer (some ⟨g.q,0,none⟩),.agg #[.int .i64 t.kind,.int .i64 t.cls]] w fun e w'=>e=upE∧FE X wx w1 g w':=by
 have:=ftakeY_any C t H (by have:=W.len;omega) (fun v hv=>(W.wf.st v hv).1) ht
 rw [h] at this;exact this
theorem ftakeY_y (C:Cx w0 w1 g f m) (W:Wq f m cur) (ht:t.kind=3→0≤t.cls∧t.cls<f.classes.length) (H:FX X wx w1 g b0 w cur at' st wt) (h:takeY f.classes t cur=some s):Calls Tryz.prog 212 #[.pointer (some ⟨g.q,0,none⟩),.agg #[.int .i64 t.kind,.int .i64 t.cls]] w fun e w'=>e=.returned (.tuple #[])∧FX X wx w1 g b0 w' s at' st wt:=by
 have:=ftakeY_any C t H (by have:=W.len;omega) (fun v hv=>(W.wf.st v hv).1) ht
 rw [h] at this;exact this
theorem fput_n (C:Cx w0 w1 g f m) (W:Wq f m cur) (hv:tyOk f.classes.length v) (H:FX X wx w1 g b0 w cur at' st wt) (h:putT m.stack v cur=none):Calls Tryz.prog 213 #[.pointer (some ⟨g.q,0,none⟩),fvV v] w fun e w'=>e=upE∧FE X wx w1 g w':=by
 have:=fput_any C v H (by have:=W.len;omega) (fun t ht=>(W.wf.st t ht).2) hv.2
 rw [h] at this;exact this
theorem fput_y (C:Cx w0 w1 g f m) (W:Wq f m cur) (hv:tyOk f.classes.length v) (H:FX X wx w1 g b0 w cur at' st wt) (h:putT m.stack v cur=some s):Calls Tryz.prog 213 #[.pointer (some ⟨g.q,0,none⟩),fvV v] w fun e w'=>e=.returned (.tuple #[])∧FX X wx w1 g b0 w' s at' st wt:=by
 have:=fput_any C v H (by have:=W.len;omega) (fun t ht=>(W.wf.st t ht).2) hv.2
 rw [h] at this;exact this
def takeTwo (k:Int) (s:As):Option As:=(takeK k s).bind fun p=>(takeK k p.2).bind fun q=>some q.2
theorem ftwo_n (C:Cx w0 w1 g f m) (W:Wq f m cur) (H:FX X wx w1 g b0 w cur at' st wt) (h:takeTwo k cur=none):Calls Tryz.prog 240 #[.pointer (some ⟨g.q,0,none⟩),.int .i64 k] w fun e w'=>e=upE∧FE X wx w1 g w':=by
 unfold takeTwo at h
 have HC:=hid C
 have HW:=hid W
 have HH:=hid H
 clear C W H
 cases h1:takeK k cur with
 | none =>
  have H1:=hid h1
  clear h h1
  go_enter Tryz.func240,Tryz.ntmps240
  go_wp2_with (go_at_call 173;refine (ftakeK_n HC.out HW.out HH.out H1.out).mono ?_;rintro e w2 ⟨rfl,f2⟩)
  exact ⟨rfl,rfl,f2⟩
 | some p =>
  obtain ⟨v1,s1⟩:=p
  rw [h1] at h
  have W1:=hid (HW.out.takeK h1).1
  cases h2:takeK k s1 with
  | some q=>rw [Option.bind_some,h2] at h;exact absurd h (by simp)
  | none =>
   have H1:=hid h1
   have H2:=hid h2
   clear h h1 h2
   go_enter Tryz.func240,Tryz.ntmps240
   go_wp2_with (first
    | (go_at_call 173;refine (ftakeK_n HC.out W1.out f2 H2.out).mono ?_;rintro e w3 ⟨rfl,f3⟩)
    | (go_at_call 173;refine (ftakeK_y HC.out HW.out HH.out H1.out).mono ?_;rintro e w2 ⟨rfl,f2⟩))
   exact ⟨rfl,rfl,f3⟩
theorem ftwo_y (C:Cx w0 w1 g f m) (W:Wq f m cur) (H:FX X wx w1 g b0 w cur at' st wt) (h:takeTwo k cur=some s):Calls Tryz.prog 240 #[.pointer (some ⟨g.q,0,none⟩),.int .i64 k] w fun e w'=>e=.returned (.tuple #[])∧FX X wx w1 g b0 w' s at' st wt:=by
 unfold takeTwo at h
 rw [Option.bind_eq_some_iff] at h
 obtain ⟨⟨v1,s1⟩,h1,h2⟩:=h
 rw [Option.bind_eq_some_iff] at h2
 obtain ⟨⟨v2,s2⟩,h2,h3⟩:=h2
 have h3:=Option.some.inj h3
 dsimp only at h2 h3
 subst h3
 have HC:=hid C
 have HW:=hid W
 have HH:=hid H
 have W1:=hid (W.takeK h1).1
 have H1:=hid h1
 have H2:=hid h2
 clear C W H h1 h2
 go_enter Tryz.func240,Tryz.ntmps240
 go_wp2_with (first
  | (go_at_call 173;refine (ftakeK_y HC.out W1.out f2 H2.out).mono ?_;rintro e w3 ⟨rfl,f3⟩)
  | (go_at_call 173;refine (ftakeK_y HC.out HW.out HH.out H1.out).mono ?_;rintro e w2 ⟨rfl,f2⟩))
 go_end0
 exact ⟨rfl,f3⟩
theorem frefc_n {c:Int} (C:Cx w0 w1 g f m) (W:Wq f m cur) (hc:0≤c∧c<f.classes.length) (H:FX X wx w1 g b0 w cur at' st wt) (h:takeY f.classes ⟨3,c⟩ cur=none):Calls Tryz.prog 241 #[.pointer (some ⟨g.q,0,none⟩),.int .i64 c] w fun e w'=>e=upE∧FE X wx w1 g w':=by
 have HX:=hid (ftakeY_n C W (fun _=>hc) H h)
 clear C W H h hc
 go_enter Tryz.func241,Tryz.ntmps241
 go_wp2_with (go_at_call 212;refine HX.out.mono ?_;rintro e w2 ⟨rfl,f2⟩)
 exact ⟨rfl,rfl,f2⟩
theorem frefc_y {c:Int} (C:Cx w0 w1 g f m) (W:Wq f m cur) (hc:0≤c∧c<f.classes.length) (H:FX X wx w1 g b0 w cur at' st wt) (h:takeY f.classes ⟨3,c⟩ cur=some s):Calls Tryz.prog 241 #[.pointer (some ⟨g.q,0,none⟩),.int .i64 c] w fun e w'=>e=.returned (.tuple #[])∧FX X wx w1 g b0 w' s at' st wt:=by
 have HX:=hid (ftakeY_y C W (fun _=>hc) H h)
 clear C W H h hc
 go_enter Tryz.func241,Tryz.ntmps241
 go_wp2_with (go_at_call 212;refine HX.out.mono ?_;rintro e w2 ⟨rfl,f2⟩)
 go_end0
 exact ⟨rfl,f2⟩
end
end
section
abbrev insV (op a b c n:Int) (v:Value):Value:=.agg #[.int .i64 op,.int .i64 a,.int .i64 b,.int .i64 c,.int .i64 n,v]
abbrev insO (op a b c n:Int) (v:Value):Obj:=.cells #[.int .i64 op,.int .i64 a,.int .i64 b,.int .i64 c,.int .i64 n,v] 55
theorem info_type:(Tryz.prog.info? 45).map (·.size)=some 2:=by kernel_rfl
section
variable {X:Nat→Prop} {wx w0 w1:World} {g:Gf} {b0:Nat} {w:World} {cur s:As} {at':Int} {st:List (Option As)} {wt:List Int} {f:Fi} {m:Me} {v t:Ty} {k:Int}
theorem ffield_any (C:Cx w0 w1 g f m) (op ic ii:Int) (ia ib:Nat) (A0:Option Addr) (n0 k0:Nat) (H:FX X wx w1 g b0 w cur at' st wt) (ha:ia<f.classes.length) (hb:ib<(nth cl0 f.classes ia).fields.length) :
  Calls Tryz.prog 242 #[.pointer (some ⟨g.q,0,none⟩),insV op ia ib ic ii (.slice A0 n0 k0)] w fun e w'=>e=.returned (fvV (nth ty0 (nth cl0 f.classes ia).fields ib))∧Bl w w':=by
 have q0:=C.q0 H
 have hq:=cell_lt q0
 have bl:=C.bl0 H
 obtain ⟨A,c,e2,hA⟩:=C.cls
 have p2:w.cell? ⟨g.p,2,none⟩=some (.slice A f.classes.length c):=by rw [←e2];exact H.pc.1
 have hp:=cell_lt p2
 rcases hA.2 with h0|⟨cb,co,rfl,hc⟩
 ·omega
 obtain ⟨-,-,A',c',x1,hT⟩:=hc ia ha
 rcases hT.2 with h0|⟨tb,to,rfl,ht⟩
 ·omega
 obtain ⟨y0,y1,-,-⟩:=ht ib hb
 have x1:=bl.cell x1
 have y0:=bl.cell y0
 have y1:=bl.cell y1
 have hx:=cell_lt x1
 have hy:=cell_lt y0
 have ia0:¬(ia:Int)<0:=by omega
 have ia1:(ia:Int)<(f.classes.length:Int):=by omega
 have ib0:¬(ib:Int)<0:=by omega
 have ib1:(ib:Int)<((nth cl0 f.classes ia).fields.length:Int):=by omega
 clear C H bl hA hc hT ht e2
 go_enter Tryz.func242,Tryz.ntmps242
 go_wp2
 go_region
 go_wp2
 refine bodyPost_ret (results_cell_row rfl _ _ (w.heap.size+1) _ _ _ _ rfl (bl_blk (Bl.refl _).drew (mblk (by simp))) Tryz.underlying45 rfl info_type) rfl ?_
 exact ⟨rfl,(((Bl.refl w).alloc _).alloc _).drew⟩
end
end
section
section
variable {X:Nat→Prop} {wx w0 w1:World} {g:Gf} {b0:Nat} {w:World} {cur s:As} {at':Int} {st:List (Option As)} {wt:List Int} {f:Fi} {m:Me} {v t:Ty} {k:Int}
theorem tok1 (n:Nat):tyOk n ⟨1,0⟩:=⟨fun e=>absurd e (by decide),by decide,by decide⟩
theorem tok2 (n:Nat):tyOk n ⟨2,0⟩:=⟨fun e=>absurd e (by decide),by decide,by decide⟩
theorem tok3 (n:Nat):tyOk n ⟨3,-1⟩:=⟨fun _=>Or.inl rfl,by decide,by decide⟩
theorem tokc {n:Nat} {c:Int} (h:0≤c∧c<n):tyOk n ⟨3,c⟩:=⟨fun _=>Or.inr h,by dsimp only;omega,by dsimp only;omega⟩
theorem Wq.two {f:Fi} {m:Me} {s s1:As} {k:Int} (w:Wq f m s) (h:takeTwo k s=some s1):Wq f m s1:=by
 unfold takeTwo at h
 rw [Option.bind_eq_some_iff] at h
 obtain ⟨p,h1,h2⟩:=h
 rw [Option.bind_eq_some_iff] at h2
 obtain ⟨q,h2,h3⟩:=h2
 have h3:=Option.some.inj h3
 subst h3
 exact ((w.takeK h1).1.takeK h2).1
theorem freck6 (C:Cx w0 w1 g f m) (W:Wq f m cur) (ia ib:Int) (ic ii:Int) (A0:Option Addr) (n0 k0:Nat) (H:FX X wx w1 g b0 w cur at' st wt) :
  Calls Tryz.prog 219 #[.pointer (some ⟨g.q,0,none⟩),insV 6 ia ib ic ii (.slice A0 n0 k0)] w fun e w'=>AsQ X wx w1 g b0 at' st wt ((takeTwo 1 cur).bind fun p=>putT m.stack ⟨1,0⟩ p) e w':=by
 have HB:Hid (Bl w (w.alloc (insO 6 ia ib ic ii (.slice A0 n0 k0)))):=(Bl.refl w).alloc _
 have hm30:m.stack≤30:=(smeP C.me).2.1
 have F0:=hid (H.wide HB.out)
 have HC:=hid C
 have HH:=hid H
 have W0:=hid W
 have ZB:=hid (mblk (w:=w) (cs:=#[.int .i64 6,.int .i64 ia,.int .i64 ib,.int .i64 ic,.int .i64 ii,.slice A0 n0 k0]) (t:=55) rfl)
 obtain ⟨r,hr⟩:∃r,r=((takeTwo 1 cur).bind fun p=>putT m.stack ⟨1,0⟩ p):=⟨_,rfl⟩
 rw [←hr]
 replace hr:=hid hr
 clear C W H
 cases h1:takeTwo 1 cur with
 | none =>
  have H1:=hid h1
  clear h1
  have EE:Hid (r=none):=by show r=_;rw [hr.out];simp only [H1.out,Option.bind_some,Option.bind_none]
  go_enter Tryz.func219,Tryz.ntmps219
  go_wp2_with (first
   | (have:=F0;go_at_call 240;refine (ftwo_n HC.out W0.out F0.out H1.out).mono ?_;rintro e wz ⟨rfl,fz⟩))
  refine ⟨rfl,?_⟩
  rw [EE.out]
  exact ⟨rfl,FE.back HH.out HB.out fz⟩
 | some s1 =>
  have H1:=hid h1
  clear h1
  have W1:=hid (W0.out.two H1.out)
  cases h2:putT m.stack ⟨1,0⟩ s1 with
  | none =>
   have H2:=hid h2
   clear h2
   have EE:Hid (r=none):=by show r=_;rw [hr.out];simp only [H1.out,H2.out,Option.bind_some,Option.bind_none]
   go_enter Tryz.func219,Tryz.ntmps219
   go_wp2_with (first
    | (have:=P1i;go_at_call 213;refine (fput_n HC.out W1.out (tok1 _) P1i.out H2.out).mono ?_;rintro e wz ⟨rfl,fz⟩)
    | (have:=F1;go_at_call 214;refine (fint_any _).mono ?_;rintro e wp1 ⟨rfl,bp1⟩;have P1i:=hid (FX.bl F1.out bp1);have Zp1:=hid (P1i.out.box (Nat.le_refl _) (by simp) ZB.out);clear bp1)
    | (have:=F0;go_at_call 240;refine (ftwo_y HC.out W0.out F0.out H1.out).mono ?_;rintro e y1 ⟨rfl,f1⟩;have F1:=hid f1;have Z1:=hid (f1.box (Nat.le_refl _) (by simp) ZB.out);have c1_0:=(cell_blk (i:=0) Z1.out).trans rfl;have c1_1:=(cell_blk (i:=1) Z1.out).trans rfl;have c1_2:=(cell_blk (i:=2) Z1.out).trans rfl;have c1_3:=(cell_blk (i:=3) Z1.out).trans rfl;have c1_4:=(cell_blk (i:=4) Z1.out).trans rfl;have c1_5:=(cell_blk (i:=5) Z1.out).trans rfl;clear f1))
   refine ⟨rfl,?_⟩
   rw [EE.out]
   exact ⟨rfl,FE.back HH.out HB.out fz⟩
  | some s2 =>
   have H2:=hid h2
   clear h2
   have EE:Hid (r=some s2):=by show r=_;rw [hr.out];simp only [H1.out,H2.out,Option.bind_some]
   go_enter Tryz.func219,Tryz.ntmps219
   go_wp2_with (first
    | (have:=P1i;go_at_call 213;refine (fput_y HC.out W1.out (tok1 _) P1i.out H2.out).mono ?_;rintro e y2 ⟨rfl,f2⟩;have F2:=hid f2;have Z2:=hid (f2.box (Nat.le_refl _) (by simp) ZB.out);have c2_0:=(cell_blk (i:=0) Z2.out).trans rfl;have c2_1:=(cell_blk (i:=1) Z2.out).trans rfl;have c2_2:=(cell_blk (i:=2) Z2.out).trans rfl;have c2_3:=(cell_blk (i:=3) Z2.out).trans rfl;have c2_4:=(cell_blk (i:=4) Z2.out).trans rfl;have c2_5:=(cell_blk (i:=5) Z2.out).trans rfl;clear f2)
    | (have:=F1;go_at_call 214;refine (fint_any _).mono ?_;rintro e wp1 ⟨rfl,bp1⟩;have P1i:=hid (FX.bl F1.out bp1);have Zp1:=hid (P1i.out.box (Nat.le_refl _) (by simp) ZB.out);clear bp1)
    | (have:=F0;go_at_call 240;refine (ftwo_y HC.out W0.out F0.out H1.out).mono ?_;rintro e y1 ⟨rfl,f1⟩;have F1:=hid f1;have Z1:=hid (f1.box (Nat.le_refl _) (by simp) ZB.out);have c1_0:=(cell_blk (i:=0) Z1.out).trans rfl;have c1_1:=(cell_blk (i:=1) Z1.out).trans rfl;have c1_2:=(cell_blk (i:=2) Z1.out).trans rfl;have c1_3:=(cell_blk (i:=3) Z1.out).trans rfl;have c1_4:=(cell_blk (i:=4) Z1.out).trans rfl;have c1_5:=(cell_blk (i:=5) Z1.out).trans rfl;clear f1))
   go_end0
   rw [EE.out]
   exact ⟨rfl,FX.back HH.out HB.out F2.out⟩
theorem freck7 (C:Cx w0 w1 g f m) (W:Wq f m cur) (ia ib:Int) (ic ii:Int) (A0:Option Addr) (n0 k0:Nat) (H:FX X wx w1 g b0 w cur at' st wt) :
  Calls Tryz.prog 219 #[.pointer (some ⟨g.q,0,none⟩),insV 7 ia ib ic ii (.slice A0 n0 k0)] w fun e w'=>AsQ X wx w1 g b0 at' st wt ((takeTwo 2 cur).bind fun p=>putT m.stack ⟨2,0⟩ p) e w':=by
 have HB:Hid (Bl w (w.alloc (insO 7 ia ib ic ii (.slice A0 n0 k0)))):=(Bl.refl w).alloc _
 have hm30:m.stack≤30:=(smeP C.me).2.1
 have F0:=hid (H.wide HB.out)
 have HC:=hid C
 have HH:=hid H
 have W0:=hid W
 have ZB:=hid (mblk (w:=w) (cs:=#[.int .i64 7,.int .i64 ia,.int .i64 ib,.int .i64 ic,.int .i64 ii,.slice A0 n0 k0]) (t:=55) rfl)
 obtain ⟨r,hr⟩:∃r,r=((takeTwo 2 cur).bind fun p=>putT m.stack ⟨2,0⟩ p):=⟨_,rfl⟩
 rw [←hr]
 replace hr:=hid hr
 clear C W H
 cases h1:takeTwo 2 cur with
 | none =>
  have H1:=hid h1
  clear h1
  have EE:Hid (r=none):=by show r=_;rw [hr.out];simp only [H1.out,Option.bind_some,Option.bind_none]
  go_enter Tryz.func219,Tryz.ntmps219
  go_wp2_with (first
   | (have:=F0;go_at_call 240;refine (ftwo_n HC.out W0.out F0.out H1.out).mono ?_;rintro e wz ⟨rfl,fz⟩))
  refine ⟨rfl,?_⟩
  rw [EE.out]
  exact ⟨rfl,FE.back HH.out HB.out fz⟩
 | some s1 =>
  have H1:=hid h1
  clear h1
  have W1:=hid (W0.out.two H1.out)
  cases h2:putT m.stack ⟨2,0⟩ s1 with
  | none =>
   have H2:=hid h2
   clear h2
   have EE:Hid (r=none):=by show r=_;rw [hr.out];simp only [H1.out,H2.out,Option.bind_some,Option.bind_none]
   go_enter Tryz.func219,Tryz.ntmps219
   go_wp2_with (first
    | (have:=P1l;go_at_call 213;refine (fput_n HC.out W1.out (tok2 _) P1l.out H2.out).mono ?_;rintro e wz ⟨rfl,fz⟩)
    | (have:=F1;go_at_call 215;refine (flong_any _).mono ?_;rintro e wp1 ⟨rfl,bp1⟩;have P1l:=hid (FX.bl F1.out bp1);have Zp1:=hid (P1l.out.box (Nat.le_refl _) (by simp) ZB.out);clear bp1)
    | (have:=F0;go_at_call 240;refine (ftwo_y HC.out W0.out F0.out H1.out).mono ?_;rintro e y1 ⟨rfl,f1⟩;have F1:=hid f1;have Z1:=hid (f1.box (Nat.le_refl _) (by simp) ZB.out);have c1_0:=(cell_blk (i:=0) Z1.out).trans rfl;have c1_1:=(cell_blk (i:=1) Z1.out).trans rfl;have c1_2:=(cell_blk (i:=2) Z1.out).trans rfl;have c1_3:=(cell_blk (i:=3) Z1.out).trans rfl;have c1_4:=(cell_blk (i:=4) Z1.out).trans rfl;have c1_5:=(cell_blk (i:=5) Z1.out).trans rfl;clear f1))
   refine ⟨rfl,?_⟩
   rw [EE.out]
   exact ⟨rfl,FE.back HH.out HB.out fz⟩
  | some s2 =>
   have H2:=hid h2
   clear h2
   have EE:Hid (r=some s2):=by show r=_;rw [hr.out];simp only [H1.out,H2.out,Option.bind_some]
   go_enter Tryz.func219,Tryz.ntmps219
   go_wp2_with (first
    | (have:=P1l;go_at_call 213;refine (fput_y HC.out W1.out (tok2 _) P1l.out H2.out).mono ?_;rintro e y2 ⟨rfl,f2⟩;have F2:=hid f2;have Z2:=hid (f2.box (Nat.le_refl _) (by simp) ZB.out);have c2_0:=(cell_blk (i:=0) Z2.out).trans rfl;have c2_1:=(cell_blk (i:=1) Z2.out).trans rfl;have c2_2:=(cell_blk (i:=2) Z2.out).trans rfl;have c2_3:=(cell_blk (i:=3) Z2.out).trans rfl;have c2_4:=(cell_blk (i:=4) Z2.out).trans rfl;have c2_5:=(cell_blk (i:=5) Z2.out).trans rfl;clear f2)
    | (have:=F1;go_at_call 215;refine (flong_any _).mono ?_;rintro e wp1 ⟨rfl,bp1⟩;have P1l:=hid (FX.bl F1.out bp1);have Zp1:=hid (P1l.out.box (Nat.le_refl _) (by simp) ZB.out);clear bp1)
    | (have:=F0;go_at_call 240;refine (ftwo_y HC.out W0.out F0.out H1.out).mono ?_;rintro e y1 ⟨rfl,f1⟩;have F1:=hid f1;have Z1:=hid (f1.box (Nat.le_refl _) (by simp) ZB.out);have c1_0:=(cell_blk (i:=0) Z1.out).trans rfl;have c1_1:=(cell_blk (i:=1) Z1.out).trans rfl;have c1_2:=(cell_blk (i:=2) Z1.out).trans rfl;have c1_3:=(cell_blk (i:=3) Z1.out).trans rfl;have c1_4:=(cell_blk (i:=4) Z1.out).trans rfl;have c1_5:=(cell_blk (i:=5) Z1.out).trans rfl;clear f1))
   go_end0
   rw [EE.out]
   exact ⟨rfl,FX.back HH.out HB.out F2.out⟩
theorem freck8 (C:Cx w0 w1 g f m) (W:Wq f m cur) (ia ib:Int) (ic ii:Int) (A0:Option Addr) (n0 k0:Nat) (H:FX X wx w1 g b0 w cur at' st wt) :
  Calls Tryz.prog 219 #[.pointer (some ⟨g.q,0,none⟩),insV 8 ia ib ic ii (.slice A0 n0 k0)] w fun e w'=>AsQ X wx w1 g b0 at' st wt ((takeK 1 cur).bind fun p=>putT m.stack ⟨2,0⟩ p.2) e w':=by
 have HB:Hid (Bl w (w.alloc (insO 8 ia ib ic ii (.slice A0 n0 k0)))):=(Bl.refl w).alloc _
 have hm30:m.stack≤30:=(smeP C.me).2.1
 have F0:=hid (H.wide HB.out)
 have HC:=hid C
 have HH:=hid H
 have W0:=hid W
 have ZB:=hid (mblk (w:=w) (cs:=#[.int .i64 8,.int .i64 ia,.int .i64 ib,.int .i64 ic,.int .i64 ii,.slice A0 n0 k0]) (t:=55) rfl)
 obtain ⟨r,hr⟩:∃r,r=((takeK 1 cur).bind fun p=>putT m.stack ⟨2,0⟩ p.2):=⟨_,rfl⟩
 rw [←hr]
 replace hr:=hid hr
 clear C W H
 cases h1:takeK 1 cur with
 | none =>
  have H1:=hid h1
  clear h1
  have EE:Hid (r=none):=by show r=_;rw [hr.out];simp only [H1.out,Option.bind_some,Option.bind_none]
  go_enter Tryz.func219,Tryz.ntmps219
  go_wp2_with (first
   | (have:=F0;go_at_call 173;refine (ftakeK_n HC.out W0.out F0.out H1.out).mono ?_;rintro e wz ⟨rfl,fz⟩))
  refine ⟨rfl,?_⟩
  rw [EE.out]
  exact ⟨rfl,FE.back HH.out HB.out fz⟩
 | some p1 =>
  obtain ⟨v1,s1⟩:=p1
  have H1:=hid h1
  clear h1
  have W1:=hid ((W0.out.takeK H1.out).1)
  cases h2:putT m.stack ⟨2,0⟩ s1 with
  | none =>
   have H2:=hid h2
   clear h2
   have EE:Hid (r=none):=by show r=_;rw [hr.out];simp only [H1.out,H2.out,Option.bind_some,Option.bind_none]
   go_enter Tryz.func219,Tryz.ntmps219
   go_wp2_with (first
    | (have:=P1l;go_at_call 213;refine (fput_n HC.out W1.out (tok2 _) P1l.out H2.out).mono ?_;rintro e wz ⟨rfl,fz⟩)
    | (have:=F1;go_at_call 215;refine (flong_any _).mono ?_;rintro e wp1 ⟨rfl,bp1⟩;have P1l:=hid (FX.bl F1.out bp1);have Zp1:=hid (P1l.out.box (Nat.le_refl _) (by simp) ZB.out);clear bp1)
    | (have:=F0;go_at_call 173;refine (ftakeK_y HC.out W0.out F0.out H1.out).mono ?_;rintro e y1 ⟨rfl,f1⟩;have F1:=hid f1;have Z1:=hid (f1.box (Nat.le_refl _) (by simp) ZB.out);have c1_0:=(cell_blk (i:=0) Z1.out).trans rfl;have c1_1:=(cell_blk (i:=1) Z1.out).trans rfl;have c1_2:=(cell_blk (i:=2) Z1.out).trans rfl;have c1_3:=(cell_blk (i:=3) Z1.out).trans rfl;have c1_4:=(cell_blk (i:=4) Z1.out).trans rfl;have c1_5:=(cell_blk (i:=5) Z1.out).trans rfl;clear f1))
   refine ⟨rfl,?_⟩
   rw [EE.out]
   exact ⟨rfl,FE.back HH.out HB.out fz⟩
  | some s2 =>
   have H2:=hid h2
   clear h2
   have EE:Hid (r=some s2):=by show r=_;rw [hr.out];simp only [H1.out,H2.out,Option.bind_some]
   go_enter Tryz.func219,Tryz.ntmps219
   go_wp2_with (first
    | (have:=P1l;go_at_call 213;refine (fput_y HC.out W1.out (tok2 _) P1l.out H2.out).mono ?_;rintro e y2 ⟨rfl,f2⟩;have F2:=hid f2;have Z2:=hid (f2.box (Nat.le_refl _) (by simp) ZB.out);have c2_0:=(cell_blk (i:=0) Z2.out).trans rfl;have c2_1:=(cell_blk (i:=1) Z2.out).trans rfl;have c2_2:=(cell_blk (i:=2) Z2.out).trans rfl;have c2_3:=(cell_blk (i:=3) Z2.out).trans rfl;have c2_4:=(cell_blk (i:=4) Z2.out).trans rfl;have c2_5:=(cell_blk (i:=5) Z2.out).trans rfl;clear f2)
    | (have:=F1;go_at_call 215;refine (flong_any _).mono ?_;rintro e wp1 ⟨rfl,bp1⟩;have P1l:=hid (FX.bl F1.out bp1);have Zp1:=hid (P1l.out.box (Nat.le_refl _) (by simp) ZB.out);clear bp1)
    | (have:=F0;go_at_call 173;refine (ftakeK_y HC.out W0.out F0.out H1.out).mono ?_;rintro e y1 ⟨rfl,f1⟩;have F1:=hid f1;have Z1:=hid (f1.box (Nat.le_refl _) (by simp) ZB.out);have c1_0:=(cell_blk (i:=0) Z1.out).trans rfl;have c1_1:=(cell_blk (i:=1) Z1.out).trans rfl;have c1_2:=(cell_blk (i:=2) Z1.out).trans rfl;have c1_3:=(cell_blk (i:=3) Z1.out).trans rfl;have c1_4:=(cell_blk (i:=4) Z1.out).trans rfl;have c1_5:=(cell_blk (i:=5) Z1.out).trans rfl;clear f1))
   go_end0
   rw [EE.out]
   exact ⟨rfl,FX.back HH.out HB.out F2.out⟩
theorem freck9 (C:Cx w0 w1 g f m) (W:Wq f m cur) (ia ib:Int) (ic ii:Int) (A0:Option Addr) (n0 k0:Nat) (H:FX X wx w1 g b0 w cur at' st wt) :
  Calls Tryz.prog 219 #[.pointer (some ⟨g.q,0,none⟩),insV 9 ia ib ic ii (.slice A0 n0 k0)] w fun e w'=>AsQ X wx w1 g b0 at' st wt ((takeK 2 cur).bind fun p=>putT m.stack ⟨1,0⟩ p.2) e w':=by
 have HB:Hid (Bl w (w.alloc (insO 9 ia ib ic ii (.slice A0 n0 k0)))):=(Bl.refl w).alloc _
 have hm30:m.stack≤30:=(smeP C.me).2.1
 have F0:=hid (H.wide HB.out)
 have HC:=hid C
 have HH:=hid H
 have W0:=hid W
 have ZB:=hid (mblk (w:=w) (cs:=#[.int .i64 9,.int .i64 ia,.int .i64 ib,.int .i64 ic,.int .i64 ii,.slice A0 n0 k0]) (t:=55) rfl)
 obtain ⟨r,hr⟩:∃r,r=((takeK 2 cur).bind fun p=>putT m.stack ⟨1,0⟩ p.2):=⟨_,rfl⟩
 rw [←hr]
 replace hr:=hid hr
 clear C W H
 cases h1:takeK 2 cur with
 | none =>
  have H1:=hid h1
  clear h1
  have EE:Hid (r=none):=by show r=_;rw [hr.out];simp only [H1.out,Option.bind_some,Option.bind_none]
  go_enter Tryz.func219,Tryz.ntmps219
  go_wp2_with (first
   | (have:=F0;go_at_call 173;refine (ftakeK_n HC.out W0.out F0.out H1.out).mono ?_;rintro e wz ⟨rfl,fz⟩))
  refine ⟨rfl,?_⟩
  rw [EE.out]
  exact ⟨rfl,FE.back HH.out HB.out fz⟩
 | some p1 =>
  obtain ⟨v1,s1⟩:=p1
  have H1:=hid h1
  clear h1
  have W1:=hid ((W0.out.takeK H1.out).1)
  cases h2:putT m.stack ⟨1,0⟩ s1 with
  | none =>
   have H2:=hid h2
   clear h2
   have EE:Hid (r=none):=by show r=_;rw [hr.out];simp only [H1.out,H2.out,Option.bind_some,Option.bind_none]
   go_enter Tryz.func219,Tryz.ntmps219
   go_wp2_with (first
    | (have:=P1i;go_at_call 213;refine (fput_n HC.out W1.out (tok1 _) P1i.out H2.out).mono ?_;rintro e wz ⟨rfl,fz⟩)
    | (have:=F1;go_at_call 214;refine (fint_any _).mono ?_;rintro e wp1 ⟨rfl,bp1⟩;have P1i:=hid (FX.bl F1.out bp1);have Zp1:=hid (P1i.out.box (Nat.le_refl _) (by simp) ZB.out);clear bp1)
    | (have:=F0;go_at_call 173;refine (ftakeK_y HC.out W0.out F0.out H1.out).mono ?_;rintro e y1 ⟨rfl,f1⟩;have F1:=hid f1;have Z1:=hid (f1.box (Nat.le_refl _) (by simp) ZB.out);have c1_0:=(cell_blk (i:=0) Z1.out).trans rfl;have c1_1:=(cell_blk (i:=1) Z1.out).trans rfl;have c1_2:=(cell_blk (i:=2) Z1.out).trans rfl;have c1_3:=(cell_blk (i:=3) Z1.out).trans rfl;have c1_4:=(cell_blk (i:=4) Z1.out).trans rfl;have c1_5:=(cell_blk (i:=5) Z1.out).trans rfl;clear f1))
   refine ⟨rfl,?_⟩
   rw [EE.out]
   exact ⟨rfl,FE.back HH.out HB.out fz⟩
  | some s2 =>
   have H2:=hid h2
   clear h2
   have EE:Hid (r=some s2):=by show r=_;rw [hr.out];simp only [H1.out,H2.out,Option.bind_some]
   go_enter Tryz.func219,Tryz.ntmps219
   go_wp2_with (first
    | (have:=P1i;go_at_call 213;refine (fput_y HC.out W1.out (tok1 _) P1i.out H2.out).mono ?_;rintro e y2 ⟨rfl,f2⟩;have F2:=hid f2;have Z2:=hid (f2.box (Nat.le_refl _) (by simp) ZB.out);have c2_0:=(cell_blk (i:=0) Z2.out).trans rfl;have c2_1:=(cell_blk (i:=1) Z2.out).trans rfl;have c2_2:=(cell_blk (i:=2) Z2.out).trans rfl;have c2_3:=(cell_blk (i:=3) Z2.out).trans rfl;have c2_4:=(cell_blk (i:=4) Z2.out).trans rfl;have c2_5:=(cell_blk (i:=5) Z2.out).trans rfl;clear f2)
    | (have:=F1;go_at_call 214;refine (fint_any _).mono ?_;rintro e wp1 ⟨rfl,bp1⟩;have P1i:=hid (FX.bl F1.out bp1);have Zp1:=hid (P1i.out.box (Nat.le_refl _) (by simp) ZB.out);clear bp1)
    | (have:=F0;go_at_call 173;refine (ftakeK_y HC.out W0.out F0.out H1.out).mono ?_;rintro e y1 ⟨rfl,f1⟩;have F1:=hid f1;have Z1:=hid (f1.box (Nat.le_refl _) (by simp) ZB.out);have c1_0:=(cell_blk (i:=0) Z1.out).trans rfl;have c1_1:=(cell_blk (i:=1) Z1.out).trans rfl;have c1_2:=(cell_blk (i:=2) Z1.out).trans rfl;have c1_3:=(cell_blk (i:=3) Z1.out).trans rfl;have c1_4:=(cell_blk (i:=4) Z1.out).trans rfl;have c1_5:=(cell_blk (i:=5) Z1.out).trans rfl;clear f1))
   go_end0
   rw [EE.out]
   exact ⟨rfl,FX.back HH.out HB.out F2.out⟩
theorem freck10 (C:Cx w0 w1 g f m) (W:Wq f m cur) (ia ib:Int) (ic ii:Int) (A0:Option Addr) (n0 k0:Nat) (H:FX X wx w1 g b0 w cur at' st wt) :
  Calls Tryz.prog 219 #[.pointer (some ⟨g.q,0,none⟩),insV 10 ia ib ic ii (.slice A0 n0 k0)] w fun e w'=>AsQ X wx w1 g b0 at' st wt ((takeTwo 2 cur).bind fun p=>putT m.stack ⟨1,0⟩ p) e w':=by
 have HB:Hid (Bl w (w.alloc (insO 10 ia ib ic ii (.slice A0 n0 k0)))):=(Bl.refl w).alloc _
 have hm30:m.stack≤30:=(smeP C.me).2.1
 have F0:=hid (H.wide HB.out)
 have HC:=hid C
 have HH:=hid H
 have W0:=hid W
 have ZB:=hid (mblk (w:=w) (cs:=#[.int .i64 10,.int .i64 ia,.int .i64 ib,.int .i64 ic,.int .i64 ii,.slice A0 n0 k0]) (t:=55) rfl)
 obtain ⟨r,hr⟩:∃r,r=((takeTwo 2 cur).bind fun p=>putT m.stack ⟨1,0⟩ p):=⟨_,rfl⟩
 rw [←hr]
 replace hr:=hid hr
 clear C W H
 cases h1:takeTwo 2 cur with
 | none =>
  have H1:=hid h1
  clear h1
  have EE:Hid (r=none):=by show r=_;rw [hr.out];simp only [H1.out,Option.bind_some,Option.bind_none]
  go_enter Tryz.func219,Tryz.ntmps219
  go_wp2_with (first
   | (have:=F0;go_at_call 240;refine (ftwo_n HC.out W0.out F0.out H1.out).mono ?_;rintro e wz ⟨rfl,fz⟩))
  refine ⟨rfl,?_⟩
  rw [EE.out]
  exact ⟨rfl,FE.back HH.out HB.out fz⟩
 | some s1 =>
  have H1:=hid h1
  clear h1
  have W1:=hid (W0.out.two H1.out)
  cases h2:putT m.stack ⟨1,0⟩ s1 with
  | none =>
   have H2:=hid h2
   clear h2
   have EE:Hid (r=none):=by show r=_;rw [hr.out];simp only [H1.out,H2.out,Option.bind_some,Option.bind_none]
   go_enter Tryz.func219,Tryz.ntmps219
   go_wp2_with (first
    | (have:=P1i;go_at_call 213;refine (fput_n HC.out W1.out (tok1 _) P1i.out H2.out).mono ?_;rintro e wz ⟨rfl,fz⟩)
    | (have:=F1;go_at_call 214;refine (fint_any _).mono ?_;rintro e wp1 ⟨rfl,bp1⟩;have P1i:=hid (FX.bl F1.out bp1);have Zp1:=hid (P1i.out.box (Nat.le_refl _) (by simp) ZB.out);clear bp1)
    | (have:=F0;go_at_call 240;refine (ftwo_y HC.out W0.out F0.out H1.out).mono ?_;rintro e y1 ⟨rfl,f1⟩;have F1:=hid f1;have Z1:=hid (f1.box (Nat.le_refl _) (by simp) ZB.out);have c1_0:=(cell_blk (i:=0) Z1.out).trans rfl;have c1_1:=(cell_blk (i:=1) Z1.out).trans rfl;have c1_2:=(cell_blk (i:=2) Z1.out).trans rfl;have c1_3:=(cell_blk (i:=3) Z1.out).trans rfl;have c1_4:=(cell_blk (i:=4) Z1.out).trans rfl;have c1_5:=(cell_blk (i:=5) Z1.out).trans rfl;clear f1))
   refine ⟨rfl,?_⟩
   rw [EE.out]
   exact ⟨rfl,FE.back HH.out HB.out fz⟩
  | some s2 =>
   have H2:=hid h2
   clear h2
   have EE:Hid (r=some s2):=by show r=_;rw [hr.out];simp only [H1.out,H2.out,Option.bind_some]
   go_enter Tryz.func219,Tryz.ntmps219
   go_wp2_with (first
    | (have:=P1i;go_at_call 213;refine (fput_y HC.out W1.out (tok1 _) P1i.out H2.out).mono ?_;rintro e y2 ⟨rfl,f2⟩;have F2:=hid f2;have Z2:=hid (f2.box (Nat.le_refl _) (by simp) ZB.out);have c2_0:=(cell_blk (i:=0) Z2.out).trans rfl;have c2_1:=(cell_blk (i:=1) Z2.out).trans rfl;have c2_2:=(cell_blk (i:=2) Z2.out).trans rfl;have c2_3:=(cell_blk (i:=3) Z2.out).trans rfl;have c2_4:=(cell_blk (i:=4) Z2.out).trans rfl;have c2_5:=(cell_blk (i:=5) Z2.out).trans rfl;clear f2)
    | (have:=F1;go_at_call 214;refine (fint_any _).mono ?_;rintro e wp1 ⟨rfl,bp1⟩;have P1i:=hid (FX.bl F1.out bp1);have Zp1:=hid (P1i.out.box (Nat.le_refl _) (by simp) ZB.out);clear bp1)
    | (have:=F0;go_at_call 240;refine (ftwo_y HC.out W0.out F0.out H1.out).mono ?_;rintro e y1 ⟨rfl,f1⟩;have F1:=hid f1;have Z1:=hid (f1.box (Nat.le_refl _) (by simp) ZB.out);have c1_0:=(cell_blk (i:=0) Z1.out).trans rfl;have c1_1:=(cell_blk (i:=1) Z1.out).trans rfl;have c1_2:=(cell_blk (i:=2) Z1.out).trans rfl;have c1_3:=(cell_blk (i:=3) Z1.out).trans rfl;have c1_4:=(cell_blk (i:=4) Z1.out).trans rfl;have c1_5:=(cell_blk (i:=5) Z1.out).trans rfl;clear f1))
   go_end0
   rw [EE.out]
   exact ⟨rfl,FX.back HH.out HB.out F2.out⟩
end
end
end Go.Proofs.YtgiiapenmjollaaGreat
