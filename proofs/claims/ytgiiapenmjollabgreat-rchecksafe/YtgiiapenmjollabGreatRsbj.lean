import Derived.Test.YtgiiapenmjollabGreatRsbg
namespace Go.Proofs.YtgiiapenmjollabGreat
set_option linter.all false
set_option maxHeartbeats 40000000
set_option maxRecDepth 100000
open Go.RowKit
structure Gr2 (w w':World) (o1 o2:Option Nat):Prop where
 os:w'.os=w.os
 tape:w'.tape=w.tape
 output:w'.output=w.output
 size:w.heap.size≤w'.heap.size
 block:∀k,k<w.heap.size→some k≠o1→some k≠o2→w'.heap[k]?=w.heap[k]?
theorem Gr2.one {w w':World} {o1 o2:Option Nat} (h:w.grownBy w' o1):Gr2 w w' o1 o2:=⟨h.os,h.tape,h.output,h.size,fun k hk h1 _=>h.block k hk h1⟩
theorem Gr2.two {w w':World} {o1 o2:Option Nat} (h:w.grownBy w' o2):Gr2 w w' o1 o2:=⟨h.os,h.tape,h.output,h.size,fun k hk _ h2=>h.block k hk h2⟩
theorem Gr2.bl {w w':World} {o1 o2:Option Nat} (h:Bl w w'):Gr2 w w' o1 o2:=⟨h.os,h.tape,h.output,h.size,fun k hk _ _=>h.block k hk⟩
theorem Gr2.trans {a b c:World} {o1 o2:Option Nat} (h:Gr2 a b o1 o2) (k:Gr2 b c o1 o2):Gr2 a c o1 o2:=⟨k.os.trans h.os,k.tape.trans h.tape,k.output.trans h.output,Nat.le_trans h.size k.size,fun i hi h1 h2=>(k.block i (Nat.lt_of_lt_of_le hi h.size) h1 h2).trans (h.block i hi h1 h2)⟩
theorem Gr2.blk {w w':World} {o1 o2:Option Nat} (h:Gr2 w w' o1 o2) {b:Nat} {o:Obj} (hb:w.heap[b]?=some o) (h1:some b≠o1) (h2:some b≠o2):w'.heap[b]?=some o:=(h.block b (lt_some hb) h1 h2).trans hb
def RVn (w:World) (u:Value) (l:List Ty) (o1 o2:Option Nat):Prop:=∃A c,u=.slice A l.length c∧l.length≤3000∧(l.length=0∨∃ob,A=some ⟨ob,0,none⟩∧some ob≠o1∧some ob≠o2∧Rd w ob l)
theorem RVn.gr {w w':World} {u:Value} {l:List Ty} {o1 o2:Option Nat} (h:RVn w u l o1 o2) (hg:Gr2 w w' o1 o2):RVn w' u l o1 o2:=by
 obtain ⟨A,c,h1,h2,h3⟩:=h
 refine ⟨A,c,h1,h2,h3.elim Or.inl (fun ⟨ob,e,n1,n2,r⟩=>Or.inr ⟨ob,e,n1,n2,⟨fun j hj=>?_⟩⟩)⟩
 have e1:=hg.block ob (cell_lt (r.c j hj).1) n1 n2
 exact ⟨(World.cell?_of_block e1).trans (r.c j hj).1,(World.cell?_of_block e1).trans (r.c j hj).2⟩
theorem fmergeNil (vj:Value) (A B:Option Addr) (c d:Nat) (w:World):Calls Tryz.prog 316 #[vj,.slice A 0 c,.slice B 0 d] w fun e w'=>e=.returned (.bool false)∧Bl w w':=by
 go_enter Tryz.func316,Tryz.ntmps316
 go_wp2
 go_rounds 1
 go_wp2
 go_ret
 exact ⟨rfl,Bl.refl w⟩
theorem fmergeRow (cs:List Cl) (h12:cs.length≤12) (vj v u:Value) (base:Nat) (o2:Option Nat) (a b:List Ty) (w:World) (hab:a.length=b.length) (hr:w.ownsRow base 243 2 v a.length (tyCs a)) (hO:RVn w u b v.ownBlock o2)
  (hJ:∀w',w.grownBy w' v.ownBlock→JnAt w' vj cs) (ha:∀t∈a,refOk cs.length t) (hb:∀t∈b,refOk cs.length t) :
  Calls Tryz.prog 316 #[vj,v,u] w fun e w'=>e=.returned (.bool (lessTo cs a b a.length))∧w'.ownsRow base 243 2 v a.length (tyCs (mergeL cs a b))∧w.grownBy w' v.ownBlock:=by
 obtain ⟨A,c,rfl,h1,h2⟩:=hO
 obtain ⟨A',c',h3,-,-,h4⟩:=rowCell hr
 rcases h2 with h0|⟨ob,rfl,n1,n2,hR⟩
 ·have ha0:a=[]:=List.length_eq_zero_iff.1 (by omega)
  have hb0:b=[]:=List.length_eq_zero_iff.1 h0
  subst ha0;subst hb0
  rw [h3]
  refine (fmergeNil vj A' A c' c w).mono ?_
  rintro e w' ⟨rfl,hbl⟩
  refine ⟨rfl,?_,grownBl hbl _⟩
  have:=rowBl hr hbl
  rw [h3] at this;exact this
 ·rcases h4 with h0|⟨gb,rfl,-,-,-⟩
  ·have ha0:a=[]:=List.length_eq_zero_iff.1 h0
   have hb0:b=[]:=List.length_eq_zero_iff.1 (by omega)
   subst ha0;subst hb0
   rw [h3]
   refine (fmergeNil vj A' (some ⟨ob,0,none⟩) c' c w).mono ?_
   rintro e w' ⟨rfl,hbl⟩
   refine ⟨rfl,?_,grownBl hbl _⟩
   have:=rowBl hr hbl
   rw [h3] at this;exact this
  ·have hob:v.ownBlock=some gb:=by rw [h3];rfl
   rw [hob] at hJ n1 ⊢
   rw [h3] at hr ⊢
   rw [←hab]
   exact fmergeAll_any cs h12 vj gb ob c' c base a b w hab (by omega) (fun e=>n1 (by rw [e])) hr hR hJ ha hb
structure MP (cs:List Cl) (vj:Value) (base b:Nat) (s t:As) (vs vk us uk:Value) (w:World):Prop where
 blk:w.heap[b]?=some (.cells #[vs,vk] 166 (0,0))
 rs:w.ownsRow base 243 2 vs s.slots.length (tyCs s.slots)
 rk:w.ownsRow base 243 2 vk s.stk.length (tyCs s.stk)
 sep:∀c,vs.ownBlock=some c→vk.ownBlock≠some c
 us:RVn w us t.slots vs.ownBlock vk.ownBlock
 uk:RVn w uk t.stk vs.ownBlock vk.ownBlock
 jn:∀w',Gr2 w w' vs.ownBlock vk.ownBlock→JnAt w' vj cs
theorem MP.bl {cs:List Cl} {vj:Value} {base b:Nat} {s t:As} {vs vk us uk:Value} {w w':World} (h:MP cs vj base b s t vs vk us uk w) (k:Bl w w'):MP cs vj base b s t vs vk us uk w' :=
 ⟨bl_blk k h.blk,rowBl h.rs k,rowBl h.rk k,h.sep,h.us.gr (Gr2.bl k),h.uk.gr (Gr2.bl k),fun w2 hg=>h.jn w2 ((Gr2.bl k).trans hg)⟩
def mergeA (cs:List Cl) (s t:As):As:=⟨mergeL cs s.slots t.slots,mergeL cs s.stk t.stk⟩
def lessA (cs:List Cl) (s t:As):Bool:=lessTo cs s.slots t.slots s.slots.length||lessTo cs s.stk t.stk s.stk.length
structure MQ (cs:List Cl) (base b:Nat) (s':As) (vs vk:Value) (w w':World):Prop where
 rs:w'.ownsRow base 243 2 vs s'.slots.length (tyCs s'.slots)
 rk:w'.ownsRow base 243 2 vk s'.stk.length (tyCs s'.stk)
 gr:Gr2 w w' vs.ownBlock vk.ownBlock
theorem fmerge_no (cs:List Cl) (vj:Value) (base b:Nat) (s t:As) (vs vk us uk:Value) (w:World) (H:MP cs vj base b s t vs vk us uk w) (hn:s.stk.length≠t.stk.length) :
  Calls Tryz.prog 305 #[.pointer (some ⟨b,0,none⟩),vj,.agg #[us,uk]] w fun e w'=>e=upE∧Bl w w':=by
 obtain ⟨A,c,hk,-,-⟩:=own_formT H.rk
 obtain ⟨B,d,hu,hul,-⟩:=H.uk
 obtain ⟨A1,c1,hk1,-,-⟩:=own_formT H.rs
 obtain ⟨B1,d1,hu1,-,-⟩:=H.us
 have b1:=c1_of H.blk
 rw [hk] at b1
 subst hu
 subst hu1
 have hbl:=cell_lt b1
 have HB:Hid (Bl w (w.alloc (.cells #[.slice B1 t.slots.length d1,.slice B t.stk.length d] 166))):=(Bl.refl w).alloc _
 have hz:((s.stk.length:Int) !=(t.stk.length:Int))=true:=by have:(s.stk.length:Int)≠(t.stk.length:Int):=(by omega);simpa using this
 clear H hk hk1 hn
 go_enter Tryz.func305,Tryz.ntmps305
 go_wp2
 go_quiet (fail)
 go_wp2_with (go_at_call 286;refine (up_any _).mono ?_;rintro e w3 ⟨rfl,hw⟩;rw [hw];clear hw w3)
 exact ⟨rfl,rfl,HB.out.trans (bl_drewN (Bl.refl _) _)⟩
theorem fmerge_yes (cs:List Cl) (h12:cs.length≤12) (vj:Value) (base b:Nat) (s t:As) (vs vk us uk:Value) (w:World) (H:MP cs vj base b s t vs vk us uk w) (hn:s.stk.length=t.stk.length) (hsl:s.slots.length=t.slots.length)
  (r1:∀x∈s.slots,refOk cs.length x) (r2:∀x∈s.stk,refOk cs.length x) (r3:∀x∈t.slots,refOk cs.length x) (r4:∀x∈t.stk,refOk cs.length x) :
  Calls Tryz.prog 305 #[.pointer (some ⟨b,0,none⟩),vj,.agg #[us,uk]] w fun e w'=>e=(if hasA (mergeL cs s.stk t.stk)=true then upE else .returned (.bool (lessA cs s t)))∧MQ cs base b (mergeA cs s t) vs vk w w':=by
 obtain ⟨r,hr⟩:∃r,r=(if hasA (mergeL cs s.stk t.stk)=true then upE else Ending.returned (.bool (lessA cs s t))):=⟨_,rfl⟩
 rw [←hr]
 replace hr:=hid hr
 obtain ⟨A,c,hk,-,-⟩:=own_formT H.rk
 obtain ⟨B,d,hu,hul,-⟩:=H.uk
 obtain ⟨A1,c1,hk1,-,-⟩:=own_formT H.rs
 obtain ⟨B1,d1,hu1,-,-⟩:=H.us
 have HB:Hid (Bl w (w.alloc (.cells #[us,uk] 166))):=(Bl.refl w).alloc _
 have H1:=hid (H.bl HB.out)
 have ZB:=hid (mblk (w:=w) (cs:=#[us,uk]) (t:=166) rfl)
 have nb1:Hid (some b≠vs.ownBlock):=fun e=>own_far H.rs H.blk (by decide) e.symm
 have nb2:Hid (some b≠vk.ownBlock):=fun e=>own_far H.rk H.blk (by decide) e.symm
 have nz1:Hid (some w.heap.size≠vs.ownBlock):=fun e=>by have:=(H.rs.lt _ e.symm).2;omega
 have nz2:Hid (some w.heap.size≠vk.ownBlock):=fun e=>by have:=(H.rk.lt _ e.symm).2;omega
 have HSL:=hid hsl
 have HN:=hid hn
 have RR:=hid (And.intro r1 (And.intro r2 (And.intro r3 r4)))
 have hz:((s.stk.length:Int) !=(t.stk.length:Int))=false:=by rw [hn];simp
 have ml1:=hid (mergeTo_length cs s.slots t.slots s.slots.length)
 have ml2:=hid (mergeTo_length cs s.stk t.stk s.stk.length)
 have p1:(w.alloc (.cells #[us,uk] 166)).cell? ⟨b,1,none⟩=some (.slice A s.stk.length c):=by rw [←hk];exact c1_of H1.out.blk
 have z1:(w.alloc (.cells #[us,uk] 166)).cell? ⟨w.heap.size,1,none⟩=some (.slice B t.stk.length d):=by rw [←hu];exact c1_of ZB.out
 have hpl:=cell_lt p1
 have hzl:=cell_lt z1
 clear H hn hsl r1 r2 r3 r4 hul
 have HK:=hid hk
 have HU:=hid hu
 clear hk hu hk1 hu1
 go_enter Tryz.func305,Tryz.ntmps305
 go_wp2
 go_quiet (fail)
 go_wp2
 have BV:Hid (Bl w ((w.alloc (.cells #[us,uk] 166)).drewN nq)):=bl_drewN ((Bl.refl _).alloc _) _
 have MV:=hid (H1.out.bl (bl_drewN (Bl.refl _) nq))
 have ZV:=hid (bl_blk (bl_drewN (Bl.refl _) nq) ZB.out)
 clear p1 z1 hpl hzl H1 ZB HB
 generalize (w.alloc (.cells #[us,uk] 166)).drewN nq=V at *
 have MD:=hid (MV.out.bl (Bl.refl V).drew)
 refine wp_region_held_drew (S:=fun w'=>w'.cell? ⟨b,0,none⟩=some vs∧w'.cell? ⟨b,1,none⟩=some vk∧w'.cell? ⟨w.heap.size,0,none⟩=some us∧w'.cell? ⟨w.heap.size,1,none⟩=some uk) (by kernel_rfl) ?_ (fun hHeld0=>?_)
 ·exact ⟨c0_of MV.out.blk,c1_of MV.out.blk,c0_of ZV.out,c1_of ZV.out⟩
 iterate 7 (refine tn rfl (by kernel_rfl) (fun _ _ _ h=>h) (by intro _ h;go_split_ands;go_simp<;>with_reducible rfl) hHeld0 ?_;try simp only [aZ])
 refine rd1 (i:=7) (by kernel_rfl) rfl fun K hK=>?_
 go_simp
 go_at_call 316
 refine (fmergeRow cs h12 vj vs us base vk.ownBlock s.slots t.slots V.drew HSL.out MD.out.rs MD.out.us (fun w' hg=>MD.out.jn w' (Gr2.one hg)) RR.out.1 RR.out.2.2.1).mono ?_
 rintro e w3 ⟨rfl,rs3,g3⟩
 have G3:Hid (Gr2 w w3 vs.ownBlock vk.ownBlock):=(Gr2.bl BV.out.drew).trans (Gr2.one g3)
 have B3:=hid ((Gr2.one (o2:=vk.ownBlock) g3).blk MD.out.blk nb1.out nb2.out)
 have Z3:=hid ((Gr2.one (o2:=vk.ownBlock) g3).blk (bl_blk (Bl.refl V).drew ZV.out) nz1.out nz2.out)
 have K3:Hid (w3.ownsRow base 243 2 vk s.stk.length (tyCs s.stk)):=MD.out.rk.kept g3 (by
  cases h0:vk.ownBlock with
  | none=>exact Or.inl rfl
  | some q=>exact Or.inr (fun e=>MD.out.sep q e.symm h0))
 have U3:=hid (MD.out.uk.gr (Gr2.one g3))
 have R3:=hid rs3
 have J3:Hid (∀w',w3.grownBy w' vk.ownBlock→JnAt w' vj cs):=fun w' hg=>MD.out.jn w' ((Gr2.one g3).trans (Gr2.two hg))
 clear rs3 g3
 generalize hl1:lessTo cs s.slots t.slots s.slots.length=l1 at *
 refine hK.out _ _ ⟨c0_of B3.out,c1_of B3.out,c0_of Z3.out,c1_of Z3.out⟩ (fun hHeld1=>?_)
 try simp only [aZ]
 refine tn rfl (by kernel_rfl) (fun _ _ _ h=>h) (by intro _ h;go_split_ands;go_simp<;>with_reducible rfl) hHeld1 ?_
 try simp only [aZ]
 refine wpAnyH_done (by kernel_rfl) ?_ _
 clear hHeld0 hHeld1 hK
 go_wp2
 refine wp_region_held_drew (S:=fun w'=>w'.cell? ⟨b,0,none⟩=some vs∧w'.cell? ⟨b,1,none⟩=some vk∧w'.cell? ⟨w.heap.size,0,none⟩=some us∧w'.cell? ⟨w.heap.size,1,none⟩=some uk) (by kernel_rfl) ?_ (fun hHeld0=>?_)
 ·exact ⟨c0_of B3.out,c1_of B3.out,c0_of Z3.out,c1_of Z3.out⟩
 iterate 7 (refine tn rfl (by kernel_rfl) (fun _ _ _ h=>h) (by intro _ h;go_split_ands;go_simp<;>with_reducible rfl) hHeld0 ?_;try simp only [aZ])
 refine rd1 (i:=7) (by kernel_rfl) rfl fun K hK=>?_
 go_simp
 go_at_call 316
 refine (fmergeRow cs h12 vj vk uk base vs.ownBlock s.stk t.stk w3.drew HN.out (rowBl K3.out (Bl.refl _).drew) (by
  obtain ⟨A,c,q1,q2,q3⟩:=U3.out
  exact ⟨A,c,q1,q2,q3.elim Or.inl (fun ⟨ob,e,n1,n2,r⟩=>Or.inr ⟨ob,e,n2,n1,r.bl (Bl.refl _).drew⟩)⟩) (fun w' hg=>J3.out w' (grown_bl' (Bl.refl _).drew hg)) RR.out.2.1 RR.out.2.2.2).mono ?_
 rintro e w5 ⟨rfl,rk5,g5⟩
 have g5':=grown_bl' (Bl.refl w3).drew g5
 have G5:Hid (Gr2 w w5 vs.ownBlock vk.ownBlock):=G3.out.trans (Gr2.two g5')
 have B5:=hid ((Gr2.two (o1:=vs.ownBlock) g5').blk B3.out nb1.out nb2.out)
 have Z5:=hid ((Gr2.two (o1:=vs.ownBlock) g5').blk Z3.out nz1.out nz2.out)
 have K5:Hid (w5.ownsRow base 243 2 vk (mergeL cs s.stk t.stk).length (tyCs (mergeL cs s.stk t.stk))):=by show w5.ownsRow _ _ _ _ (mergeTo cs s.stk t.stk s.stk.length).length _;rw [ml2.out];exact rk5
 have R5:Hid (w5.ownsRow base 243 2 vs (mergeL cs s.slots t.slots).length (tyCs (mergeL cs s.slots t.slots))):=by
  have:=R3.out.kept g5' (by
   cases h0:vs.ownBlock with
   | none=>exact Or.inl rfl
   | some q=>exact Or.inr (fun e=>MD.out.sep q h0 e.symm))
  show w5.ownsRow _ _ _ _ (mergeTo cs s.slots t.slots s.slots.length).length _
  rw [ml1.out];exact this
 have V5:Hid (RV w5 vk (mergeL cs s.stk t.stk)):=by
  obtain ⟨A',c',q1,q2,q3,q4⟩:=rowCell K5.out
  have hle:(mergeL cs s.stk t.stk).length≤3000:=by
   show (mergeTo cs s.stk t.stk s.stk.length).length≤3000
   rw [ml2.out,HN.out]
   obtain ⟨_,_,_,h9,_⟩:=U3.out;exact h9
  refine ⟨A',c',q1,hle,q4.elim Or.inl (fun ⟨gb,e,_,_,r⟩=>Or.inr ⟨gb,e,⟨r⟩⟩)⟩
 have hc5:=c1_of B5.out
 have hb5:=cell_lt hc5
 clear rk5 g5 g5'
 generalize hl2:lessTo cs s.stk t.stk s.stk.length=l2 at *
 have HLA:Hid (lessA cs s t=(l1||l2)):=by show _=_;unfold lessA;rw [hl1,hl2]
 clear hl1 hl2
 refine hK.out _ _ ⟨c0_of B5.out,c1_of B5.out,c0_of Z5.out,c1_of Z5.out⟩ (fun hHeld1=>?_)
 try simp only [aZ]
 refine wpAnyH_done (by kernel_rfl) ?_ _
 clear hHeld0 hHeld1 hK
 have HH:=hid (fhas_any vk (mergeL cs s.stk t.stk) w5 V5.out)
 generalize hasA (mergeL cs s.stk t.stk)=hh at *
 have fin:Hid (∀w',Bl w5 w'→MQ cs base b (mergeA cs s t) vs vk w w'):=fun w' hb=>⟨rowBl R5.out hb,rowBl K5.out hb,G5.out.trans (Gr2.bl hb)⟩
 have hvk:Hid (∃A c,vk=.slice A s.stk.length c):=⟨A,c,HK.out⟩
 cases l2 with
 | true =>
  cases hh with
  | true =>
   have EE:Hid (r=upE):=by show r=_;rw [hr.out,if_pos rfl]
   go_wp2_with (first
    | (go_at_call 317;refine HH.out.mono ?_;rintro e w6 ⟨rfl,b6⟩)
    | (go_at_call 286;refine (up_any _).mono ?_;rintro e w7 ⟨rfl,hw⟩;rw [hw];clear hw w7))
   exact ⟨rfl,EE.out.symm,fin.out _ b6⟩
  | false =>
   have EE:Hid (r=.returned (.bool true)):=by show r=_;rw [hr.out,if_neg (by decide),HLA.out,Bool.or_true]
   go_wp2_with (go_at_call 317;refine HH.out.mono ?_;rintro e w6 ⟨rfl,b6⟩)
   go_ret
   exact ⟨EE.out.symm,fin.out _ b6⟩
 | false =>
  cases hh with
  | true =>
   have EE:Hid (r=upE):=by show r=_;rw [hr.out,if_pos rfl]
   go_wp2_with (first
    | (go_at_call 317;refine HH.out.mono ?_;rintro e w6 ⟨rfl,b6⟩)
    | (go_at_call 286;refine (up_any _).mono ?_;rintro e w7 ⟨rfl,hw⟩;rw [hw];clear hw w7))
   exact ⟨rfl,EE.out.symm,fin.out _ b6⟩
  | false =>
   have EE:Hid (r=.returned (.bool l1)):=by show r=_;rw [hr.out,if_neg (by decide),HLA.out,Bool.or_false]
   go_wp2_with (go_at_call 317;refine HH.out.mono ?_;rintro e w6 ⟨rfl,b6⟩)
   go_ret
   exact ⟨EE.out.symm,fin.out _ b6⟩
def inI (l:List Int):List Value:=l.map (Value.int .i64)
theorem inI_length (l:List Int):(inI l).length=l.length:=by unfold inI;rw [List.length_map]
theorem inI_one (l:List Int):∀u∈inI l,u.oneCell'=true:=by
 intro u hu
 obtain ⟨x,-,rfl⟩:=List.mem_map.1 hu
 rfl
theorem setCells_blk {e:TypeId} {fz:Nat×Nat} (g:Nat):∀(vs:List Value) (o:Nat) (w:World) (cur:Array Value),w.heap[g]?=some (.cells cur e fz)→∃cur',(w.setCells g o vs).heap[g]?=some (.cells cur' e fz)∧cur'.size=cur.size
 | [],o,w,cur,h=>⟨cur,h,rfl⟩
 | v::r,o,w,cur,h=>by
  obtain ⟨cur',h1,h2⟩:=setCells_blk (e:=e) (fz:=fz) g r (o+1) (w.setCell ⟨g,o,none⟩ v) (cur.setIfInBounds o v) (by
   have hl:=lt_some h
   simp [World.setCell,Array.getElem?_modify,h])
  exact ⟨cur',h1,by rw [h2];simp⟩
theorem setCells_grown (g:Nat):∀(vs:List Value) (o:Nat) (w:World),w.grownBy (w.setCells g o vs) (some g)
 | [],o,w=>grownBl (Bl.refl w) _
 | v::r,o,w=>grown_trans (grown_set g o v) (setCells_grown g r (o+1) _)
theorem own_make {w:World} {base:Nat} {e:TypeId} {g n cap:Nat} {cur:Array Value} {xs:List Value} (hb:base≤g) (hh:w.heap[g]?=some (.cells cur e (0,0))) (hn:n≤cap) (hcap:cap≤maxLen) (hsz:cur.size=cap) (hx:xs.length=n)
  (hc:∀j u,xs[j]?=some u→w.cell? ⟨g,j,none⟩=some u):w.ownsRow base e 1 (.slice (some ⟨g,0,none⟩) n cap) n xs:=by
 refine ⟨by omega,Or.inr ⟨g,cap,cur,rfl,hb,hh,hn,hcap,by omega,?_⟩⟩
 apply List.ext_getElem?
 intro j
 rw [Nat.mul_one,List.getElem?_take]
 by_cases hj:j<n
 ·rw [if_pos hj]
  have hx2:=List.getElem?_eq_getElem (l:=xs) (i:=j) (by omega)
  have:=hc j _ hx2
  rw [hx2,←this]
  simp [World.cell?,hh]
 ·rw [if_neg hj,List.getElem?_eq_none (by omega)]
theorem own_get {w:World} {base:Nat} {e:TypeId} {g n cap:Nat} {xs:List Value} (h:w.ownsRow base e 1 (.slice (some ⟨g,0,none⟩) n cap) n xs):xs.length=n∧base≤g∧n≤cap∧cap≤maxLen∧∃cur,w.heap[g]?=some (.cells cur e (0,0))∧cur.size=cap∧∀j u,xs[j]?=some u→w.cell? ⟨g,j,none⟩=some u:=by
 obtain ⟨h1,h2|⟨g',cap',cur,e1,h3,h4,h5,h6,h7,h8⟩⟩:=h
 ·cases h2.1
 ·cases e1
  refine ⟨by omega,h3,h5,h6,cur,h4,by omega,fun j u hj=>?_⟩
  have hjl:=(List.getElem?_eq_some_iff.1 hj).1
  rw [←h8,Nat.mul_one,List.getElem?_take,if_pos (by omega)] at hj
  simp only [World.cell?,h4]
  simpa using hj
theorem frz_of {w:World} {g:Nat} {cur:Array Value} {e:TypeId} (h:w.heap[g]?=some (.cells cur e (0,0))) (k:Nat):w.frozen? ⟨g,k,none⟩=false:=by simp [World.frozen?,h]
theorem some_of {w:World} {g:Nat} {cur:Array Value} {e:TypeId} (h:w.heap[g]?=some (.cells cur e (0,0))) {k:Nat} (hk:k<cur.size):(w.cell? ⟨g,k,none⟩).isSome=true:=by
 simp [World.cell?,h,hk]
theorem fsearch (vw:Value) (wt:List Int) (x:Int) (w:World) (base:Nat) (h:w.ownsRow base 3 1 vw wt.length (inI wt)) (hs:wt.Pairwise (·≤ ·)) (hl:wt.length≤3000) :
  Calls Tryz.prog 318 #[vw,.int .i64 x] w fun e w'=>e=.returned (.tuple #[.int .i64 (wt.countP (·< x):Nat),.bool (wt.contains x)])∧Bl w w':=by
 have h':=h
 rcases h.2 with ⟨rfl,h0⟩|⟨g,cap,cur,rfl,-⟩
 ·have:wt=[]:=List.length_eq_zero_iff.1 h0
  subst this
  refine (Any.slices_BinarySearch_int_empty lay25 none 0 x w).mono ?_
  rintro e w' ⟨rfl,rfl⟩
  exact ⟨rfl,Bl.refl _⟩
 ·obtain ⟨h1,h2,h3,h4,cur',h5,h6,h7⟩:=own_get h'
  refine (Any.slices_BinarySearch_int lay25 g 0 wt.length cap wt x w (Nat.le_refl _) (by omega) (fun j hj=>?_) (by rw [List.take_length];exact hs)).mono ?_
  ·rw [Nat.zero_add]
   refine h7 j _ ?_
   unfold inI
   simp [List.getD,List.getElem?_eq_getElem hj]
  ·rintro e w' ⟨rfl,q,rfl⟩
   rw [List.take_length]
   exact ⟨rfl,bl_drewN (Bl.refl w) q⟩
structure InsQ (base:Nat) (vw v':Value) (l:List Int) (w w':World):Prop where
 own:w'.ownsRow base 3 1 v' l.length (inI l)
 gr:w.grownBy w' vw.ownBlock
 blk:∀b,v'.ownBlock=some b→vw.ownBlock=some b∨w.heap.size≤b
def insL (wt:List Int) (k:Nat) (x:Int):List Int:=wt.take k++x::wt.drop k
theorem insL_length {wt:List Int} {k:Nat} (x:Int) (h:k≤wt.length):(insL wt k x).length=wt.length+1:=by unfold insL;simp;omega
theorem insL_get {wt:List Int} {k:Nat} {x:Int} (h:k≤wt.length) {j:Nat} {u:Value} (hj:(inI (insL wt k x))[j]?=some u) :
  (j<k∧(inI wt)[j]?=some u)∨(j=k∧u=.int .i64 x)∨(k<j∧j<wt.length+1∧(inI wt)[j-1]?=some u):=by
 have hjl:=(List.getElem?_eq_some_iff.1 hj).1
 rw [inI_length,insL_length x h] at hjl
 unfold inI insL at hj
 unfold inI
 rw [List.getElem?_map,List.getElem?_append,List.length_take] at hj
 by_cases h1:j<k
 ·left
  rw [if_pos (by omega),List.getElem?_take,if_pos h1] at hj
  exact ⟨h1,by rw [List.getElem?_map];exact hj⟩
 ·rw [if_neg (by omega),show min k wt.length=k by omega] at hj
  by_cases h2:j=k
  ·right;left
   subst h2
   rw [Nat.sub_self] at hj
   exact ⟨rfl,(Option.some.inj hj).symm⟩
  ·right;right
   obtain ⟨m,rfl⟩:∃m,j=k+1+m:=⟨j-k-1,by omega⟩
   rw [show k+1+m-k=m+1 by omega,List.getElem?_cons_succ,List.getElem?_drop] at hj
   exact ⟨by omega,by omega,by rw [List.getElem?_map,show k+1+m-1=k+m by omega];exact hj⟩
theorem finsert (vw:Value) (wt:List Int) (k:Nat) (x:Int) (vb vc:Nat) (w:World) (base:Nat) (hk:k≤wt.length) (h:w.ownsRow base 3 1 vw wt.length (inI wt)) (hl:wt.length≤3000) (hbase:base≤w.heap.size)
  (hv:w.heap[vb]?=some (.cells #[.int .i64 x] 3 (0,0))) (hvb:vw.ownBlock≠some vb) :
  Calls Tryz.prog 319 #[vw,.int .i64 k,.slice (some ⟨vb,0,none⟩) 1 vc] w fun e w'=>∃v',e=.returned v'∧InsQ base vw v' (insL wt k x) w w':=by
 have hvs:∀j v,[Value.int .i64 x][j]?=some v→w.cell? ⟨vb,0+j,none⟩=some v:=by
  intro j v hj
  have hjl:=(List.getElem?_eq_some_iff.1 hj).1
  have:j=0:=by simp at hjl;omega
  subst this
  rw [←hj];simp [World.cell?,hv]
 have h1v:∀v∈[Value.int .i64 x],v.oneCell'=true:=by intro v hv;rw [List.mem_singleton.1 hv];rfl
 have h':=h
 have hmax:9223372036854775807=maxLen:=rfl
 have endG:∀(A:Option Addr) (c:Nat),vw=.slice A wt.length c→wt.length≤c→c<wt.length+1→(A=none→wt.length=0)→(∀a,A=some a→∀j v,(inI wt)[j]?=some v→w.cell? (a.add j)=some v)→k=wt.length →
   Calls Tryz.prog 319 #[vw,.int .i64 k,.slice (some ⟨vb,0,none⟩) 1 vc] w fun e w'=>∃v',e=.returned v'∧InsQ base vw v' (insL wt k x) w w':=by
  intro A c e1 hc1 hc2 hn hcs hke
  subst hke
  rw [e1]
  refine (Any2.slices_Insert_int_end_grow lay21 A wt.length c vb 0 1 vc (inI wt) [.int .i64 x] w (by omega) hc1 hc2 (by omega) (inI_length wt) rfl hn hcs hvs h1v).mono ?_
  rintro e w' ⟨rfl,rfl⟩
  refine ⟨_,rfl,?_,?_,?_⟩
  ·rw [insL_length x (Nat.le_refl _)]
   obtain ⟨q,hq⟩:∃q,q=grownCap w (wt.length+1) c (lay21_ren.t 3):=⟨_,rfl⟩
   have q1:wt.length+1≤q:=by rw [hq];exact grownCap_ge _ _ _ _
   have q2:q≤maxLen:=by rw [hq];exact grownCap_le_maxLen _ _ _ _ (by unfold maxLen;omega)
   rw [←hq]
   have hblk:=mblk (w:=w.drew) (cs:=(inI wt++[Value.int .i64 x]).toArray++Builtin.zeroCells (Value.int .i64 0).cells (q-(wt.length+1))) (t:=3) rfl
   refine own_make hbase hblk q1 q2 ?_ (by rw [inI_length,insL_length x (Nat.le_refl _)]) ?_
   ·simp [size_zeroCells,Value.cells,inI_length]
    omega
   ·intro j u hj
    have hjl:=(List.getElem?_eq_some_iff.1 hj).1
    rw [inI_length,insL_length x (Nat.le_refl _)] at hjl
    have e9:insL wt wt.length x=wt++[x]:=by unfold insL;simp
    rw [e9] at hj
    show World.cell? (w.drew.alloc (.cells ((inI wt++[Value.int .i64 x]).toArray++Builtin.zeroCells (Value.int .i64 0).cells (q-(wt.length+1))) 3)) ⟨w.drew.heap.size,j,none⟩=some u
    simp only [World.cell?,hblk]
    refine Eq.trans (Array.getElem?_append_left (by simp [inI_length];omega)) ?_
    unfold inI at hj ⊢
    rw [List.map_append] at hj
    simpa using hj
  ·exact grownBl ((Bl.refl w).drew.alloc _) _
  ·intro b hb
   simp [Value.ownBlock] at hb
   right;omega
 rcases h.2 with ⟨rfl,h0⟩|⟨g,cap,cur,rfl,-⟩
 ·exact endG none 0 (by rw [h0]) (by omega) (by omega) (fun _=>h0) (fun a e=>by cases e) (by omega)
 ·obtain ⟨h1,h2,h3,h4,cur,h5,h6,h7⟩:=own_get h'
  have hgv:vb≠g:=fun e=>hvb (by rw [e];rfl)
  by_cases hke:k=wt.length
  ·by_cases hc:wt.length+1≤cap
   ·subst hke
    refine (Any2.slices_Insert_int_end_room lay21 g 0 wt.length cap vb 0 1 vc [.int .i64 x] w (by omega) hc (by omega) rfl (fun j hj=>?_) (fun j hj=>frz_of h5 _) hvs h1v).mono ?_
    ·exact some_of h5 (by omega)
    ·rintro e w' ⟨rfl,rfl⟩
     obtain ⟨cur2,k1,k2⟩:=setCells_blk g [.int .i64 x] (0+wt.length) w cur h5
     refine ⟨_,rfl,?_,setCells_grown g _ _ w,fun b hb=>Or.inl hb⟩
     rw [insL_length x (Nat.le_refl _)]
     refine own_make h2 k1 hc h4 (by omega) (by rw [inI_length,insL_length x (Nat.le_refl _)]) ?_
     intro j u hj
     rcases insL_get (Nat.le_refl _) hj with ⟨q1,q2⟩|⟨q1,q2⟩|⟨q1,q2,q3⟩
     ·rw [World.cell?_setCells_out g _ _ _ _ (fun _ _=>by left;show j<_;omega)]
      exact h7 j u q2
     ·have:=World.cell?_setCells_in g [Value.int .i64 x] (0+wt.length) w (fun j hj=>some_of h5 (by simp at hj;omega)) 0 (by simp)
      rw [q1,q2]
      simpa using this
     ·omega
   ·exact endG (some ⟨g,0,none⟩) cap rfl h3 (by omega) (fun e=>by cases e) (fun a e j v hj=>by cases e;rw [Addr.add_lit,Nat.zero_add];exact h7 j v hj) hke
  ·have hkl:k<wt.length:=by omega
   by_cases hc:wt.length+1≤cap
   ·refine (Any2.slices_Insert_int_shift lay21 g 0 wt.length cap k vb 0 1 vc (inI wt) [.int .i64 x] w hkl (by omega) hc (by omega) hgv (inI_length wt) rfl (fun j v hj=>by rw [Nat.zero_add];exact h7 j v hj) (fun j hj=>some_of h5 (by omega)) (fun j hj=>frz_of h5 _) hvs (inI_one wt) h1v 3 3 1 cap (by simp [World.shape?,hv]) (by simp [World.shape?,h5,h6]) (by omega) (frz_of hv _) (frz_of hv _)).mono ?_
    rintro e w' ⟨rfl,rfl⟩
    have hd:w.drew.heap[g]?=some (.cells cur 3 (0,0)):=h5
    obtain ⟨cur2,k1,k2⟩:=setCells_blk g ((inI wt).drop k) (0+(k+1)) w.drew cur hd
    obtain ⟨cur3,k3,k4⟩:=setCells_blk g [.int .i64 x] (0+k) _ cur2 k1
    refine ⟨_,rfl,?_,grown_bl' (Bl.refl w).drew (grown_trans (setCells_grown g _ _ _) (setCells_grown g _ _ _)),fun b hb=>Or.inl hb⟩
    rw [insL_length x hk]
    refine own_make h2 k3 hc h4 (by omega) (by rw [inI_length,insL_length x hk]) ?_
    intro j u hj
    rcases insL_get hk hj with ⟨q1,q2⟩|⟨q1,q2⟩|⟨q1,q2,q3⟩
    ·rw [World.cell?_setCells_out g _ _ _ _ (fun _ _=>by left;show j<_;omega),World.cell?_setCells_out g _ _ _ _ (fun _ _=>by left;show j<_;omega)]
     exact h7 j u q2
    ·have:=World.cell?_setCells_in g [Value.int .i64 x] (0+k) (w.drew.setCells g (0+(k+1)) ((inI wt).drop k)) (fun j hj=>some_of k1 (by simp at hj;omega)) 0 (by simp)
     rw [q1,q2]
     simpa using this
    ·rw [World.cell?_setCells_out g _ _ _ _ (fun _ _=>by right;show _≤j;simp;omega)]
     have hdl:((inI wt).drop k).length=wt.length-k:=by rw [List.length_drop,inI_length]
     have:=World.cell?_setCells_in g ((inI wt).drop k) (0+(k+1)) w.drew (fun i hi=>some_of hd (by omega)) (j-(k+1)) (by omega)
     rw [show 0+(k+1)+(j-(k+1))=j by omega] at this
     rw [this,List.getElem_drop,←q3,List.getElem?_eq_getElem (by rw [inI_length];omega)]
     congr 2;omega
   ·refine (Any2.slices_Insert_int_grow lay21 g 0 wt.length cap k vb 0 1 vc (inI wt) [.int .i64 x] w hkl (by omega) h3 (by omega) (by omega) (inI_length wt) rfl (fun j v hj=>by rw [Nat.zero_add];exact h7 j v hj) hvs (inI_one wt) h1v).mono ?_
    rintro e w' ⟨rfl,rfl⟩
    obtain ⟨q,hq⟩:∃q,q=grownCap w (wt.length+1) cap (lay21_ren.t 3):=⟨_,rfl⟩
    have q1:wt.length+1≤q:=by rw [hq];exact grownCap_ge _ _ _ _
    have q2:q≤maxLen:=by rw [hq];exact grownCap_le_maxLen _ _ _ _ (by unfold maxLen;omega)
    rw [←hq]
    obtain ⟨cu,hcu⟩:∃cu,cu=((inI wt).take k).toArray++Builtin.zeroCells (Value.int .i64 0).cells (wt.length+1-k)++Builtin.zeroCells (Value.int .i64 0).cells (q-(wt.length+1)):=⟨_,rfl⟩
    have hcs:cu.size=q:=by rw [hcu];simp [size_zeroCells,Value.cells,inI_length];omega
    have hc0:∀j u,j<k→(inI wt)[j]?=some u→cu[j]?=some u:=by
     intro j u hjk hj
     have hjl:=(List.getElem?_eq_some_iff.1 hj).1
     rw [inI_length] at hjl
     rw [hcu,Array.getElem?_append_left (by simp [size_zeroCells,inI_length];omega),Array.getElem?_append_left (by simp [inI_length];omega)]
     simp [List.getElem?_take,hjk,hj]
    rw [←hcu]
    have hblk:(w.alloc (.cells cu 3)).drew.heap[w.heap.size]?=some (.cells cu 3 (0,0)):=mblk (w:=w) rfl
    obtain ⟨cur2,k1,k2⟩:=setCells_blk w.heap.size [.int .i64 x] k _ cu hblk
    have k1':(((w.alloc (.cells cu 3)).drew.setCells w.heap.size k [.int .i64 x]).drew).heap[w.heap.size]?=some (.cells cur2 3 (0,0)):=k1
    obtain ⟨cur3,k3,k4⟩:=setCells_blk w.heap.size ((inI wt).drop k) (k+1) _ cur2 k1'
    have hgr:Bl w ((((w.alloc (.cells cu 3)).drew.setCells w.heap.size k [.int .i64 x]).drew).setCells w.heap.size (k+1) ((inI wt).drop k)):=by
     have g1:=grown_bl' ((Bl.refl w).alloc (.cells cu 3)).drew (grown_trans (grown_bl2 (setCells_grown w.heap.size [.int .i64 x] k _) (Bl.refl _).drew) (setCells_grown w.heap.size ((inI wt).drop k) (k+1) _))
     exact ⟨g1.os,g1.tape,g1.output,g1.size,fun i hi=>g1.block i hi (fun e=>by cases e;omega)⟩
    refine ⟨_,rfl,?_,grownBl hgr _,fun b hb=>Or.inr (by simp [Value.ownBlock] at hb;omega)⟩
    rw [insL_length x hk]
    refine own_make hbase k3 q1 q2 (by omega) (by rw [inI_length,insL_length x hk]) ?_
    intro j u hj
    rcases insL_get hk hj with ⟨p1,p2⟩|⟨p1,p2⟩|⟨p1,p2,p3⟩
    ·rw [World.cell?_setCells_out w.heap.size _ _ _ _ (fun _ _=>by left;show j<_;omega)]
     show World.cell? ((w.alloc (.cells cu 3)).drew.setCells w.heap.size k [.int .i64 x]) _=_
     rw [World.cell?_setCells_out w.heap.size _ _ _ _ (fun _ _=>by left;show j<_;omega)]
     simp only [World.cell?,hblk]
     exact hc0 j u p1 p2
    ·rw [World.cell?_setCells_out w.heap.size _ _ _ _ (fun _ _=>by left;show j<_;omega)]
     show World.cell? ((w.alloc (.cells cu 3)).drew.setCells w.heap.size k [.int .i64 x]) _=_
     have:=World.cell?_setCells_in w.heap.size [Value.int .i64 x] k ((w.alloc (.cells cu 3)).drew) (fun j hj=>some_of hblk (by simp at hj;omega)) 0 (by simp)
     rw [p1,p2]
     simpa using this
    ·have hdl:((inI wt).drop k).length=wt.length-k:=by rw [List.length_drop,inI_length]
     have:=World.cell?_setCells_in w.heap.size ((inI wt).drop k) (k+1) (((w.alloc (.cells cu 3)).drew.setCells w.heap.size k [.int .i64 x]).drew) (fun i hi=>some_of k1' (by omega)) (j-(k+1)) (by omega)
     rw [show k+1+(j-(k+1))=j by omega] at this
     refine this.trans ?_
     rw [List.getElem_drop,←p3,List.getElem?_eq_getElem (by rw [inI_length];omega)]
     congr 2;omega
theorem fdelete (vw:Value) (x:Int) (r:List Int) (w:World) (base:Nat) (h:w.ownsRow base 3 1 vw (x::r).length (inI (x::r))) (hl:(x::r).length≤3000) :
  Calls Tryz.prog 217 #[vw,.int .i64 0,.int .i64 1] w fun e w'=>∃v',e=.returned v'∧InsQ base vw v' r w w':=by
 have h':=h
 rcases h.2 with ⟨rfl,h0⟩|⟨g,cap,cur,rfl,-⟩
 ·cases h0
 ·obtain ⟨h1,h2,h3,h4,cur,h5,h6,h7⟩:=own_get h'
  have hmax:9223372036854775807=maxLen:=rfl
  refine (Any.slices_Delete_int_cells lay23 g 0 (x::r).length cap 0 1 (x::r) w (Nat.le_refl _) h3 (by omega) (by omega) (by simp) (fun j hj=>?_) (fun j hj=>frz_of h5 _)).mono ?_
  ·rw [Nat.zero_add]
   refine h7 j _ ?_
   unfold inI
   rw [List.getElem?_map,List.getElem?_eq_getElem hj]
   simp [List.getD,List.getElem?_eq_getElem hj]
  ·rintro e w' ⟨rfl,q,rfl⟩
   have hd:(w.drewN q).heap[g]?=some (.cells cur 3 (0,0)):=bl_blk (bl_drewN (Bl.refl w) q) h5
   obtain ⟨cur2,k1,k2⟩:=setCells_blk g (((((x::r).take (x::r).length).take 0++((x::r).take (x::r).length).drop 1++List.replicate (1-0) 0)).map (Value.int .i64)) 0 (w.drewN q) cur hd
   refine ⟨_,rfl,?_,grown_bl' (bl_drewN (Bl.refl w) q) (setCells_grown g _ _ _),fun b hb=>Or.inl hb⟩
   refine own_make h2 k1 (by simp at h3 ⊢;omega) h4 (by omega) (by rw [inI_length];simp) ?_
   intro j u hj
   have hjl:=(List.getElem?_eq_some_iff.1 hj).1
   rw [inI_length] at hjl
   have hin:=World.cell?_setCells_in g (((((x::r).take (x::r).length).take 0++((x::r).take (x::r).length).drop 1++List.replicate (1-0) 0)).map (Value.int .i64)) 0 (w.drewN q) (fun i hi=>some_of hd (by simp at hi h3;omega)) j (by simp;omega)
   rw [Nat.zero_add] at hin
   refine hin.trans ?_
   rw [←hj]
   unfold inI
   simp [List.getElem?_eq_getElem hjl]
   rw [List.getElem_append_left (by simpa using hjl),List.getElem_map]
section
def waitL (wt:List Int) (a:Int):List Int:=if wt.contains a then wt else insL wt (wt.countP (·< a)) a
theorem InsQ.bl {base:Nat} {vw v':Value} {l:List Int} {w w2 w3:World} (h:InsQ base vw v' l w2 w3) (b:Bl w w2):InsQ base vw v' l w w3 :=
 ⟨h.own,grown_bl' b h.gr,fun c hc=>(h.blk c hc).imp id (fun q=>Nat.le_trans b.size q)⟩
section
variable {X:Nat→Prop} {wx w1:World} {g:Gf} {b0:Nat} {w w':World} {cur:As} {at':Int} {st:List (Option As)} {wt:List Int} {rv:Nat→Value} {vw:Value} {sp:Nat→Option Nat}
theorem FA.newwt (H:FA X wx w1 g b0 w cur at' st wt rv vw sp) {v':Value} {l:List Int} {w2:World} (I:InsQ w1.heap.size vw v' l w w2) :
  FA X wx w1 g b0 (w2.setCell ⟨g.p,13,none⟩ v') cur at' st l rv v' sp:=by
 have hg:=grown_set (w:=w2) g.p 13 v'
 have hb:∀b,b<w.heap.size→b≠g.p→vw.ownBlock≠some b→(w2.setCell ⟨g.p,13,none⟩ v').heap[b]?=w.heap[b]?:=fun b h0 h1 h2 =>
  (hg.block b (Nat.lt_of_lt_of_le h0 I.gr.size) (fun e=>h1 (Option.some.inj e))).trans (I.gr.block b h0 (fun e=>h2 e.symm))
 have hbo:∀b o,w.heap[b]?=some o→b≠g.p→vw.ownBlock≠some b→(w2.setCell ⟨g.p,13,none⟩ v').heap[b]?=some o:=fun b o h h1 h2=>(hb b (lt_some h) h1 h2).trans h
 have hwp:vw.ownBlock≠some g.p:=own_far H.wts H.blk (by decide)
 have hvp:v'.ownBlock≠some g.p:=fun e=>by
  rcases I.blk _ e with h|h
  ·exact hwp h
  ·have:=lt_some H.blk;omega
 have hown:∀{base:Nat} {sz n:Nat} {v:Value} {xs:List Value},w.ownsRow base 243 sz v n xs→(w2.setCell ⟨g.p,13,none⟩ v').ownsRow base 243 sz v n xs:=by
  intro base sz n v xs ho
  have ho':=ho
  obtain ⟨e1,e2|⟨gb,cap,cu,rfl,x1,x2,x3⟩⟩:=ho
  ·exact ⟨e1,Or.inl e2⟩
  ·refine ⟨e1,Or.inr ⟨gb,cap,cu,rfl,x1,hbo gb _ x2 (fun e=>?_) (own_far H.wts x2 (by decide)),x3⟩⟩
   exact own_far ho' H.blk (by decide) (by rw [←e];rfl)
 have hst:∀k b,sp k=some b→b≠g.p:=fun k b e e2=>by
  have h1:=(H.sts k b e).2.2.2
  rw [e2,H.blk] at h1
  have:=Option.some.inj h1
  injection this with _ e3
  exact absurd e3 (by decide)
 have hsbp:g.sb≠g.p:=fun e=>by
  have h1:=H.sbk
  rw [e,H.blk] at h1
  have:=Option.some.inj h1
  injection this with _ e3
  exact absurd e3 (by decide)
 have h2p:w2.heap[g.p]?=w.heap[g.p]?:=I.gr.block _ (lt_some H.blk) (fun e=>hwp e.symm)
 refine ⟨⟨I.gr.os.trans H.fz.os,I.gr.tape.trans H.fz.tape,I.gr.output.trans H.fz.output,Nat.le_trans H.fz.size (Nat.le_trans I.gr.size hg.size),fun b h0 h1 h2=>(hb b (Nat.lt_of_lt_of_le h0 H.fz.size) h1 (fun e=>by have:=(H.wts.lt b e).1;omega)).trans (H.fz.block b h0 h1 h2)⟩,H.pin,?_,hown H.row0,hown H.row1,fun r hr=>hown (H.rows r hr),H.sep,hbo _ _ H.sbk hsbp (own_far H.wts H.sbk (by decide)),fun k b e=>⟨(H.sts k b e).1,(H.sts k b e).2.1,(H.sts k b e).2.2.1,hbo _ _ (H.sts k b e).2.2.2 (hst k b e) (own_far H.wts (H.sts k b e).2.2.2 (by decide))⟩,H.stn,H.inj,?_,fun b hx=>?_,?_⟩
 ·rw [block_set (h2p.trans H.blk)];rfl
 ·exact I.own.kept hg (Or.inr hvp)
 ·have f:=H.far b hx
  refine ⟨f.p,f.s,f.r,fun e=>?_,f.k⟩
  rcases I.blk _ e with h|h
  ·exact f.w h
  ·have:=(H.kept.blk b hx).1;have:=H.kept.size;omega
 ·exact ⟨Nat.le_trans H.kept.size (Nat.le_trans I.gr.size hg.size),fun b hx=>⟨(H.kept.blk b hx).1,(hb b (Nat.lt_of_lt_of_le (H.kept.blk b hx).1 H.kept.size) (H.far b hx).p (H.far b hx).w).trans (H.kept.blk b hx).2⟩⟩
theorem fwait_any (a:Int) (H:FX X wx w1 g b0 w cur at' st wt) (hs:wt.Pairwise (·≤ ·)) (hl:wt.length≤3000) :
  Calls Tryz.prog 306 #[.pointer (some ⟨g.p,0,none⟩),.int .i64 a] w fun e w'=>e=.returned (.tuple #[])∧FX X wx w1 g b0 w' cur at' st (waitL wt a):=by
 obtain ⟨rv,vw,sp,H⟩:=H
 obtain ⟨A,c,hv,-,-⟩:=own_formT H.wts
 have HS:=hid (fsearch vw wt a w w1.heap.size H.wts hs hl)
 have HH:=hid H
 have p13:w.cell? ⟨g.p,13,none⟩=some vw:=by rw [cell_blk H.blk];rfl
 have hp:=cell_lt p13
 have HL:=hid hl
 have HV:=hid hv
 have HK:Hid (wt.countP (·< a)≤wt.length):=List.countP_le_length
 clear H hs hl hv
 cases hc:wt.contains a with
 | true =>
  have E1:Hid (waitL wt a=wt):=by show _=_;unfold waitL;rw [if_pos hc]
  rw [hc] at HS
  clear hc
  generalize wt.countP (·< a)=k at *
  go_enter Tryz.func306,Tryz.ntmps306
  go_wp2_with (go_at_call 318;refine HS.out.mono ?_;rintro e w2 ⟨rfl,b2⟩)
  go_end0
  rw [E1.out]
  exact ⟨rfl,rv,vw,sp,HH.out.bl b2⟩
 | false =>
  have E1:Hid (waitL wt a=insL wt (wt.countP (·< a)) a):=by show _=_;unfold waitL;rw [if_neg (by rw [hc];decide)]
  rw [hc] at HS
  clear hc
  generalize wt.countP (·< a)=k at *
  go_enter Tryz.func306,Tryz.ntmps306
  go_wp2_with (first
   | (go_at_call 318;refine HS.out.mono ?_;rintro e w2 ⟨rfl,b2⟩;have H2:=hid (HH.out.bl b2);have p2:w2.cell? ⟨g.p,13,none⟩=some vw:=(by rw [cell_blk H2.out.blk];rfl);have hp2:=cell_lt p2;have B2:=hid b2;clear b2 p13 hp HS HH)
   | (go_at_call 319;refine (finsert vw wt k a w2.heap.size 1 (w2.alloc (.cells #[.int .i64 a] 3)) w1.heap.size HK.out (rowBl H2.out.wts ((Bl.refl w2).alloc _)) HL.out (by have:=H2.out.fz.size;simp;omega) (mblk rfl) (fun e=>by have:=(H2.out.wts.lt _ e).2;omega)).mono ?_;rintro e w3 ⟨v',rfl,I⟩;obtain ⟨A3,c3,hv3,-,-⟩:=own_formT I.own;subst hv3;have I3:=hid (I.bl ((Bl.refl w2).alloc _));have H3:=hid (H2.out.newwt I3.out);have hb3:=I3.out.gr.block _ (lt_some H2.out.blk) (fun e=>own_far H2.out.wts H2.out.blk (by decide) e.symm);have hp3:w3.cell? ⟨g.p,13,none⟩=some vw:=(by rw [World.cell?_of_block hb3];exact p2);have hf3:w3.frozen? ⟨g.p,13,none⟩=false:=frz_of (hb3.trans H2.out.blk) _;have hl3:=cell_lt hp3;clear I hb3))
  go_end0
  rw [E1.out]
  exact ⟨rfl,rv,_,sp,H3.out⟩
end
end
section
theorem rtF_set {cur:As} {st:List (Option As)} {a:Nat} {s:As} (ha:a<st.length) {r:Nat} (hr:2≤r):rtF cur (st.set a (some s)) r=if r=2+2*a then s.slots else if r=3+2*a then s.stk else rtF cur st r:=by
 by_cases h1:r=2+2*a
 ·rw [if_pos h1,h1]
  exact rtF_slots (nth_set_eq ha)
 ·rw [if_neg h1]
  by_cases h2:r=3+2*a
  ·rw [if_pos h2,h2]
   exact rtF_stk (nth_set_eq ha)
  ·rw [if_neg h2]
   unfold rtF
   rw [if_neg (by omega),if_neg (by omega),if_neg (by omega),if_neg (by omega),nth_set_ne (by omega)]
theorem spRow {n a:Nat} {sp:Nat→Option Nat} {b:Nat} (ha:a<n):(((List.range n).map (fun k=>spV (sp k))).toArray).setIfInBounds a (.pointer (some ⟨b,0,none⟩))=((List.range n).map (fun k=>spV (if k=a then some b else sp k))).toArray:=by
 apply Array.ext_getElem?
 intro i
 rw [Array.getElem?_setIfInBounds]
 by_cases h:a=i
 ·subst h
  rw [if_pos rfl,if_pos (by simpa using ha)]
  simp [ha,spV]
 ·rw [if_neg h]
  by_cases hi:i<n
  ·simp [hi,show ¬i=a from fun e=>h e.symm]
  ·simp [hi]
section
variable {X:Nat→Prop} {wx w1:World} {g:Gf} {b0:Nat} {w W:World} {cur:As} {at':Int} {st:List (Option As)} {wt:List Int} {rv:Nat→Value} {vw:Value} {sp:Nat→Option Nat}
theorem FA.psb (H:FA X wx w1 g b0 w cur at' st wt rv vw sp):g.p≠g.sb:=fun e=>by
 have h1:=H.blk
 rw [e,H.sbk] at h1
 have:=Option.some.inj h1
 injection this with _ e3
 exact absurd e3 (by decide)
theorem FA.ksb (H:FA X wx w1 g b0 w cur at' st wt rv vw sp) {k b:Nat} (e:sp k=some b):b≠g.sb:=fun e2=>by
 have h1:=(H.sts k b e).2.2.2
 rw [e2,H.sbk] at h1
 have:=Option.some.inj h1
 injection this with _ e3
 exact absurd e3 (by decide)
theorem FA.newst1 (H:FA X wx w1 g b0 w cur at' st wt rv vw sp) (hbl:Bl w W) {a b:Nat} {s:As} {v0 v1:Value} (ha:a<st.length) (hsp:sp a=none) (hb:W.heap[b]?=some (.cells #[v0,v1] 166 (0,0))) (hbn:w.heap.size≤b)
  (r0:W.ownsRow w.heap.size 243 2 v0 s.slots.length (tyCs s.slots)) (r1:W.ownsRow w.heap.size 243 2 v1 s.stk.length (tyCs s.stk)) (sep:∀c,v0.ownBlock=some c→v1.ownBlock≠some c) :
  FA X wx w1 g b0 (W.setCell ⟨g.sb,a,none⟩ (.pointer (some ⟨b,0,none⟩))) cur at' (st.set a (some s)) wt (fun r=>if r=2+2*a then v0 else if r=3+2*a then v1 else rv r) vw (fun k=>if k=a then some b else sp k):=by
 have K:=H.bl hbl
 have hg:=grown_set (w:=W) g.sb a (.pointer (some ⟨b,0,none⟩))
 have hlt:=lt_some H.sbk
 have hb1:∀c o,W.heap[c]?=some o→c≠g.sb→(W.setCell ⟨g.sb,a,none⟩ (.pointer (some ⟨b,0,none⟩))).heap[c]?=some o:=fun c o h h1=>(hg.block c (lt_some h) (fun e=>h1 (Option.some.inj e))).trans h
 have hown:∀{base:Nat} {sz n:Nat} {v:Value} {xs:List Value},W.ownsRow base 243 sz v n xs→(W.setCell ⟨g.sb,a,none⟩ (.pointer (some ⟨b,0,none⟩))).ownsRow base 243 sz v n xs:=fun ho=>ho.kept hg (Or.inr (own_far ho K.sbk (by decide)))
 have hsz:w1.heap.size≤w.heap.size:=H.fz.size
 have hold:∀r c,(rv r).ownBlock=some c→c<w.heap.size:=H.lt0
 have hn0:∀c,v0.ownBlock=some c→w.heap.size≤c:=fun c e=>(r0.lt c e).1
 have hn1:∀c,v1.ownBlock=some c→w.heap.size≤c:=fun c e=>(r1.lt c e).1
 have hspo:∀k c,sp k=some c→c<w.heap.size:=fun k c e=>lt_some (H.sts k c e).2.2.2
 refine ⟨⟨hg.os.trans K.fz.os,hg.tape.trans K.fz.tape,hg.output.trans K.fz.output,Nat.le_trans K.fz.size hg.size,fun c h0 h1 h2=>(hg.block c (Nat.lt_of_lt_of_le h0 K.fz.size) (fun e=>h2 (Option.some.inj e))).trans (K.fz.block c h0 h1 h2)⟩,K.pin,?_,?_,?_,?_,?_,?_,?_,?_,?_,K.wts.kept hg (Or.inr (own_far K.wts K.sbk (by decide))),?_,?_⟩
 ·rw [List.length_set]
  try dsimp only
  rw [if_neg (by omega),if_neg (by omega),if_neg (by omega),if_neg (by omega)]
  exact hb1 _ _ K.blk K.psb
 ·try dsimp only
  rw [if_neg (by omega),if_neg (by omega)]
  exact hown K.row0
 ·try dsimp only
  rw [if_neg (by omega),if_neg (by omega)]
  exact hown K.row1
 ·intro r hr
  try dsimp only
  rw [rtF_set ha hr]
  by_cases h1:r=2+2*a
  ·rw [if_pos h1,if_pos h1];exact own_base (hown r0) hsz
  ·rw [if_neg h1,if_neg h1]
   by_cases h2:r=3+2*a
   ·rw [if_pos h2,if_pos h2];exact own_base (hown r1) hsz
   ·rw [if_neg h2,if_neg h2];exact hown (K.rows r hr)
 ·intro r r' c hne
  try dsimp only
  intro e1 e2
  by_cases h1:r=2+2*a
  ·rw [if_pos h1] at e1
   rw [if_neg (by omega)] at e2
   by_cases h2:r'=3+2*a
   ·rw [if_pos h2] at e2;exact sep c e1 e2
   ·rw [if_neg h2] at e2;have:=hold _ _ e2;have:=hn0 _ e1;omega
  ·rw [if_neg h1] at e1
   by_cases h2:r=3+2*a
   ·rw [if_pos h2] at e1
    by_cases h3:r'=2+2*a
    ·rw [if_pos h3] at e2;exact sep c e2 e1
    ·rw [if_neg h3,if_neg (by omega)] at e2;have:=hold _ _ e2;have:=hn1 _ e1;omega
   ·rw [if_neg h2] at e1
    by_cases h3:r'=2+2*a
    ·rw [if_pos h3] at e2;have:=hold _ _ e1;have:=hn0 _ e2;omega
    ·rw [if_neg h3] at e2
     by_cases h4:r'=3+2*a
     ·rw [if_pos h4] at e2;have:=hold _ _ e1;have:=hn1 _ e2;omega
     ·rw [if_neg h4] at e2;exact H.sep r r' c hne e1 e2
 ·rw [block_set K.sbk,spRow ha,List.length_set]
 ·intro k c e
  try dsimp only at e ⊢
  rw [List.length_set]
  by_cases h1:k=a
  ·subst h1
   rw [if_pos rfl] at e
   cases e
   rw [if_pos rfl,if_neg (by omega),if_pos rfl]
   exact ⟨ha,⟨s,nth_set_eq ha⟩,by omega,hb1 _ _ hb (by omega)⟩
  ·rw [if_neg h1] at e
   rw [if_neg (by omega),if_neg (by omega),if_neg (by omega),if_neg (by omega),nth_set_ne (fun e=>h1 e.symm)]
   exact ⟨(K.sts k c e).1,(K.sts k c e).2.1,(K.sts k c e).2.2.1,hb1 _ _ (K.sts k c e).2.2.2 (K.ksb e)⟩
 ·intro k e
  try dsimp only at e
  by_cases h1:k=a
  ·rw [if_pos h1] at e;cases e
  ·rw [if_neg h1] at e
   rw [nth_set_ne (fun e=>h1 e.symm)];exact K.stn k e
 ·intro k j c e1 e2
  try dsimp only at e1 e2
  by_cases h1:k=a
  ·by_cases h2:j=a
   ·rw [h1,h2]
   ·rw [if_pos h1] at e1;rw [if_neg h2] at e2;cases e1;have:=hspo _ _ e2;omega
  ·rw [if_neg h1] at e1
   by_cases h2:j=a
   ·rw [if_pos h2] at e2;cases e2;have:=hspo _ _ e1;omega
   ·rw [if_neg h2] at e2;exact H.inj k j c e1 e2
 ·intro c hx
  have f:=H.far c hx
  have hc:=(H.kept.blk c hx).1
  have hc2:=H.kept.size
  refine ⟨f.p,f.s,fun r=>?_,f.w,fun k=>?_⟩
  ·try dsimp only
   by_cases h1:r=2+2*a
   ·rw [if_pos h1];intro e;have:=hn0 _ e;omega
   ·rw [if_neg h1]
    by_cases h2:r=3+2*a
    ·rw [if_pos h2];intro e;have:=hn1 _ e;omega
    ·rw [if_neg h2];exact f.r r
  ·try dsimp only
   by_cases h1:k=a
   ·rw [if_pos h1];intro e;cases e;omega
   ·rw [if_neg h1];exact f.k k
 ·exact ⟨Nat.le_trans K.kept.size hg.size,fun c hx=>⟨(K.kept.blk c hx).1,(hg.block c (Nat.lt_of_lt_of_le (K.kept.blk c hx).1 K.kept.size) (fun e=>(H.far c hx).s (Option.some.inj e))).trans (K.kept.blk c hx).2⟩⟩
theorem FA.newst2 (H:FA X wx w1 g b0 w cur at' st wt rv vw sp) {a b:Nat} {s':As} {cs:List Cl} (hsp:sp a=some b) (Q:MQ cs w1.heap.size b s' (rv (2+2*a)) (rv (3+2*a)) w W) :
  FA X wx w1 g b0 W cur at' (st.set a (some s')) wt rv vw sp:=by
 have ha:=(H.sts a b hsp).1
 have hR0:=H.rows (2+2*a) (by omega)
 have hR1:=H.rows (3+2*a) (by omega)
 have hb1:∀c o,w.heap[c]?=some o→(rv (2+2*a)).ownBlock≠some c→(rv (3+2*a)).ownBlock≠some c→W.heap[c]?=some o:=fun c o h h1 h2=>(Q.gr.block c (lt_some h) (fun e=>h1 e.symm) (fun e=>h2 e.symm)).trans h
 have hbt:∀(c:Nat) (cs':Array Value) (t:TypeId) (f:Nat×Nat),w.heap[c]?=some (Obj.cells cs' t f)→t≠243→W.heap[c]?=some (Obj.cells cs' t f):=fun c cs' t f h ht=>hb1 c _ h (own_far hR0 h ht) (own_far hR1 h ht)
 have hown:∀{base:Nat} {e:TypeId} {sz n:Nat} {v:Value} {xs:List Value},w.ownsRow base e sz v n xs→(∀c,v.ownBlock=some c→(rv (2+2*a)).ownBlock≠some c∧(rv (3+2*a)).ownBlock≠some c)→W.ownsRow base e sz v n xs:=by
  intro base e sz n v xs ho hf
  obtain ⟨e1,e2|⟨gb,cap,cu,rfl,x1,x2,x3⟩⟩:=ho
  ·exact ⟨e1,Or.inl e2⟩
  ·exact ⟨e1,Or.inr ⟨gb,cap,cu,rfl,x1,hb1 gb _ x2 (hf gb rfl).1 (hf gb rfl).2,x3⟩⟩
 have hsep:∀r,r≠2+2*a→r≠3+2*a→∀c,(rv r).ownBlock=some c→(rv (2+2*a)).ownBlock≠some c∧(rv (3+2*a)).ownBlock≠some c:=fun r h1 h2 c e=>⟨fun x=>H.sep _ _ c (fun y=>h1 y.symm) x e,fun x=>H.sep _ _ c (fun y=>h2 y.symm) x e⟩
 have hwt:W.ownsRow w1.heap.size 3 1 vw wt.length (wt.map (Value.int .i64)):=hown H.wts (fun c e=>by
  rcases H.wts.2 with ⟨h,_⟩|⟨gb,cap,cu,h,x1,x2,x3⟩
  ·rw [h] at e;cases e
  ·rw [h] at e
   have:gb=c:=by simpa [Value.ownBlock] using e
   subst this
   exact ⟨own_far hR0 x2 (by decide),own_far hR1 x2 (by decide)⟩)
 refine ⟨⟨Q.gr.os.trans H.fz.os,Q.gr.tape.trans H.fz.tape,Q.gr.output.trans H.fz.output,Nat.le_trans H.fz.size Q.gr.size,fun c h0 h1 h2=>(Q.gr.block c (Nat.lt_of_lt_of_le h0 H.fz.size) (fun e=>by have:=(hR0.lt c e.symm).1;omega) (fun e=>by have:=(hR1.lt c e.symm).1;omega)).trans (H.fz.block c h0 h1 h2)⟩,H.pin,?_,hown H.row0 (hsep 0 (by omega) (by omega)),hown H.row1 (hsep 1 (by omega) (by omega)),?_,H.sep,?_,?_,?_,H.inj,hwt,H.far,?_⟩
 ·rw [List.length_set];exact hbt _ _ _ _ H.blk (by decide)
 ·intro r hr
  rw [rtF_set ha hr]
  by_cases h1:r=2+2*a
  ·rw [if_pos h1,h1];exact Q.rs
  ·rw [if_neg h1]
   by_cases h2:r=3+2*a
   ·rw [if_pos h2,h2];exact Q.rk
   ·rw [if_neg h2];exact hown (H.rows r hr) (hsep r h1 h2)
 ·rw [List.length_set];exact hbt _ _ _ _ H.sbk (by decide)
 ·intro k c e
  rw [List.length_set]
  refine ⟨(H.sts k c e).1,?_,(H.sts k c e).2.2.1,hbt _ _ _ _ (H.sts k c e).2.2.2 (by decide)⟩
  by_cases h1:k=a
  ·exact ⟨s',by rw [h1];exact nth_set_eq ha⟩
  ·rw [nth_set_ne (fun e=>h1 e.symm)];exact (H.sts k c e).2.1
 ·intro k e
  by_cases h1:k=a
  ·rw [h1,hsp] at e;cases e
  ·rw [nth_set_ne (fun e=>h1 e.symm)];exact H.stn k e
 ·exact ⟨Nat.le_trans H.kept.size Q.gr.size,fun c hx=>⟨(H.kept.blk c hx).1,(Q.gr.block c (Nat.lt_of_lt_of_le (H.kept.blk c hx).1 H.kept.size) (fun e=>(H.far c hx).r _ e.symm) (fun e=>(H.far c hx).r _ e.symm)).trans (H.kept.blk c hx).2⟩⟩
end
end
end Go.Proofs.YtgiiapenmjollabGreat
