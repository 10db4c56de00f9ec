import Derived.Test.YtgiiapenmjollaaSlat
namespace Go.Proofs.Ytgiiapenmjollaa
set_option linter.all false
set_option maxHeartbeats 40000000
open Go.RowKit
section
open Go.Maps (Keyed has)
set_option maxRecDepth 100000 in
theorem work_op5 (X:Nat→Prop) (wx w0:World) (g:Mg) (h:Hp) (qs:List Nat) (a:Mc) (c:Cal) (ia ib ic ii:Int) (args:List Int) (Q:Option Addr) (nl q:Nat) (w:World) (H:RX 1 X wx w0 g w h qs a c) (hs:h.stops=false) (hl:c.stk.length≤1000) (hok:0≤ia∧ia<c.locs.length∧(ib=2→ia+1<c.locs.length)) (hk:1≤ib∧ib≤3) :
  Calls Try.prog 94 #[.pointer (some ⟨a.q,0,none⟩),.agg #[.int .i64 5,.int .i64 ia,.int .i64 ib,.int .i64 ic,.int .i64 ii,.slice Q nl q]] w fun e w'=>DidQ X wx w0 g qs a c (doesP h c ⟨5,ia,ib,ic,ii,args⟩) e w':=by
 obtain ⟨n,rfl⟩:∃n:Nat,ia=n:=⟨ia.toNat,by omega⟩
 have hn:n<c.locs.length:=by omega
 have h2:ib=2→n+1<c.locs.length:=fun e=>by have:=hok.2.2 e;omega
 have hd:doesP h c ⟨5,(n:Int),ib,ic,ii,args⟩=storeP h c ⟨5,(n:Int),ib,ic,ii,args⟩:=rfl
 rw [hd]
 unfold storeP
 dsimp only
 rw [Int.toNat_natCast]
 have HH:=hid H
 have HS:=hid hs
 have hqlt:=H.qlt
 have HB:Hid (Bl w (w.alloc (.cells #[.int .i64 5,.int .i64 (n:Int),.int .i64 ib,.int .i64 ic,.int .i64 ii,.slice Q nl q] 51))):=(Bl.refl w).alloc _
 have HL:=hid (blk_new w #[.int .i64 5,.int .i64 (n:Int),.int .i64 ib,.int .i64 ic,.int .i64 ii,.slice Q nl q] 51)
 have z0:=hid ((H.y.bl HB.out).c11)
 have z1:=hid (ins_of HL.out).1
 have z2:=hid (ins_of HL.out).2
 have bad:(c.stk=[]∨∃l v,c.stk=l++[v]∧v.kind≠ib)→Calls Try.prog 94 #[.pointer (some ⟨a.q,0,none⟩),.agg #[.int .i64 5,.int .i64 (n:Int),.int .i64 ib,.int .i64 ic,.int .i64 ii,.slice Q nl q]] w fun e w'=>DidQ X wx w0 g qs a c ⟨h.fin 6,c,0⟩ e w':=fun ht=>by
  have HT:=hid ht
  clear H hs hd hok hk h2 hn ht
  go_enter Try.func94,Try.ntmps94
  go_wp2
  refine wp_region_held_drew (S:=fun w'=>w'.cell? ⟨a.q,11,none⟩=some (.slice (some ⟨a.lb,0,none⟩) c.locs.length a.lc)∧w'.cell? ⟨w.heap.size,1,none⟩=some (.int .i64 (n:Int))∧w'.cell? ⟨w.heap.size,2,none⟩=some (.int .i64 ib)) (by kernel_rfl) ?_ (fun hHeld0=>?_)
  ·exact ⟨z0.out,z1.out,z2.out⟩
  refine tk (i:=0) (d:=some 44) rfl rfl (by kernel_rfl) (fun _ _ _ h=>h) (by rfl) (by intro _ h;(try dsimp only at h);go_split_ands;go_simp<;>with_reducible rfl) hHeld0 ?_
  try simp only [aS,aN,aT,a0,a1]
  refine tk (i:=1) (d:=some 45) rfl rfl (by kernel_rfl) (fun _ _ _ h=>h) (by rfl) (by intro _ h;(try dsimp only at h);go_split_ands;go_simp<;>with_reducible rfl) hHeld0 ?_
  try simp only [aS,aN,aT,a0,a1]
  refine tk (i:=2) (d:=some 46) rfl rfl (by kernel_rfl) (fun _ _ _ h=>h) (by rfl) (by intro _ h;(try dsimp only at h);go_split_ands;go_simp<;>with_reducible rfl) hHeld0 ?_
  try simp only [aS,aN,aT,a0,a1]
  refine tk (i:=3) (d:=some 47) rfl rfl (by kernel_rfl) (fun _ _ _ h=>h) (by rfl) (by intro _ h;(try dsimp only at h);go_split_ands;go_simp<;>with_reducible rfl) hHeld0 ?_
  try simp only [aS,aN,aT,a0,a1]
  refine tk (i:=4) (d:=some 48) rfl rfl (by kernel_rfl) (fun _ _ _ h=>h) (by rfl) (by intro _ h;(try dsimp only at h);go_split_ands;go_simp<;>with_reducible rfl) hHeld0 ?_
  try simp only [aS,aN,aT,a0,a1]
  refine tk (i:=5) (d:=some 49) rfl rfl (by kernel_rfl) (fun _ _ _ h=>h) (by rfl) (by intro _ h;(try dsimp only at h);go_split_ands;go_simp<;>with_reducible rfl) hHeld0 ?_
  try simp only [aS,aN,aT,a0,a1]
  refine tk (i:=6) (d:=some 50) rfl rfl (by kernel_rfl) (fun _ _ _ h=>h) (by rfl) (by intro _ h;(try dsimp only at h);go_split_ands;go_simp<;>with_reducible rfl) hHeld0 ?_
  try simp only [aS,aN,aT,a0,a1]
  refine tk (i:=7) (d:=some 51) rfl rfl (by kernel_rfl) (fun _ _ _ h=>h) (by rfl) (by intro _ h;(try dsimp only at h);go_split_ands;go_simp<;>with_reducible rfl) hHeld0 ?_
  try simp only [aS,aN,aT,a0,a1]
  refine tk (i:=8) (d:=some 52) rfl rfl (by kernel_rfl) (fun _ _ _ h=>h) (by rfl) (by intro _ h;(try dsimp only at h);go_split_ands;go_simp<;>with_reducible rfl) hHeld0 ?_
  try simp only [aS,aN,aT,a0,a1]
  refine rd1 (i:=9) (by kernel_rfl) rfl fun K hK=>?_
  go_simp
  go_at_call 89
  refine (HH.out.y.useN HB.out.drew (fun X wx w H=>takeKind_no 1 X wx w0 g h qs a c ib w H HT.out)).mono ?_
  rintro e w1 ⟨rfl,H1⟩
  exact ⟨rfl,did_fin (s:=0) (hs_over HS.out) rfl H1.less⟩
 have chg:∀{d d':Did} {e w'},d.h=d'.h→d.h.stops=true→DidQ X wx w0 g qs a c d e w'→DidQ X wx w0 g qs a c d' e w':=fun {d d' e w'} e1 e2 q=>⟨by rw [q.how];unfold DidE;rw [e1],fun _=>e1▸q.stop e2,fun z=>by rw [←e1,e2] at z;exact absurd z (by decide)⟩
 have hst6:(h.fin 6).stops=true:=by simp [Hp.stops,(fin6 (hs_over hs) 6).1]
 rcases stk_one (c:=c) with h0|⟨l,v,h0⟩
 ·have em:h.must (c.has 1)=h.fin 6:=must_no (has_nil h0)
  have em2:∀b,(h.fin 6).must b=h.fin 6:=fun b=>by cases b<;>simp [Hp.must,Hp.fin,hs_over hs]
  rw [em,em2]
  exact (bad (Or.inl h0)).mono fun e w' q=>chg (d:=⟨h.fin 6,c,0⟩) rfl hst6 q
 ·obtain ⟨h1,h3,h4⟩:=has_one h0
  rw [must_yes h1,h3,h4]
  have hmb:h.mustB (decide (v.kind=ib))=decide (v.kind=ib):=by unfold Hp.mustB;rw [hs_over hs];simp
  rw [hmb]
  by_cases hv:v.kind=ib
  ·rw [must_yes (by simpa using hv),if_pos (by simpa using hv)]
   have H0:=hid h0
   have HV:=hid hv
   have HN:=hid (And.intro hn (And.intro hk h2))
   clear H hs hd hok hk h2 hn bad chg hst6 h0 h1 h3 h4 hmb hv
   go_enter Try.func94,Try.ntmps94
   go_wp2
   refine wp_region_held_drew (S:=fun w'=>w'.cell? ⟨a.q,11,none⟩=some (.slice (some ⟨a.lb,0,none⟩) c.locs.length a.lc)∧w'.cell? ⟨w.heap.size,1,none⟩=some (.int .i64 (n:Int))∧w'.cell? ⟨w.heap.size,2,none⟩=some (.int .i64 ib)) (by kernel_rfl) ?_ (fun hHeld0=>?_)
   ·exact ⟨z0.out,z1.out,z2.out⟩
   refine tk (i:=0) (d:=some 44) rfl rfl (by kernel_rfl) (fun _ _ _ h=>h) (by rfl) (by intro _ h;(try dsimp only at h);go_split_ands;go_simp<;>with_reducible rfl) hHeld0 ?_
   try simp only [aS,aN,aT,a0,a1]
   refine tk (i:=1) (d:=some 45) rfl rfl (by kernel_rfl) (fun _ _ _ h=>h) (by rfl) (by intro _ h;(try dsimp only at h);go_split_ands;go_simp<;>with_reducible rfl) hHeld0 ?_
   try simp only [aS,aN,aT,a0,a1]
   refine tk (i:=2) (d:=some 46) rfl rfl (by kernel_rfl) (fun _ _ _ h=>h) (by rfl) (by intro _ h;(try dsimp only at h);go_split_ands;go_simp<;>with_reducible rfl) hHeld0 ?_
   try simp only [aS,aN,aT,a0,a1]
   refine tk (i:=3) (d:=some 47) rfl rfl (by kernel_rfl) (fun _ _ _ h=>h) (by rfl) (by intro _ h;(try dsimp only at h);go_split_ands;go_simp<;>with_reducible rfl) hHeld0 ?_
   try simp only [aS,aN,aT,a0,a1]
   refine tk (i:=4) (d:=some 48) rfl rfl (by kernel_rfl) (fun _ _ _ h=>h) (by rfl) (by intro _ h;(try dsimp only at h);go_split_ands;go_simp<;>with_reducible rfl) hHeld0 ?_
   try simp only [aS,aN,aT,a0,a1]
   refine tk (i:=5) (d:=some 49) rfl rfl (by kernel_rfl) (fun _ _ _ h=>h) (by rfl) (by intro _ h;(try dsimp only at h);go_split_ands;go_simp<;>with_reducible rfl) hHeld0 ?_
   try simp only [aS,aN,aT,a0,a1]
   refine tk (i:=6) (d:=some 50) rfl rfl (by kernel_rfl) (fun _ _ _ h=>h) (by rfl) (by intro _ h;(try dsimp only at h);go_split_ands;go_simp<;>with_reducible rfl) hHeld0 ?_
   try simp only [aS,aN,aT,a0,a1]
   refine tk (i:=7) (d:=some 51) rfl rfl (by kernel_rfl) (fun _ _ _ h=>h) (by rfl) (by intro _ h;(try dsimp only at h);go_split_ands;go_simp<;>with_reducible rfl) hHeld0 ?_
   try simp only [aS,aN,aT,a0,a1]
   refine tk (i:=8) (d:=some 52) rfl rfl (by kernel_rfl) (fun _ _ _ h=>h) (by rfl) (by intro _ h;(try dsimp only at h);go_split_ands;go_simp<;>with_reducible rfl) hHeld0 ?_
   try simp only [aS,aN,aT,a0,a1]
   refine rd1 (i:=9) (by kernel_rfl) rfl fun K hK=>?_
   go_simp
   go_at_call 89
   refine (HH.out.y.useY HB.out.drew (fun X wx w H=>takeKind_yes 1 X wx w0 g h qs a c l v ib w H H0.out HV.out)).mono ?_
   rintro e w1 ⟨rfl,H1,K1⟩
   have hbx:=K1.at (Xp.new (Nat.le_refl _) (lt_w1 w _)) HL.out
   have d0:=hid H1.c11
   have d1:=hid (ins_of hbx).1
   have d2:=hid (ins_of hbx).2
   replace H1:=hid H1
   replace hbx:=hid hbx
   clear K1
   go_wp2_with fail
   refine hK.out _ _ (⟨d0.out,d1.out,d2.out⟩) (fun hHeld1=>?_)
   try simp only [aS,aN,aT,a0,a1]
   refine rd1 (i:=10) (by kernel_rfl) rfl fun K hK=>?_
   go_simp
   go_at_call 86
   refine (H1.out.useY (Bl.refl _) (fun X wx w H=>write_any 1 X wx w0 g h qs a { c with stk:=l } n v w H HN.out.1 (by rw [HV.out];exact HN.out.2.1) (fun e=>HN.out.2.2 (HV.out.symm.trans e)))).mono ?_
   rintro e w2 ⟨rfl,H2,K2⟩
   have hby:=K2.at (Xp.old (Xp.new (Nat.le_refl _) (lt_w1 w _))) hbx.out
   have f0:=hid H2.c11
   replace H2:=hid H2
   go_wp2_with fail
   refine hK.out _ _ (⟨by have:=f0.out;(try dsimp only at this);rw [sto_length] at this;exact this,(ins_of hby).1,(ins_of hby).2⟩) (fun hHeld2=>?_)
   try simp only [aS,aN,aT,a0,a1]
   refine wpAnyH_done (by kernel_rfl) ?_ _
   go_wp2
   go_end0
   exact did_go HS.out H2.out.x.less
  ·rw [must_no (by simpa using hv)]
   exact (bad (Or.inr ⟨l,v,h0,hv⟩)).mono fun e w' q=>chg (d:=⟨h.fin 6,c,0⟩) rfl hst6 q
set_option maxRecDepth 100000 in
theorem work_op24 (X:Nat→Prop) (wx w0:World) (g:Mg) (h:Hp) (qs:List Nat) (a:Mc) (c:Cal) (ia ib ic ii:Int) (args:List Int) (Q:Option Addr) (nl q:Nat) (w:World) (H:RX 1 X wx w0 g w h qs a c) (hs:h.stops=false) (hl:c.stk.length≤1000) (hk:ia≠3) (hol:h.sh.out.length≤100000) :
  Calls Try.prog 94 #[.pointer (some ⟨a.q,0,none⟩),.agg #[.int .i64 24,.int .i64 ia,.int .i64 ib,.int .i64 ic,.int .i64 ii,.slice Q nl q]] w fun e w'=>DidQ X wx w0 g qs a c (doesP h c ⟨24,ia,ib,ic,ii,args⟩) e w':=by
 have hd:doesP h c ⟨24,ia,ib,ic,ii,args⟩=emitP h c ⟨24,ia,ib,ic,ii,args⟩:=rfl
 rw [hd]
 unfold emitP
 dsimp only
 have HH:=hid H
 have HS:=hid hs
 have hqlt:=H.qlt
 have HB:Hid (Bl w (w.alloc (.cells #[.int .i64 24,.int .i64 ia,.int .i64 ib,.int .i64 ic,.int .i64 ii,.slice Q nl q] 51))):=(Bl.refl w).alloc _
 have HL:=hid (blk_new w #[.int .i64 24,.int .i64 ia,.int .i64 ib,.int .i64 ic,.int .i64 ii,.slice Q nl q] 51)
 have z0:=hid ((H.y.bl HB.out).c1)
 have z1:=hid (ins_of HL.out).1
 have bad:(c.stk=[]∨∃l v,c.stk=l++[v]∧v.kind≠ia)→Calls Try.prog 94 #[.pointer (some ⟨a.q,0,none⟩),.agg #[.int .i64 24,.int .i64 ia,.int .i64 ib,.int .i64 ic,.int .i64 ii,.slice Q nl q]] w fun e w'=>DidQ X wx w0 g qs a c ⟨h.fin 6,c,0⟩ e w':=fun ht=>by
  have HT:=hid ht
  clear H hs hd hk hol ht
  go_enter Try.func94,Try.ntmps94
  go_wp2
  refine wp_region_held_drew (S:=fun w'=>w'.cell? ⟨a.q,1,none⟩=some (.pointer (some ⟨g.r,0,none⟩))∧w'.cell? ⟨w.heap.size,1,none⟩=some (.int .i64 ia)) (by kernel_rfl) ?_ (fun hHeld0=>?_)
  ·exact ⟨z0.out,z1.out⟩
  refine tk (i:=0) (d:=some 71) rfl rfl (by kernel_rfl) (fun _ _ _ h=>h) (by rfl) (by intro _ h;(try dsimp only at h);go_split_ands;go_simp<;>with_reducible rfl) hHeld0 ?_
  try simp only [aS,aN,aT,a0,a1]
  refine tk (i:=1) (d:=some 72) rfl rfl (by kernel_rfl) (fun _ _ _ h=>h) (by rfl) (by intro _ h;(try dsimp only at h);go_split_ands;go_simp<;>with_reducible rfl) hHeld0 ?_
  try simp only [aS,aN,aT,a0,a1]
  refine tk (i:=2) (d:=some 73) rfl rfl (by kernel_rfl) (fun _ _ _ h=>h) (by rfl) (by intro _ h;(try dsimp only at h);go_split_ands;go_simp<;>with_reducible rfl) hHeld0 ?_
  try simp only [aS,aN,aT,a0,a1]
  refine tk (i:=3) (d:=some 74) rfl rfl (by kernel_rfl) (fun _ _ _ h=>h) (by rfl) (by intro _ h;(try dsimp only at h);go_split_ands;go_simp<;>with_reducible rfl) hHeld0 ?_
  try simp only [aS,aN,aT,a0,a1]
  refine tk (i:=4) (d:=some 75) rfl rfl (by kernel_rfl) (fun _ _ _ h=>h) (by rfl) (by intro _ h;(try dsimp only at h);go_split_ands;go_simp<;>with_reducible rfl) hHeld0 ?_
  try simp only [aS,aN,aT,a0,a1]
  refine tk (i:=5) (d:=some 76) rfl rfl (by kernel_rfl) (fun _ _ _ h=>h) (by rfl) (by intro _ h;(try dsimp only at h);go_split_ands;go_simp<;>with_reducible rfl) hHeld0 ?_
  try simp only [aS,aN,aT,a0,a1]
  refine tk (i:=6) (d:=some 77) rfl rfl (by kernel_rfl) (fun _ _ _ h=>h) (by rfl) (by intro _ h;(try dsimp only at h);go_split_ands;go_simp<;>with_reducible rfl) hHeld0 ?_
  try simp only [aS,aN,aT,a0,a1]
  refine rd1 (i:=7) (by kernel_rfl) rfl fun K hK=>?_
  go_simp
  go_at_call 89
  refine (HH.out.y.useN HB.out.drew (fun X wx w H=>takeKind_no 1 X wx w0 g h qs a c ia w H HT.out)).mono ?_
  rintro e w1 ⟨rfl,H1⟩
  exact ⟨rfl,did_fin (s:=0) (hs_over HS.out) rfl H1.less⟩
 have chg:∀{d d':Did} {e w'},d.h=d'.h→d.h.stops=true→DidQ X wx w0 g qs a c d e w'→DidQ X wx w0 g qs a c d' e w':=fun {d d' e w'} e1 e2 q=>⟨by rw [q.how];unfold DidE;rw [e1],fun _=>e1▸q.stop e2,fun z=>by rw [←e1,e2] at z;exact absurd z (by decide)⟩
 have hst6:(h.fin 6).stops=true:=by simp [Hp.stops,(fin6 (hs_over hs) 6).1]
 rcases stk_one (c:=c) with h0|⟨l,v,h0⟩
 ·have em:h.must (c.has 1)=h.fin 6:=must_no (has_nil h0)
  rw [em,if_pos (fin6 (hs_over hs) 6).1]
  exact (bad (Or.inl h0)).mono fun e w' q=>chg (d:=⟨h.fin 6,c,0⟩) rfl hst6 q
 ·obtain ⟨h1,h3,h4⟩:=has_one h0
  rw [must_yes h1,h3,h4,if_neg (by rw [hs_over hs];decide)]
  unfold Hp.emit
  have hmb:h.mustB (decide (v.kind=ia))=decide (v.kind=ia):=by unfold Hp.mustB;rw [hs_over hs];simp
  rw [hmb]
  by_cases hv:v.kind=ia
  ·rw [if_pos (by simpa using hv)]
   have H0:=hid h0
   have HV:=hid hv
   have HO:=hid hol
   have him:im v=v:=im_num (by rw [hv];exact hk)
   have HM:=hid him
   clear H hs hd hk hol bad chg hst6 h0 h1 h3 h4 hmb hv him
   go_enter Try.func94,Try.ntmps94
   go_wp2
   refine wp_region_held_drew (S:=fun w'=>w'.cell? ⟨a.q,1,none⟩=some (.pointer (some ⟨g.r,0,none⟩))∧w'.cell? ⟨w.heap.size,1,none⟩=some (.int .i64 ia)) (by kernel_rfl) ?_ (fun hHeld0=>?_)
   ·exact ⟨z0.out,z1.out⟩
   refine tk (i:=0) (d:=some 71) rfl rfl (by kernel_rfl) (fun _ _ _ h=>h) (by rfl) (by intro _ h;(try dsimp only at h);go_split_ands;go_simp<;>with_reducible rfl) hHeld0 ?_
   try simp only [aS,aN,aT,a0,a1]
   refine tk (i:=1) (d:=some 72) rfl rfl (by kernel_rfl) (fun _ _ _ h=>h) (by rfl) (by intro _ h;(try dsimp only at h);go_split_ands;go_simp<;>with_reducible rfl) hHeld0 ?_
   try simp only [aS,aN,aT,a0,a1]
   refine tk (i:=2) (d:=some 73) rfl rfl (by kernel_rfl) (fun _ _ _ h=>h) (by rfl) (by intro _ h;(try dsimp only at h);go_split_ands;go_simp<;>with_reducible rfl) hHeld0 ?_
   try simp only [aS,aN,aT,a0,a1]
   refine tk (i:=3) (d:=some 74) rfl rfl (by kernel_rfl) (fun _ _ _ h=>h) (by rfl) (by intro _ h;(try dsimp only at h);go_split_ands;go_simp<;>with_reducible rfl) hHeld0 ?_
   try simp only [aS,aN,aT,a0,a1]
   refine tk (i:=4) (d:=some 75) rfl rfl (by kernel_rfl) (fun _ _ _ h=>h) (by rfl) (by intro _ h;(try dsimp only at h);go_split_ands;go_simp<;>with_reducible rfl) hHeld0 ?_
   try simp only [aS,aN,aT,a0,a1]
   refine tk (i:=5) (d:=some 76) rfl rfl (by kernel_rfl) (fun _ _ _ h=>h) (by rfl) (by intro _ h;(try dsimp only at h);go_split_ands;go_simp<;>with_reducible rfl) hHeld0 ?_
   try simp only [aS,aN,aT,a0,a1]
   refine tk (i:=6) (d:=some 77) rfl rfl (by kernel_rfl) (fun _ _ _ h=>h) (by rfl) (by intro _ h;(try dsimp only at h);go_split_ands;go_simp<;>with_reducible rfl) hHeld0 ?_
   try simp only [aS,aN,aT,a0,a1]
   refine rd1 (i:=7) (by kernel_rfl) rfl fun K hK=>?_
   go_simp
   go_at_call 89
   refine (HH.out.y.useY HB.out.drew (fun X wx w H=>takeKind_yes 1 X wx w0 g h qs a c l v ia w H H0.out HV.out)).mono ?_
   rintro e w1 ⟨he,H1,K1⟩
   rw [HM.out] at he
   subst he
   have hbx:=K1.at (Xp.new (Nat.le_refl _) (lt_w1 w _)) HL.out
   have d0:=hid H1.c1
   have d1:=hid (ins_of hbx).1
   replace H1:=hid H1
   replace hbx:=hid hbx
   clear K1
   go_wp2_with fail
   refine hK.out _ _ (⟨d0.out,d1.out⟩) (fun hHeld1=>?_)
   try simp only [aS,aN,aT,a0,a1]
   refine rd1 (i:=8) (by kernel_rfl) rfl fun K hK=>?_
   go_simp
   go_at_call 118
   refine (H1.out.useY (Bl.refl _) (fun X wx w H=>memit_any 1 X wx w0 g h qs a { c with stk:=l } v w H HO.out)).mono ?_
   rintro e w2 ⟨rfl,H2,K2⟩
   have hby:=K2.at (Xp.old (Xp.new (Nat.le_refl _) (lt_w1 w _))) hbx.out
   have f0:=hid H2.c1
   replace H2:=hid H2
   go_wp2_with fail
   refine hK.out _ _ (⟨f0.out,(ins_of hby).1⟩) (fun hHeld2=>?_)
   try simp only [aS,aN,aT,a0,a1]
   refine wpAnyH_done (by kernel_rfl) ?_ _
   go_wp2
   go_end0
   exact did_go (h:=h.outs v.n) HS.out H2.out.x.less
  ·rw [if_neg (by simpa using hv),must_no (by simpa using hv)]
   exact (bad (Or.inr ⟨l,v,h0,hv⟩)).mono fun e w' q=>chg (d:=⟨h.fin 6,c,0⟩) rfl hst6 q
end
section
open Go.Maps (Keyed has)
theorem DidE_cases (d:Did):DidE d=.returned (.tuple #[])∨∃ch,DidE d=.panicked ch:=by
 unfold DidE
 split
 ·exact Or.inr ⟨_,rfl⟩
 ·split
  ·exact Or.inr ⟨_,rfl⟩
  ·exact Or.inl rfl
set_option maxRecDepth 100000 in
theorem work_hand14 (X:Nat→Prop) (wx w0:World) (g:Mg) (qs:List Nat) (a:Mc) (c:Cal) (ia ib ic ii:Int) (Q:Option Addr) (nl q:Nat) (d:Did) (w:World) (P:World→Prop) (hP:P w) (hB:∀w',Bl w w'→P w')
  (hc:∀w,P w→Calls Try.prog 121 #[.pointer (some ⟨a.q,0,none⟩),.agg #[.int .i64 14,.int .i64 ia,.int .i64 ib,.int .i64 ic,.int .i64 ii,.slice Q nl q]] w fun e w'=>DidQ X wx w0 g qs a c d e w') :
  Calls Try.prog 94 #[.pointer (some ⟨a.q,0,none⟩),.agg #[.int .i64 14,.int .i64 ia,.int .i64 ib,.int .i64 ic,.int .i64 ii,.slice Q nl q]] w fun e w'=>DidQ X wx w0 g qs a c d e w':=by
 have HC:=hid (hc _ (hB _ ((Bl.refl w).alloc (.cells #[.int .i64 14,.int .i64 ia,.int .i64 ib,.int .i64 ic,.int .i64 ii,.slice Q nl q] 51))))
 clear hc hP hB
 rcases DidE_cases d with hE|⟨ch,hE⟩
 ·have HE:=hid hE
  go_enter Try.func94,Try.ntmps94
  go_wp2_with (go_at_call 121;refine HC.out.mono ?_;rintro e w1 q;have he:=q.how;rw [HE.out] at he;subst he;replace q:=hid q)
  go_end0
  exact q.out
 ·have HE:=hid hE
  go_enter Try.func94,Try.ntmps94
  go_wp2_with (go_at_call 121;refine HC.out.mono ?_;rintro e w1 q;have he:=q.how;rw [HE.out] at he;subst he;replace q:=hid q)
  exact ⟨rfl,q.out⟩
set_option maxRecDepth 100000 in
theorem work_hand15 (X:Nat→Prop) (wx w0:World) (g:Mg) (qs:List Nat) (a:Mc) (c:Cal) (ia ib ic ii:Int) (Q:Option Addr) (nl q:Nat) (d:Did) (w:World) (P:World→Prop) (hP:P w) (hB:∀w',Bl w w'→P w')
  (hc:∀w,P w→Calls Try.prog 121 #[.pointer (some ⟨a.q,0,none⟩),.agg #[.int .i64 15,.int .i64 ia,.int .i64 ib,.int .i64 ic,.int .i64 ii,.slice Q nl q]] w fun e w'=>DidQ X wx w0 g qs a c d e w') :
  Calls Try.prog 94 #[.pointer (some ⟨a.q,0,none⟩),.agg #[.int .i64 15,.int .i64 ia,.int .i64 ib,.int .i64 ic,.int .i64 ii,.slice Q nl q]] w fun e w'=>DidQ X wx w0 g qs a c d e w':=by
 have HC:=hid (hc _ (hB _ ((Bl.refl w).alloc (.cells #[.int .i64 15,.int .i64 ia,.int .i64 ib,.int .i64 ic,.int .i64 ii,.slice Q nl q] 51))))
 clear hc hP hB
 rcases DidE_cases d with hE|⟨ch,hE⟩
 ·have HE:=hid hE
  go_enter Try.func94,Try.ntmps94
  go_wp2_with (go_at_call 121;refine HC.out.mono ?_;rintro e w1 q;have he:=q.how;rw [HE.out] at he;subst he;replace q:=hid q)
  go_end0
  exact q.out
 ·have HE:=hid hE
  go_enter Try.func94,Try.ntmps94
  go_wp2_with (go_at_call 121;refine HC.out.mono ?_;rintro e w1 q;have he:=q.how;rw [HE.out] at he;subst he;replace q:=hid q)
  exact ⟨rfl,q.out⟩
set_option maxRecDepth 100000 in
theorem work_hand16 (X:Nat→Prop) (wx w0:World) (g:Mg) (qs:List Nat) (a:Mc) (c:Cal) (ia ib ic ii:Int) (Q:Option Addr) (nl q:Nat) (d:Did) (w:World) (P:World→Prop) (hP:P w) (hB:∀w',Bl w w'→P w')
  (hc:∀w,P w→Calls Try.prog 121 #[.pointer (some ⟨a.q,0,none⟩),.agg #[.int .i64 16,.int .i64 ia,.int .i64 ib,.int .i64 ic,.int .i64 ii,.slice Q nl q]] w fun e w'=>DidQ X wx w0 g qs a c d e w') :
  Calls Try.prog 94 #[.pointer (some ⟨a.q,0,none⟩),.agg #[.int .i64 16,.int .i64 ia,.int .i64 ib,.int .i64 ic,.int .i64 ii,.slice Q nl q]] w fun e w'=>DidQ X wx w0 g qs a c d e w':=by
 have HC:=hid (hc _ (hB _ ((Bl.refl w).alloc (.cells #[.int .i64 16,.int .i64 ia,.int .i64 ib,.int .i64 ic,.int .i64 ii,.slice Q nl q] 51))))
 clear hc hP hB
 rcases DidE_cases d with hE|⟨ch,hE⟩
 ·have HE:=hid hE
  go_enter Try.func94,Try.ntmps94
  go_wp2_with (go_at_call 121;refine HC.out.mono ?_;rintro e w1 q;have he:=q.how;rw [HE.out] at he;subst he;replace q:=hid q)
  go_end0
  exact q.out
 ·have HE:=hid hE
  go_enter Try.func94,Try.ntmps94
  go_wp2_with (go_at_call 121;refine HC.out.mono ?_;rintro e w1 q;have he:=q.how;rw [HE.out] at he;subst he;replace q:=hid q)
  exact ⟨rfl,q.out⟩
set_option maxRecDepth 100000 in
theorem work_hand17 (X:Nat→Prop) (wx w0:World) (g:Mg) (qs:List Nat) (a:Mc) (c:Cal) (ia ib ic ii:Int) (Q:Option Addr) (nl q:Nat) (d:Did) (w:World) (P:World→Prop) (hP:P w) (hB:∀w',Bl w w'→P w')
  (hc:∀w,P w→Calls Try.prog 121 #[.pointer (some ⟨a.q,0,none⟩),.agg #[.int .i64 17,.int .i64 ia,.int .i64 ib,.int .i64 ic,.int .i64 ii,.slice Q nl q]] w fun e w'=>DidQ X wx w0 g qs a c d e w') :
  Calls Try.prog 94 #[.pointer (some ⟨a.q,0,none⟩),.agg #[.int .i64 17,.int .i64 ia,.int .i64 ib,.int .i64 ic,.int .i64 ii,.slice Q nl q]] w fun e w'=>DidQ X wx w0 g qs a c d e w':=by
 have HC:=hid (hc _ (hB _ ((Bl.refl w).alloc (.cells #[.int .i64 17,.int .i64 ia,.int .i64 ib,.int .i64 ic,.int .i64 ii,.slice Q nl q] 51))))
 clear hc hP hB
 rcases DidE_cases d with hE|⟨ch,hE⟩
 ·have HE:=hid hE
  go_enter Try.func94,Try.ntmps94
  go_wp2_with (go_at_call 121;refine HC.out.mono ?_;rintro e w1 q;have he:=q.how;rw [HE.out] at he;subst he;replace q:=hid q)
  go_end0
  exact q.out
 ·have HE:=hid hE
  go_enter Try.func94,Try.ntmps94
  go_wp2_with (go_at_call 121;refine HC.out.mono ?_;rintro e w1 q;have he:=q.how;rw [HE.out] at he;subst he;replace q:=hid q)
  exact ⟨rfl,q.out⟩
set_option maxRecDepth 100000 in
theorem work_hand18 (X:Nat→Prop) (wx w0:World) (g:Mg) (qs:List Nat) (a:Mc) (c:Cal) (ia ib ic ii:Int) (Q:Option Addr) (nl q:Nat) (d:Did) (w:World) (P:World→Prop) (hP:P w) (hB:∀w',Bl w w'→P w')
  (hc:∀w,P w→Calls Try.prog 121 #[.pointer (some ⟨a.q,0,none⟩),.agg #[.int .i64 18,.int .i64 ia,.int .i64 ib,.int .i64 ic,.int .i64 ii,.slice Q nl q]] w fun e w'=>DidQ X wx w0 g qs a c d e w') :
  Calls Try.prog 94 #[.pointer (some ⟨a.q,0,none⟩),.agg #[.int .i64 18,.int .i64 ia,.int .i64 ib,.int .i64 ic,.int .i64 ii,.slice Q nl q]] w fun e w'=>DidQ X wx w0 g qs a c d e w':=by
 have HC:=hid (hc _ (hB _ ((Bl.refl w).alloc (.cells #[.int .i64 18,.int .i64 ia,.int .i64 ib,.int .i64 ic,.int .i64 ii,.slice Q nl q] 51))))
 clear hc hP hB
 rcases DidE_cases d with hE|⟨ch,hE⟩
 ·have HE:=hid hE
  go_enter Try.func94,Try.ntmps94
  go_wp2_with (go_at_call 121;refine HC.out.mono ?_;rintro e w1 q;have he:=q.how;rw [HE.out] at he;subst he;replace q:=hid q)
  go_end0
  exact q.out
 ·have HE:=hid hE
  go_enter Try.func94,Try.ntmps94
  go_wp2_with (go_at_call 121;refine HC.out.mono ?_;rintro e w1 q;have he:=q.how;rw [HE.out] at he;subst he;replace q:=hid q)
  exact ⟨rfl,q.out⟩
set_option maxRecDepth 100000 in
theorem work_hand21 (X:Nat→Prop) (wx w0:World) (g:Mg) (qs:List Nat) (a:Mc) (c:Cal) (ia ib ic ii:Int) (Q:Option Addr) (nl q:Nat) (d:Did) (w:World) (P:World→Prop) (hP:P w) (hB:∀w',Bl w w'→P w')
  (hc:∀w,P w→Calls Try.prog 121 #[.pointer (some ⟨a.q,0,none⟩),.agg #[.int .i64 21,.int .i64 ia,.int .i64 ib,.int .i64 ic,.int .i64 ii,.slice Q nl q]] w fun e w'=>DidQ X wx w0 g qs a c d e w') :
  Calls Try.prog 94 #[.pointer (some ⟨a.q,0,none⟩),.agg #[.int .i64 21,.int .i64 ia,.int .i64 ib,.int .i64 ic,.int .i64 ii,.slice Q nl q]] w fun e w'=>DidQ X wx w0 g qs a c d e w':=by
 have HC:=hid (hc _ (hB _ ((Bl.refl w).alloc (.cells #[.int .i64 21,.int .i64 ia,.int .i64 ib,.int .i64 ic,.int .i64 ii,.slice Q nl q] 51))))
 clear hc hP hB
 rcases DidE_cases d with hE|⟨ch,hE⟩
 ·have HE:=hid hE
  go_enter Try.func94,Try.ntmps94
  go_wp2_with (go_at_call 121;refine HC.out.mono ?_;rintro e w1 q;have he:=q.how;rw [HE.out] at he;subst he;replace q:=hid q)
  go_end0
  exact q.out
 ·have HE:=hid hE
  go_enter Try.func94,Try.ntmps94
  go_wp2_with (go_at_call 121;refine HC.out.mono ?_;rintro e w1 q;have he:=q.how;rw [HE.out] at he;subst he;replace q:=hid q)
  exact ⟨rfl,q.out⟩
end
end Go.Proofs.Ytgiiapenmjollaa
