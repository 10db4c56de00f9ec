import Derived.Test.YtimjmdfokicbkaaSlai
import Derived.Test.YtimjmdfokicbkaaSlam
import Derived.Test.YtimjmdfokicbkaaSlaq
import Derived.Test.YtimjmdfokicbkaaSlar
namespace Go.Proofs.Ytimjmdfokicbkaa
set_option linter.unusedVariables false
set_option linter.unusedSimpArgs false
set_option maxHeartbeats 40000000
open Go.RowKit
section
open Go.Maps (Keyed has)
theorem RXY.c11 {s:Nat} {X Y:Nat→Prop} {wx w0 w:World} {g:Mg} {h:Hp} {qs:List Nat} {a:Mc} {c:Cal} (H:RXY s X Y wx w0 g w h qs a c):w.cell? ⟨a.q,11,none⟩=some (.slice (some ⟨a.lb,0,none⟩) c.locs.length a.lc):=by
 obtain ⟨vc,vo,vx,vs,l,H,-⟩:=H
 exact H.ca.cells.c11
theorem RXY.c1 {s:Nat} {X Y:Nat→Prop} {wx w0 w:World} {g:Mg} {h:Hp} {qs:List Nat} {a:Mc} {c:Cal} (H:RXY s X Y wx w0 g w h qs a c):w.cell? ⟨a.q,1,none⟩=some (.pointer (some ⟨g.r,0,none⟩)):=by
 obtain ⟨vc,vo,vx,vs,l,H,-⟩:=H
 exact H.ca.cells.c1
abbrev insO (op ia ib ic ii:Int) (Q:Option Addr) (nl q:Nat):Obj:=.cells #[.int .i64 op,.int .i64 ia,.int .i64 ib,.int .i64 ic,.int .i64 ii,.slice Q nl q] 51
theorem ins_of {w:World} {b:Nat} {op ia ib ic ii:Int} {Q:Option Addr} {nl q:Nat} (h:w.heap[b]?=some (.cells #[.int .i64 op,.int .i64 ia,.int .i64 ib,.int .i64 ic,.int .i64 ii,.slice Q nl q] 51 (0,0))):w.cell? ⟨b,1,none⟩=some (.int .i64 ia)∧w.cell? ⟨b,2,none⟩=some (.int .i64 ib):=by
 constructor<;>(rw [cell_blk h];rfl)
set_option maxRecDepth 100000 in
theorem work_op4 (X:Nat→Prop) (wx w0:World) (g:Mg) (h:Hp) (qs:List Nat) (a:Mc) (c:Cal) (ia ib ic ii:Int) (args:List Int) (Q:Option Addr) (nl q:Nat) (w:World) (H:RX 1 X wx w0 g w h qs a c) (hs:h.stops=false) (hl:c.stk.length≤1000) (hok:0≤ia∧ia<c.locs.length∧(ib=2→ia+1<c.locs.length)) (hk:1≤ib∧ib≤3) :
  Calls Try.prog 93 #[.pointer (some ⟨a.q,0,none⟩),.agg #[.int .i64 4,.int .i64 ia,.int .i64 ib,.int .i64 ic,.int .i64 ii,.slice Q nl q]] w fun e w'=>DidQ X wx w0 g qs a c (doesP h c ⟨4,ia,ib,ic,ii,args⟩) e w':=by
 obtain ⟨n,rfl⟩:∃n:Nat,ia=n:=⟨ia.toNat,by omega⟩
 have hn:n<c.locs.length:=by omega
 have h2:ib=2→n+1<c.locs.length:=fun e=>by have:=hok.2.2 e;omega
 have hd:doesP h c ⟨4,(n:Int),ib,ic,ii,args⟩=loadP h c ⟨4,(n:Int),ib,ic,ii,args⟩:=rfl
 rw [hd]
 unfold loadP
 dsimp only
 rw [Int.toNat_natCast]
 have HH:=hid H
 have HS:=hid hs
 have hqlt:=H.qlt
 have HB:Hid (Bl w (w.alloc (.cells #[.int .i64 4,.int .i64 (n:Int),.int .i64 ib,.int .i64 ic,.int .i64 ii,.slice Q nl q] 51))):=(Bl.refl w).alloc _
 have HL:=hid (blk_new w #[.int .i64 4,.int .i64 (n:Int),.int .i64 ib,.int .i64 ic,.int .i64 ii,.slice Q nl q] 51)
 have HA:Hid (∃vs l,CA w0 g w a c l vs):=by
  obtain ⟨vc,vo,vx,vs,l,H⟩:=H
  exact ⟨vs,l,H.ca⟩
 obtain ⟨vs,l,HC⟩:=HA.out
 have HCB:Hid (∀w',Bl w w'→CA w0 g w' a c l vs):=fun w' hb=>HC.kept (grown_bl hb none) (fun b e=>by cases e)
 have z0:=hid ((H.y.bl HB.out).c11)
 have z1:=hid (ins_of HL.out).1
 have z2:=hid (ins_of HL.out).2
 have hmb:h.mustB (decide ((nth va0 c.locs n).kind=ib))=decide ((nth va0 c.locs n).kind=ib):=by unfold Hp.mustB;rw [hs_over hs];simp
 rw [hmb]
 by_cases hv:(nth va0 c.locs n).kind=ib
 ·rw [if_pos (by simpa using hv)]
  have HV:=hid hv
  have HN:=hid (And.intro hn (And.intro hk h2))
  obtain ⟨E,hE⟩:∃E,(if (sizP ((c).stk++[(nth va0 c.locs n)]):Int)≤(c).m.stack then Ending.returned (.tuple #[]) else stopE 6 0 0)=E:=⟨_,rfl⟩
  have HP:Hid (∀X wx w,RX 1 X wx w0 g w h qs a (c)→Calls Try.prog 94 #[.pointer (some ⟨a.q,0,none⟩),mvV (im (nth va0 c.locs n))] w fun e w2=>e=E∧RX 1 X wx w0 g w2 h qs a ((c).put (nth va0 c.locs n))):=fun X wx w H=>hE▸mput_any 1 X wx w0 g h qs a (c) (nth va0 c.locs n) w H (by rw [hv];exact hk) (hl)
  have HE:Hid (∀w',RX 1 X wx w0 g w' h qs a ((c).put (nth va0 c.locs n))→DidQ X wx w0 g qs a c ⟨(h).putH (c) (nth va0 c.locs n),(c).put (nth va0 c.locs n),c.pc+1⟩ E w'):=fun w' H=>did_put hs rfl ⟨rfl,rfl⟩ hE.symm H.less
  have hE2:E=.returned (.tuple #[])∨E=stopE 6 0 0:=by rw [←hE];split;exact Or.inl rfl;exact Or.inr rfl
  clear hE
  clear H hs hd HC HA hmb hv hok hk h2 hn
  rcases hE2 with rfl|rfl
  ·go_enter Try.func93,Try.ntmps93
   go_wp2
   refine wp_region_held_drew (S:=fun w'=>w'.cell? ⟨a.q,11,none⟩=some (.slice (some ⟨a.lb,0,none⟩) c.locs.length a.lc)∧w'.cell? ⟨w.heap.size,1,none⟩=some (.int .i64 (n:Int))∧w'.cell? ⟨w.heap.size,2,none⟩=some (.int .i64 ib)) (by kernel_rfl) ?_ (fun hHeld0=>?_)
   ·exact ⟨z0.out,z1.out,z2.out⟩
   refine tk (i:=0) (d:=some 31) rfl rfl (by kernel_rfl) (fun _ _ _ h=>h) (by rfl) (by intro _ h;(try dsimp only at h);go_split_ands;go_simp<;>with_reducible rfl) hHeld0 ?_
   try simp only [aS,aN,aT,a0,a1]
   refine tk (i:=1) (d:=some 32) rfl rfl (by kernel_rfl) (fun _ _ _ h=>h) (by rfl) (by intro _ h;(try dsimp only at h);go_split_ands;go_simp<;>with_reducible rfl) hHeld0 ?_
   try simp only [aS,aN,aT,a0,a1]
   refine tk (i:=2) (d:=some 33) rfl rfl (by kernel_rfl) (fun _ _ _ h=>h) (by rfl) (by intro _ h;(try dsimp only at h);go_split_ands;go_simp<;>with_reducible rfl) hHeld0 ?_
   try simp only [aS,aN,aT,a0,a1]
   refine tk (i:=3) (d:=some 34) rfl rfl (by kernel_rfl) (fun _ _ _ h=>h) (by rfl) (by intro _ h;(try dsimp only at h);go_split_ands;go_simp<;>with_reducible rfl) hHeld0 ?_
   try simp only [aS,aN,aT,a0,a1]
   refine tk (i:=4) (d:=some 35) rfl rfl (by kernel_rfl) (fun _ _ _ h=>h) (by rfl) (by intro _ h;(try dsimp only at h);go_split_ands;go_simp<;>with_reducible rfl) hHeld0 ?_
   try simp only [aS,aN,aT,a0,a1]
   refine tk (i:=5) (d:=some 36) rfl rfl (by kernel_rfl) (fun _ _ _ h=>h) (by rfl) (by intro _ h;(try dsimp only at h);go_split_ands;go_simp<;>with_reducible rfl) hHeld0 ?_
   try simp only [aS,aN,aT,a0,a1]
   refine tk (i:=6) (d:=some 37) rfl rfl (by kernel_rfl) (fun _ _ _ h=>h) (by rfl) (by intro _ h;(try dsimp only at h);go_split_ands;go_simp<;>with_reducible rfl) hHeld0 ?_
   try simp only [aS,aN,aT,a0,a1]
   refine tk (i:=7) (d:=some 38) rfl rfl (by kernel_rfl) (fun _ _ _ h=>h) (by rfl) (by intro _ h;(try dsimp only at h);go_split_ands;go_simp<;>with_reducible rfl) hHeld0 ?_
   try simp only [aS,aN,aT,a0,a1]
   refine tk (i:=8) (d:=some 39) rfl rfl (by kernel_rfl) (fun _ _ _ h=>h) (by rfl) (by intro _ h;(try dsimp only at h);go_split_ands;go_simp<;>with_reducible rfl) hHeld0 ?_
   try simp only [aS,aN,aT,a0,a1]
   refine rd1 (i:=9) (by kernel_rfl) rfl fun K hK=>?_
   go_simp
   go_at_call 116
   refine (read_yes (HCB.out _ HB.out.drew) n ib HN.out.1 HN.out.2.1 HN.out.2.2 HV.out).mono ?_
   rintro e w1 ⟨rfl,b1⟩
   have d0:=hid (b1.cell hHeld0.1)
   have d1:=hid (b1.cell hHeld0.2.1)
   have d2:=hid (b1.cell hHeld0.2.2)
   replace b1:=hid b1
   go_wp2_with fail
   refine hK.out _ _ (⟨d0.out,d1.out,d2.out⟩) (fun hHeld1=>?_)
   try simp only [aS,aN,aT,a0,a1]
   refine rd1 (i:=10) (by kernel_rfl) rfl fun K hK=>?_
   go_simp
   go_at_call 94
   refine (HH.out.y.useY (HB.out.drew.trans b1.out) HP.out).mono ?_
   rintro e w2 ⟨rfl,H2,K2⟩
   replace H2:=hid H2
   have hbx:=bl_blk b1.out HL.out
   go_wp2_with fail
   refine hK.out _ _ (⟨H2.out.c11,(ins_of (K2.at (Xp.new (Nat.le_refl _) (lt_some hbx)) hbx)).1,(ins_of (K2.at (Xp.new (Nat.le_refl _) (lt_some hbx)) hbx)).2⟩) (fun hHeld2=>?_)
   try simp only [aS,aN,aT,a0,a1]
   refine wpAnyH_done (by kernel_rfl) ?_ _
   go_wp2
   go_end0
   exact HE.out _ H2.out.x
  ·go_enter Try.func93,Try.ntmps93
   go_wp2
   refine wp_region_held_drew (S:=fun w'=>w'.cell? ⟨a.q,11,none⟩=some (.slice (some ⟨a.lb,0,none⟩) c.locs.length a.lc)∧w'.cell? ⟨w.heap.size,1,none⟩=some (.int .i64 (n:Int))∧w'.cell? ⟨w.heap.size,2,none⟩=some (.int .i64 ib)) (by kernel_rfl) ?_ (fun hHeld0=>?_)
   ·exact ⟨z0.out,z1.out,z2.out⟩
   refine tk (i:=0) (d:=some 31) rfl rfl (by kernel_rfl) (fun _ _ _ h=>h) (by rfl) (by intro _ h;(try dsimp only at h);go_split_ands;go_simp<;>with_reducible rfl) hHeld0 ?_
   try simp only [aS,aN,aT,a0,a1]
   refine tk (i:=1) (d:=some 32) rfl rfl (by kernel_rfl) (fun _ _ _ h=>h) (by rfl) (by intro _ h;(try dsimp only at h);go_split_ands;go_simp<;>with_reducible rfl) hHeld0 ?_
   try simp only [aS,aN,aT,a0,a1]
   refine tk (i:=2) (d:=some 33) rfl rfl (by kernel_rfl) (fun _ _ _ h=>h) (by rfl) (by intro _ h;(try dsimp only at h);go_split_ands;go_simp<;>with_reducible rfl) hHeld0 ?_
   try simp only [aS,aN,aT,a0,a1]
   refine tk (i:=3) (d:=some 34) rfl rfl (by kernel_rfl) (fun _ _ _ h=>h) (by rfl) (by intro _ h;(try dsimp only at h);go_split_ands;go_simp<;>with_reducible rfl) hHeld0 ?_
   try simp only [aS,aN,aT,a0,a1]
   refine tk (i:=4) (d:=some 35) rfl rfl (by kernel_rfl) (fun _ _ _ h=>h) (by rfl) (by intro _ h;(try dsimp only at h);go_split_ands;go_simp<;>with_reducible rfl) hHeld0 ?_
   try simp only [aS,aN,aT,a0,a1]
   refine tk (i:=5) (d:=some 36) rfl rfl (by kernel_rfl) (fun _ _ _ h=>h) (by rfl) (by intro _ h;(try dsimp only at h);go_split_ands;go_simp<;>with_reducible rfl) hHeld0 ?_
   try simp only [aS,aN,aT,a0,a1]
   refine tk (i:=6) (d:=some 37) rfl rfl (by kernel_rfl) (fun _ _ _ h=>h) (by rfl) (by intro _ h;(try dsimp only at h);go_split_ands;go_simp<;>with_reducible rfl) hHeld0 ?_
   try simp only [aS,aN,aT,a0,a1]
   refine tk (i:=7) (d:=some 38) rfl rfl (by kernel_rfl) (fun _ _ _ h=>h) (by rfl) (by intro _ h;(try dsimp only at h);go_split_ands;go_simp<;>with_reducible rfl) hHeld0 ?_
   try simp only [aS,aN,aT,a0,a1]
   refine tk (i:=8) (d:=some 39) rfl rfl (by kernel_rfl) (fun _ _ _ h=>h) (by rfl) (by intro _ h;(try dsimp only at h);go_split_ands;go_simp<;>with_reducible rfl) hHeld0 ?_
   try simp only [aS,aN,aT,a0,a1]
   refine rd1 (i:=9) (by kernel_rfl) rfl fun K hK=>?_
   go_simp
   go_at_call 116
   refine (read_yes (HCB.out _ HB.out.drew) n ib HN.out.1 HN.out.2.1 HN.out.2.2 HV.out).mono ?_
   rintro e w1 ⟨rfl,b1⟩
   have d0:=hid (b1.cell hHeld0.1)
   have d1:=hid (b1.cell hHeld0.2.1)
   have d2:=hid (b1.cell hHeld0.2.2)
   replace b1:=hid b1
   go_wp2_with fail
   refine hK.out _ _ (⟨d0.out,d1.out,d2.out⟩) (fun hHeld1=>?_)
   try simp only [aS,aN,aT,a0,a1]
   refine rd1 (i:=10) (by kernel_rfl) rfl fun K hK=>?_
   go_simp
   go_at_call 94
   refine (HH.out.y.useY (HB.out.drew.trans b1.out) HP.out).mono ?_
   rintro e w2 ⟨rfl,H2,K2⟩
   exact ⟨rfl,HE.out _ H2.x⟩
 ·rw [if_neg (by simpa using hv),must_no (by simpa using hv)]
  have HV:=hid hv
  have HN:=hid (And.intro hn (And.intro hk h2))
  clear H hs hd HC HA hmb hv hok hk h2 hn
  go_enter Try.func93,Try.ntmps93
  go_wp2
  refine wp_region_held_drew (S:=fun w'=>w'.cell? ⟨a.q,11,none⟩=some (.slice (some ⟨a.lb,0,none⟩) c.locs.length a.lc)∧w'.cell? ⟨w.heap.size,1,none⟩=some (.int .i64 (n:Int))∧w'.cell? ⟨w.heap.size,2,none⟩=some (.int .i64 ib)) (by kernel_rfl) ?_ (fun hHeld0=>?_)
  ·exact ⟨z0.out,z1.out,z2.out⟩
  refine tk (i:=0) (d:=some 31) rfl rfl (by kernel_rfl) (fun _ _ _ h=>h) (by rfl) (by intro _ h;(try dsimp only at h);go_split_ands;go_simp<;>with_reducible rfl) hHeld0 ?_
  try simp only [aS,aN,aT,a0,a1]
  refine tk (i:=1) (d:=some 32) rfl rfl (by kernel_rfl) (fun _ _ _ h=>h) (by rfl) (by intro _ h;(try dsimp only at h);go_split_ands;go_simp<;>with_reducible rfl) hHeld0 ?_
  try simp only [aS,aN,aT,a0,a1]
  refine tk (i:=2) (d:=some 33) rfl rfl (by kernel_rfl) (fun _ _ _ h=>h) (by rfl) (by intro _ h;(try dsimp only at h);go_split_ands;go_simp<;>with_reducible rfl) hHeld0 ?_
  try simp only [aS,aN,aT,a0,a1]
  refine tk (i:=3) (d:=some 34) rfl rfl (by kernel_rfl) (fun _ _ _ h=>h) (by rfl) (by intro _ h;(try dsimp only at h);go_split_ands;go_simp<;>with_reducible rfl) hHeld0 ?_
  try simp only [aS,aN,aT,a0,a1]
  refine tk (i:=4) (d:=some 35) rfl rfl (by kernel_rfl) (fun _ _ _ h=>h) (by rfl) (by intro _ h;(try dsimp only at h);go_split_ands;go_simp<;>with_reducible rfl) hHeld0 ?_
  try simp only [aS,aN,aT,a0,a1]
  refine tk (i:=5) (d:=some 36) rfl rfl (by kernel_rfl) (fun _ _ _ h=>h) (by rfl) (by intro _ h;(try dsimp only at h);go_split_ands;go_simp<;>with_reducible rfl) hHeld0 ?_
  try simp only [aS,aN,aT,a0,a1]
  refine tk (i:=6) (d:=some 37) rfl rfl (by kernel_rfl) (fun _ _ _ h=>h) (by rfl) (by intro _ h;(try dsimp only at h);go_split_ands;go_simp<;>with_reducible rfl) hHeld0 ?_
  try simp only [aS,aN,aT,a0,a1]
  refine tk (i:=7) (d:=some 38) rfl rfl (by kernel_rfl) (fun _ _ _ h=>h) (by rfl) (by intro _ h;(try dsimp only at h);go_split_ands;go_simp<;>with_reducible rfl) hHeld0 ?_
  try simp only [aS,aN,aT,a0,a1]
  refine tk (i:=8) (d:=some 39) rfl rfl (by kernel_rfl) (fun _ _ _ h=>h) (by rfl) (by intro _ h;(try dsimp only at h);go_split_ands;go_simp<;>with_reducible rfl) hHeld0 ?_
  try simp only [aS,aN,aT,a0,a1]
  refine rd1 (i:=9) (by kernel_rfl) rfl fun K hK=>?_
  go_simp
  go_at_call 116
  refine (read_no (HCB.out _ HB.out.drew) n ib HN.out.1 HN.out.2.1 HN.out.2.2 HV.out).mono ?_
  rintro e w1 ⟨rfl,b1⟩
  exact ⟨rfl,did_fin (s:=0) (hs_over HS.out) rfl (HH.out.bl (HB.out.drew.trans b1)).less.rs⟩
end
section
open Go.Maps (Keyed has)
theorem mv_field (a b:Int) (w:World):(Instr.field 110 (.agg #[.int .i64 a,.int .i64 b]) 1).run Try.prog w=.ok (.int .i64 b) w:=by
 simp [Instr.field,go_sem,Try.underlying110,run_underlying Try.underlying110,run_underlying Try.underlying2,asAgg]
set_option maxRecDepth 100000 in
theorem reckon6_no (X:Nat→Prop) (wx w0:World) (g:Mg) (h:Hp) (qs:List Nat) (a:Mc) (c:Cal) (ia ib ic ii:Int) (Q:Option Addr) (nl q:Nat) (w:World) (H:RX 1 X wx w0 g w h qs a c) (hn:∀l u v,c.stk=l++[u,v]→u.kind=1→v.kind=1→False) :
  Calls Try.prog 119 #[.pointer (some ⟨a.q,0,none⟩),.agg #[.int .i64 6,.int .i64 ia,.int .i64 ib,.int .i64 ic,.int .i64 ii,.slice Q nl q]] w fun e w'=>e=stopE 6 0 0∧RS 1 X wx w0 g w' h qs a c:=by
 have HH:=hid H
 obtain ⟨L0,L1⟩:=two_lie w #[.int .i64 6,.int .i64 ia,.int .i64 ib,.int .i64 ic,.int .i64 ii,.slice Q nl q] #[.int .i64 0,.int .i64 0] 51 110
 have HB:Hid (Bl w ((w.alloc (insO 6 ia ib ic ii Q nl q)).alloc mvZ)):=((Bl.refl w).alloc _).alloc _
 have HL1:=hid L1
 have HN:=hid hn
 clear H hn L0 L1
 go_enter Try.func119,Try.ntmps119
 go_wp2_with (go_at_call 133;refine (HH.out.y.useN HB.out (fun X wx w H=>operate_no X wx w0 g h qs a c 1 ia w H HN.out)).mono ?_;rintro e w1 ⟨rfl,H1⟩;replace H1:=hid H1)
 exact ⟨rfl,rfl,H1.out⟩
set_option maxRecDepth 100000 in
theorem reckon6_yes (X:Nat→Prop) (wx w0:World) (g:Mg) (h:Hp) (qs:List Nat) (a:Mc) (c:Cal) (ia ib ic ii:Int) (Q:Option Addr) (nl q:Nat) (w:World) (H:RX 1 X wx w0 g w h qs a c) (l:List Va) (u v:Va) (hs:c.stk=l++[u,v]) (hu:u.kind=1) (hv:v.kind=1) (hr:reckB 1 ia u v=true) :
  Calls Try.prog 119 #[.pointer (some ⟨a.q,0,none⟩),.agg #[.int .i64 6,.int .i64 ia,.int .i64 ib,.int .i64 ic,.int .i64 ii,.slice Q nl q]] w fun e w'=>e=.returned (mvV ⟨1,reckN 1 ia u v⟩)∧RX 1 X wx w0 g w' h qs a { c with stk:=l }:=by
 have HH:=hid H
 obtain ⟨L0,L1⟩:=two_lie w #[.int .i64 6,.int .i64 ia,.int .i64 ib,.int .i64 ic,.int .i64 ii,.slice Q nl q] #[.int .i64 0,.int .i64 0] 51 110
 have HB:Hid (Bl w ((w.alloc (insO 6 ia ib ic ii Q nl q)).alloc mvZ)):=((Bl.refl w).alloc _).alloc _
 have HL1:=hid L1
 have HK:=hid (And.intro hs (And.intro hu (And.intro hv hr)))
 clear H hs hu hv hr L0 L1
 go_enter Try.func119,Try.ntmps119
 go_wp2_with (go_at_call 133;refine (HH.out.y.useY HB.out (fun X wx w H=>operate_yes X wx w0 g h qs a c 1 ia w H l u v HK.out.1 HK.out.2.1 HK.out.2.2.1 (by decide) HK.out.2.2.2)).mono ?_;rintro e w1 ⟨rfl,H1,K1⟩;have q1:=K1.at (Xp.new (Nat.le_succ _) (lt_w2b w _ _)) HL1.out;have c4:=c0_of q1;have c5:=c1_of q1;have fz:=free_blk q1;clear K1;replace H1:=hid H1;replace q1:=hid q1)
 refine bodyPost_ret (results_cell_row rfl _ _ (w.heap.size+1) _ _ _ _ rfl (set_two q1.out) Try.underlying110 rfl info_mv) rfl ?_
 refine ⟨rfl,RXY.x (RXY.set (RXY.set H1.out ?_ 0 _) ?_ 1 _)⟩<;>exact Xp.new (Nat.le_succ _) (lt_w2b w _ _)
set_option maxRecDepth 100000 in
theorem reckon6_throws (X:Nat→Prop) (wx w0:World) (g:Mg) (h:Hp) (qs:List Nat) (a:Mc) (c:Cal) (ia ib ic ii:Int) (Q:Option Addr) (nl q:Nat) (w:World) (H:RX 1 X wx w0 g w h qs a c) (l:List Va) (u v:Va) (hs:c.stk=l++[u,v]) (hu:u.kind=1) (hv:v.kind=1) (hr:reckB 1 ia u v=false) (hl:h.objs.length≤100) (ho:h.over=false) :
  Calls Try.prog 119 #[.pointer (some ⟨a.q,0,none⟩),.agg #[.int .i64 6,.int .i64 ia,.int .i64 ib,.int .i64 ic,.int .i64 ii,.slice Q nl q]] w fun e w'=>e=raiseE h∧RX 1 X wx w0 g w' (h.raise 2) qs a { c with stk:=l }:=by
 have HH:=hid H
 obtain ⟨L0,L1⟩:=two_lie w #[.int .i64 6,.int .i64 ia,.int .i64 ib,.int .i64 ic,.int .i64 ii,.slice Q nl q] #[.int .i64 0,.int .i64 0] 51 110
 have HB:Hid (Bl w ((w.alloc (insO 6 ia ib ic ii Q nl q)).alloc mvZ)):=((Bl.refl w).alloc _).alloc _
 have HL1:=hid L1
 have HK:=hid (And.intro hs (And.intro hu (And.intro hv (And.intro hr (And.intro hl ho)))))
 obtain ⟨E,hE⟩:∃E,raiseE h=E:=⟨_,rfl⟩
 have HE:=hid hE
 rw [hE]
 have HX:Hid (∃ch,E=.panicked ch):=by
  rw [←hE];unfold raiseE;split<;>exact ⟨_,rfl⟩
 clear H hs hu hv hr hl ho L0 L1 hE
 obtain ⟨ch,rfl⟩:=HX.out
 go_enter Try.func119,Try.ntmps119
 go_wp2_with (go_at_call 133;refine (HH.out.y.useY HB.out (fun X wx w H=>operate_throws X wx w0 g h qs a c 1 ia w H l u v HK.out.1 HK.out.2.1 HK.out.2.2.1 (by decide) HK.out.2.2.2.1 HK.out.2.2.2.2.1 HK.out.2.2.2.2.2)).mono ?_;rintro e w1 ⟨he,H1,K1⟩;rw [HE.out] at he;subst he;clear K1;replace H1:=hid H1)
 exact ⟨rfl,rfl,H1.out.x⟩
set_option maxRecDepth 100000 in
theorem reckon7_no (X:Nat→Prop) (wx w0:World) (g:Mg) (h:Hp) (qs:List Nat) (a:Mc) (c:Cal) (ia ib ic ii:Int) (Q:Option Addr) (nl q:Nat) (w:World) (H:RX 1 X wx w0 g w h qs a c) (hn:∀l u v,c.stk=l++[u,v]→u.kind=2→v.kind=2→False) :
  Calls Try.prog 119 #[.pointer (some ⟨a.q,0,none⟩),.agg #[.int .i64 7,.int .i64 ia,.int .i64 ib,.int .i64 ic,.int .i64 ii,.slice Q nl q]] w fun e w'=>e=stopE 6 0 0∧RS 1 X wx w0 g w' h qs a c:=by
 have HH:=hid H
 obtain ⟨L0,L1⟩:=two_lie w #[.int .i64 7,.int .i64 ia,.int .i64 ib,.int .i64 ic,.int .i64 ii,.slice Q nl q] #[.int .i64 0,.int .i64 0] 51 110
 have HB:Hid (Bl w ((w.alloc (insO 7 ia ib ic ii Q nl q)).alloc mvZ)):=((Bl.refl w).alloc _).alloc _
 have HL1:=hid L1
 have HN:=hid hn
 clear H hn L0 L1
 go_enter Try.func119,Try.ntmps119
 go_wp2_with (go_at_call 133;refine (HH.out.y.useN HB.out (fun X wx w H=>operate_no X wx w0 g h qs a c 2 ia w H HN.out)).mono ?_;rintro e w1 ⟨rfl,H1⟩;replace H1:=hid H1)
 exact ⟨rfl,rfl,H1.out⟩
set_option maxRecDepth 100000 in
theorem reckon7_yes (X:Nat→Prop) (wx w0:World) (g:Mg) (h:Hp) (qs:List Nat) (a:Mc) (c:Cal) (ia ib ic ii:Int) (Q:Option Addr) (nl q:Nat) (w:World) (H:RX 1 X wx w0 g w h qs a c) (l:List Va) (u v:Va) (hs:c.stk=l++[u,v]) (hu:u.kind=2) (hv:v.kind=2) (hr:reckB 2 ia u v=true) :
  Calls Try.prog 119 #[.pointer (some ⟨a.q,0,none⟩),.agg #[.int .i64 7,.int .i64 ia,.int .i64 ib,.int .i64 ic,.int .i64 ii,.slice Q nl q]] w fun e w'=>e=.returned (mvV ⟨2,reckN 2 ia u v⟩)∧RX 1 X wx w0 g w' h qs a { c with stk:=l }:=by
 have HH:=hid H
 obtain ⟨L0,L1⟩:=two_lie w #[.int .i64 7,.int .i64 ia,.int .i64 ib,.int .i64 ic,.int .i64 ii,.slice Q nl q] #[.int .i64 0,.int .i64 0] 51 110
 have HB:Hid (Bl w ((w.alloc (insO 7 ia ib ic ii Q nl q)).alloc mvZ)):=((Bl.refl w).alloc _).alloc _
 have HL1:=hid L1
 have HK:=hid (And.intro hs (And.intro hu (And.intro hv hr)))
 clear H hs hu hv hr L0 L1
 go_enter Try.func119,Try.ntmps119
 go_wp2_with (go_at_call 133;refine (HH.out.y.useY HB.out (fun X wx w H=>operate_yes X wx w0 g h qs a c 2 ia w H l u v HK.out.1 HK.out.2.1 HK.out.2.2.1 (by decide) HK.out.2.2.2)).mono ?_;rintro e w1 ⟨rfl,H1,K1⟩;have q1:=K1.at (Xp.new (Nat.le_succ _) (lt_w2b w _ _)) HL1.out;have c4:=c0_of q1;have c5:=c1_of q1;have fz:=free_blk q1;clear K1;replace H1:=hid H1;replace q1:=hid q1)
 refine bodyPost_ret (results_cell_row rfl _ _ (w.heap.size+1) _ _ _ _ rfl (set_two q1.out) Try.underlying110 rfl info_mv) rfl ?_
 refine ⟨rfl,RXY.x (RXY.set (RXY.set H1.out ?_ 0 _) ?_ 1 _)⟩<;>exact Xp.new (Nat.le_succ _) (lt_w2b w _ _)
set_option maxRecDepth 100000 in
theorem reckon7_throws (X:Nat→Prop) (wx w0:World) (g:Mg) (h:Hp) (qs:List Nat) (a:Mc) (c:Cal) (ia ib ic ii:Int) (Q:Option Addr) (nl q:Nat) (w:World) (H:RX 1 X wx w0 g w h qs a c) (l:List Va) (u v:Va) (hs:c.stk=l++[u,v]) (hu:u.kind=2) (hv:v.kind=2) (hr:reckB 2 ia u v=false) (hl:h.objs.length≤100) (ho:h.over=false) :
  Calls Try.prog 119 #[.pointer (some ⟨a.q,0,none⟩),.agg #[.int .i64 7,.int .i64 ia,.int .i64 ib,.int .i64 ic,.int .i64 ii,.slice Q nl q]] w fun e w'=>e=raiseE h∧RX 1 X wx w0 g w' (h.raise 2) qs a { c with stk:=l }:=by
 have HH:=hid H
 obtain ⟨L0,L1⟩:=two_lie w #[.int .i64 7,.int .i64 ia,.int .i64 ib,.int .i64 ic,.int .i64 ii,.slice Q nl q] #[.int .i64 0,.int .i64 0] 51 110
 have HB:Hid (Bl w ((w.alloc (insO 7 ia ib ic ii Q nl q)).alloc mvZ)):=((Bl.refl w).alloc _).alloc _
 have HL1:=hid L1
 have HK:=hid (And.intro hs (And.intro hu (And.intro hv (And.intro hr (And.intro hl ho)))))
 obtain ⟨E,hE⟩:∃E,raiseE h=E:=⟨_,rfl⟩
 have HE:=hid hE
 rw [hE]
 have HX:Hid (∃ch,E=.panicked ch):=by
  rw [←hE];unfold raiseE;split<;>exact ⟨_,rfl⟩
 clear H hs hu hv hr hl ho L0 L1 hE
 obtain ⟨ch,rfl⟩:=HX.out
 go_enter Try.func119,Try.ntmps119
 go_wp2_with (go_at_call 133;refine (HH.out.y.useY HB.out (fun X wx w H=>operate_throws X wx w0 g h qs a c 2 ia w H l u v HK.out.1 HK.out.2.1 HK.out.2.2.1 (by decide) HK.out.2.2.2.1 HK.out.2.2.2.2.1 HK.out.2.2.2.2.2)).mono ?_;rintro e w1 ⟨he,H1,K1⟩;rw [HE.out] at he;subst he;clear K1;replace H1:=hid H1)
 exact ⟨rfl,rfl,H1.out.x⟩
set_option maxRecDepth 100000 in
theorem reckon8_no (X:Nat→Prop) (wx w0:World) (g:Mg) (h:Hp) (qs:List Nat) (a:Mc) (c:Cal) (ia ib ic ii:Int) (Q:Option Addr) (nl q:Nat) (w:World) (H:RX 1 X wx w0 g w h qs a c) (hn:c.stk=[]∨∃l v,c.stk=l++[v]∧v.kind≠1) :
  Calls Try.prog 119 #[.pointer (some ⟨a.q,0,none⟩),.agg #[.int .i64 8,.int .i64 ia,.int .i64 ib,.int .i64 ic,.int .i64 ii,.slice Q nl q]] w fun e w'=>e=stopE 6 0 0∧RS 1 X wx w0 g w' h qs a c:=by
 have HH:=hid H
 obtain ⟨L0,L1⟩:=two_lie w #[.int .i64 8,.int .i64 ia,.int .i64 ib,.int .i64 ic,.int .i64 ii,.slice Q nl q] #[.int .i64 0,.int .i64 0] 51 110
 have HB:Hid (Bl w ((w.alloc (insO 8 ia ib ic ii Q nl q)).alloc mvZ)):=((Bl.refl w).alloc _).alloc _
 have HL1:=hid L1
 have HN:=hid hn
 clear H hn L0 L1
 go_enter Try.func119,Try.ntmps119
 go_wp2_with (go_at_call 88;refine (HH.out.y.useN HB.out (fun X wx w H=>takeKind_no 1 X wx w0 g h qs a c 1 w H HN.out)).mono ?_;rintro e w1 ⟨rfl,H1⟩;replace H1:=hid H1)
 exact ⟨rfl,rfl,H1.out⟩
set_option maxRecDepth 100000 in
theorem reckon8_yes (X:Nat→Prop) (wx w0:World) (g:Mg) (h:Hp) (qs:List Nat) (a:Mc) (c:Cal) (ia ib ic ii:Int) (Q:Option Addr) (nl q:Nat) (w:World) (H:RX 1 X wx w0 g w h qs a c) (l:List Va) (v:Va) (hs:c.stk=l++[v]) (hv:v.kind=1) :
  Calls Try.prog 119 #[.pointer (some ⟨a.q,0,none⟩),.agg #[.int .i64 8,.int .i64 ia,.int .i64 ib,.int .i64 ic,.int .i64 ii,.slice Q nl q]] w fun e w'=>e=.returned (mvV ⟨2,v.n⟩)∧RX 1 X wx w0 g w' h qs a { c with stk:=l }:=by
 have HH:=hid H
 obtain ⟨L0,L1⟩:=two_lie w #[.int .i64 8,.int .i64 ia,.int .i64 ib,.int .i64 ic,.int .i64 ii,.slice Q nl q] #[.int .i64 0,.int .i64 0] 51 110
 have HB:Hid (Bl w ((w.alloc (insO 8 ia ib ic ii Q nl q)).alloc mvZ)):=((Bl.refl w).alloc _).alloc _
 have HL1:=hid L1
 have HK:=hid (And.intro hs hv)
 have HM:Hid (im v=v):=im_num (by rw [hv];decide)
 have hfd:=fun w=>mv_field v.kind v.n w
 clear H hs hv L0 L1
 go_enter Try.func119,Try.ntmps119
 go_wp2_with (first
  | (go_at_call 88;refine (HH.out.y.useY HB.out (fun X wx w H=>takeKind_yes 1 X wx w0 g h qs a c l v 1 w H HK.out.1 HK.out.2)).mono ?_;rintro e w1 ⟨he,H1,K1⟩;rw [HM.out] at he;subst he;have q1:=K1.at (Xp.new (Nat.le_succ _) (lt_w2b w _ _)) HL1.out;have c4:=c0_of q1;have c5:=c1_of q1;have fz:=free_blk q1;clear K1;replace H1:=hid H1;replace q1:=hid q1)
  | (go_at_call 98;refine (mlong_any v.n _).mono ?_;rintro e w2 ⟨rfl,b2⟩;replace q1:=hid (bl_blk b2 q1.out);clear c4 c5 fz;have c4:=c0_of q1.out;have c5:=c1_of q1.out;have fz:=free_blk q1.out;replace b2:=hid b2))
 refine bodyPost_ret (results_cell_row rfl _ _ (w.heap.size+1) _ _ _ _ rfl (set_two q1.out) Try.underlying110 rfl info_mv) rfl ?_
 refine ⟨rfl,RXY.x (RXY.set (RXY.set (H1.out.bl b2.out) ?_ 0 _) ?_ 1 _)⟩<;>exact Xp.old (Xp.new (Nat.le_succ _) (lt_w2b w _ _))
set_option maxRecDepth 100000 in
theorem reckon9_no (X:Nat→Prop) (wx w0:World) (g:Mg) (h:Hp) (qs:List Nat) (a:Mc) (c:Cal) (ia ib ic ii:Int) (Q:Option Addr) (nl q:Nat) (w:World) (H:RX 1 X wx w0 g w h qs a c) (hn:c.stk=[]∨∃l v,c.stk=l++[v]∧v.kind≠2) :
  Calls Try.prog 119 #[.pointer (some ⟨a.q,0,none⟩),.agg #[.int .i64 9,.int .i64 ia,.int .i64 ib,.int .i64 ic,.int .i64 ii,.slice Q nl q]] w fun e w'=>e=stopE 6 0 0∧RS 1 X wx w0 g w' h qs a c:=by
 have HH:=hid H
 obtain ⟨L0,L1⟩:=two_lie w #[.int .i64 9,.int .i64 ia,.int .i64 ib,.int .i64 ic,.int .i64 ii,.slice Q nl q] #[.int .i64 0,.int .i64 0] 51 110
 have HB:Hid (Bl w ((w.alloc (insO 9 ia ib ic ii Q nl q)).alloc mvZ)):=((Bl.refl w).alloc _).alloc _
 have HL1:=hid L1
 have HN:=hid hn
 clear H hn L0 L1
 go_enter Try.func119,Try.ntmps119
 go_wp2_with (go_at_call 88;refine (HH.out.y.useN HB.out (fun X wx w H=>takeKind_no 1 X wx w0 g h qs a c 2 w H HN.out)).mono ?_;rintro e w1 ⟨rfl,H1⟩;replace H1:=hid H1)
 exact ⟨rfl,rfl,H1.out⟩
set_option maxRecDepth 100000 in
theorem reckon9_yes (X:Nat→Prop) (wx w0:World) (g:Mg) (h:Hp) (qs:List Nat) (a:Mc) (c:Cal) (ia ib ic ii:Int) (Q:Option Addr) (nl q:Nat) (w:World) (H:RX 1 X wx w0 g w h qs a c) (l:List Va) (v:Va) (hs:c.stk=l++[v]) (hv:v.kind=2) :
  Calls Try.prog 119 #[.pointer (some ⟨a.q,0,none⟩),.agg #[.int .i64 9,.int .i64 ia,.int .i64 ib,.int .i64 ic,.int .i64 ii,.slice Q nl q]] w fun e w'=>e=.returned (mvV ⟨1,wrap32 v.n⟩)∧RX 1 X wx w0 g w' h qs a { c with stk:=l }:=by
 have HH:=hid H
 obtain ⟨L0,L1⟩:=two_lie w #[.int .i64 9,.int .i64 ia,.int .i64 ib,.int .i64 ic,.int .i64 ii,.slice Q nl q] #[.int .i64 0,.int .i64 0] 51 110
 have HB:Hid (Bl w ((w.alloc (insO 9 ia ib ic ii Q nl q)).alloc mvZ)):=((Bl.refl w).alloc _).alloc _
 have HL1:=hid L1
 have HK:=hid (And.intro hs hv)
 have HM:Hid (im v=v):=im_num (by rw [hv];decide)
 have hfd:=fun w=>mv_field v.kind v.n w
 clear H hs hv L0 L1
 go_enter Try.func119,Try.ntmps119
 go_wp2_with (first
  | (go_at_call 88;refine (HH.out.y.useY HB.out (fun X wx w H=>takeKind_yes 1 X wx w0 g h qs a c l v 2 w H HK.out.1 HK.out.2)).mono ?_;rintro e w1 ⟨he,H1,K1⟩;rw [HM.out] at he;subst he;have q1:=K1.at (Xp.new (Nat.le_succ _) (lt_w2b w _ _)) HL1.out;have c4:=c0_of q1;have c5:=c1_of q1;have fz:=free_blk q1;clear K1;replace H1:=hid H1;replace q1:=hid q1)
  | (go_at_call 15;refine (narrow_any v.n _).mono ?_;rintro e w2 ⟨rfl,hw⟩;rw [hw];clear hw w2)
  | (go_at_call 99;refine (mint_any (wrap32 v.n) _).mono ?_;rintro e w2 ⟨rfl,b2⟩;replace q1:=hid (bl_blk b2 q1.out);clear c4 c5 fz;have c4:=c0_of q1.out;have c5:=c1_of q1.out;have fz:=free_blk q1.out;replace b2:=hid b2))
 refine bodyPost_ret (results_cell_row rfl _ _ (w.heap.size+1) _ _ _ _ rfl (set_two q1.out) Try.underlying110 rfl info_mv) rfl ?_
 refine ⟨rfl,RXY.x (RXY.set (RXY.set (H1.out.bl b2.out) ?_ 0 _) ?_ 1 _)⟩<;>exact Xp.old (Xp.new (Nat.le_succ _) (lt_w2b w _ _))
set_option maxRecDepth 100000 in
theorem reckon10_no (X:Nat→Prop) (wx w0:World) (g:Mg) (h:Hp) (qs:List Nat) (a:Mc) (c:Cal) (ia ib ic ii:Int) (Q:Option Addr) (nl q:Nat) (w:World) (H:RX 1 X wx w0 g w h qs a c) (hn:∀l u v,c.stk=l++[u,v]→u.kind=2→v.kind=2→False) :
  Calls Try.prog 119 #[.pointer (some ⟨a.q,0,none⟩),.agg #[.int .i64 10,.int .i64 ia,.int .i64 ib,.int .i64 ic,.int .i64 ii,.slice Q nl q]] w fun e w'=>e=stopE 6 0 0∧RS 1 X wx w0 g w' h qs a c:=by
 have HH:=hid H
 obtain ⟨L0,L1⟩:=two_lie w #[.int .i64 10,.int .i64 ia,.int .i64 ib,.int .i64 ic,.int .i64 ii,.slice Q nl q] #[.int .i64 0,.int .i64 0] 51 110
 have HB:Hid (Bl w ((w.alloc (insO 10 ia ib ic ii Q nl q)).alloc mvZ)):=((Bl.refl w).alloc _).alloc _
 have HL1:=hid L1
 have HN:=hid hn
 clear H hn L0 L1
 go_enter Try.func119,Try.ntmps119
 go_wp2_with (go_at_call 134;refine (HH.out.y.useN HB.out (fun X wx w H=>takeTwo_no 1 X wx w0 g h qs a c 2 w H HN.out)).mono ?_;rintro e w1 ⟨rfl,H1⟩;replace H1:=hid H1)
 exact ⟨rfl,rfl,H1.out⟩
set_option maxRecDepth 100000 in
theorem reckon10_yes (X:Nat→Prop) (wx w0:World) (g:Mg) (h:Hp) (qs:List Nat) (a:Mc) (c:Cal) (ia ib ic ii:Int) (Q:Option Addr) (nl q:Nat) (w:World) (H:RX 1 X wx w0 g w h qs a c) (l:List Va) (u v:Va) (hs:c.stk=l++[u,v]) (hu:u.kind=2) (hv:v.kind=2) :
  Calls Try.prog 119 #[.pointer (some ⟨a.q,0,none⟩),.agg #[.int .i64 10,.int .i64 ia,.int .i64 ib,.int .i64 ic,.int .i64 ii,.slice Q nl q]] w fun e w'=>e=.returned (mvV ⟨1,cmpV u.n v.n⟩)∧RX 1 X wx w0 g w' h qs a { c with stk:=l }:=by
 have HH:=hid H
 obtain ⟨L0,L1⟩:=two_lie w #[.int .i64 10,.int .i64 ia,.int .i64 ib,.int .i64 ic,.int .i64 ii,.slice Q nl q] #[.int .i64 0,.int .i64 0] 51 110
 have HB:Hid (Bl w ((w.alloc (insO 10 ia ib ic ii Q nl q)).alloc mvZ)):=((Bl.refl w).alloc _).alloc _
 have HL1:=hid L1
 have HK:=hid (And.intro hs (And.intro hu hv))
 have HM:Hid (im u=u∧im v=v):=⟨im_num (by rw [hu];decide),im_num (by rw [hv];decide)⟩
 clear H hs hu hv L0 L1
 go_enter Try.func119,Try.ntmps119
 go_wp2_with (first
  | (go_at_call 134;refine (HH.out.y.useY HB.out (fun X wx w H=>takeTwo_yes 1 X wx w0 g h qs a c l u v 2 w H HK.out.1 HK.out.2.1 HK.out.2.2)).mono ?_;rintro e w1 ⟨he,H1,K1⟩;rw [HM.out.1,HM.out.2] at he;subst he;have q1:=K1.at (Xp.new (Nat.le_succ _) (lt_w2b w _ _)) HL1.out;have c4:=c0_of q1;have c5:=c1_of q1;have fz:=free_blk q1;clear K1;replace H1:=hid H1;replace q1:=hid q1;have hlq:=lt_some q1.out)
  | (go_at_call 16;refine (cmp_any u.n v.n _).mono ?_;rintro e w2 ⟨rfl,hw⟩;rw [hw];clear hw w2)
  | (go_at_call 99;refine (mint_any (cmpV u.n v.n) _).mono ?_;rintro e w2 ⟨rfl,b2⟩;replace q1:=hid (bl_blk b2 (bl_blk (((Bl.refl w1).alloc (mvO u)).alloc (mvO v)) q1.out));clear c4 c5 fz;have c4:=c0_of q1.out;have c5:=c1_of q1.out;have fz:=free_blk q1.out;replace b2:=hid b2))
 refine bodyPost_ret (results_cell_row rfl _ _ (w.heap.size+1) _ _ _ _ rfl (set_two q1.out) Try.underlying110 rfl info_mv) rfl ?_
 refine ⟨rfl,RXY.x (RXY.set (RXY.set ((H1.out.bl (((Bl.refl w1).alloc (mvO u)).alloc (mvO v))).bl b2.out) ?_ 0 _) ?_ 1 _)⟩<;>exact Xp.old (Xp.old (Xp.new (Nat.le_succ _) (lt_w2b w _ _)))
end
end Go.Proofs.Ytimjmdfokicbkaa
