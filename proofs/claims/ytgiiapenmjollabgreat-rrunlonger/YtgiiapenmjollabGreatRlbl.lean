import Derived.Test.YtgiiapenmjollabGreatRlbi
import Derived.Test.YtgiiapenmjollabGreatRlbk
namespace Go.Proofs.YtgiiapenmjollabGreat
set_option linter.all false
set_option maxHeartbeats 40000000
set_option maxRecDepth 100000
open Go.RowKit
theorem preg_15 (cs:List Cl) (ms:List Me) (A B:Option Addr) (x y:Nat) (m:Me) (P C K:Option Addr) (p c k:Nat) (a b d n:Int) (args:List Int) (Q:Option Addr) (q:Nat) (w:World) (h1:1≤m.regs) (h2:m.regs≤90) (hA:ClsAt w A cs) (hi:(In.mk 15 a b d n args).ok) :
  Calls Tryz.prog 195 #[rmV m P C K p c k cs.length ms.length A B x y,riV ⟨15,a,b,d,n,args⟩ Q q] w fun e w'=>e=.returned (.bool (pregB cs ms m.regs m.ret.kind ⟨15,a,b,d,n,args⟩))∧Bl w w':=by
 obtain ⟨-,ia,ib,id,-⟩:=hi
 dsimp only at ia ib id
 have HIA:=hidp ia
 have HIB:=hidp ib
 have HID:=hidp id
 clear ia ib id
 have HAL:Hid (Bl w (rmiW w m P C K p c k cs.length ms.length A B x y ⟨15,a,b,d,n,args⟩ Q q)):=((Bl.refl _).alloc _).alloc _
 have HM:=hidp (rmi_m w m P C K p c k cs.length ms.length A B x y ⟨15,a,b,d,n,args⟩ Q q)
 have HI:=hidp (rmi_i w m P C K p c k cs.length ms.length A B x y ⟨15,a,b,d,n,args⟩ Q q)
 have HA:Hid (ClsAt w A cs):=hA
 clear hA
 have hb:pregB cs ms m.regs m.ret.kind ⟨15,a,b,d,n,args⟩=(phldB m.regs (kofI cs d n) [a]&&phldB m.regs 3 [b]):=rfl
 rw [hb]
 obtain ⟨KD,hKD⟩:∃KD,kofI cs d n=KD:=⟨_,rfl⟩
 rw [hKD]
 obtain ⟨R,hR⟩:∃R,phldB m.regs KD [a]=R:=⟨_,rfl⟩
 obtain ⟨S,hS⟩:∃S,phldB m.regs 3 [b]=S:=⟨_,rfl⟩
 rw [hR,hS]
 clear hb
 have HT:Hid (∀w',Bl (rmiW w m P C K p c k cs.length ms.length A B x y ⟨15,a,b,d,n,args⟩ Q q) w'→(fun w'=>Hid (Bl (rmiW w m P C K p c k cs.length ms.length A B x y ⟨15,a,b,d,n,args⟩ Q q) w')∧w'.cell? ⟨w.heap.size,0,none⟩=some (.slice P m.params.length p)∧w'.cell? ⟨w.heap.size,1,none⟩=some (.int .i64 m.ret.kind)∧w'.cell? ⟨w.heap.size,2,none⟩=some (.int .i64 m.ret.cls)∧w'.cell? ⟨w.heap.size,3,none⟩=some (.int .i64 m.stack)∧w'.cell? ⟨w.heap.size,4,none⟩=some (.int .i64 m.locs)∧w'.cell? ⟨w.heap.size,5,none⟩=some (.int .i64 m.regs)∧w'.cell? ⟨w.heap.size,6,none⟩=some (.slice C m.code.length c)∧w'.cell? ⟨w.heap.size,7,none⟩=some (.slice K m.hands.length k)∧w'.cell? ⟨w.heap.size,8,none⟩=some (.slice A cs.length x)∧w'.cell? ⟨w.heap.size,9,none⟩=some (.slice B ms.length y)∧w'.cell? ⟨w.heap.size+1,0,none⟩=some (.int .i64 (15))∧w'.cell? ⟨w.heap.size+1,1,none⟩=some (.int .i64 a)∧w'.cell? ⟨w.heap.size+1,2,none⟩=some (.int .i64 b)∧w'.cell? ⟨w.heap.size+1,3,none⟩=some (.int .i64 d)∧w'.cell? ⟨w.heap.size+1,4,none⟩=some (.int .i64 n)∧w'.cell? ⟨w.heap.size+1,5,none⟩=some (.slice Q args.length q)) w'):=fun w' hb=>by
  have hm:=HM.out.bl hb
  have hi:=HI.out.bl hb
  exact ⟨hb,hm.m0,hm.m1,hm.m2,hm.m3,hm.m4,hm.m5,hm.m6,hm.m7,hm.m8,hm.m9,hi.i0,hi.i1,hi.i2,hi.i3,hi.i4,hi.i5⟩
 cases R
 ·rw [Bool.false_and]
  go_enter Tryz.func195,Tryz.ntmps195
  go_wp2
  refine wp_region_held_drew (S:=fun w'=>Hid (Bl (rmiW w m P C K p c k cs.length ms.length A B x y ⟨15,a,b,d,n,args⟩ Q q) w')∧w'.cell? ⟨w.heap.size,0,none⟩=some (.slice P m.params.length p)∧w'.cell? ⟨w.heap.size,1,none⟩=some (.int .i64 m.ret.kind)∧w'.cell? ⟨w.heap.size,2,none⟩=some (.int .i64 m.ret.cls)∧w'.cell? ⟨w.heap.size,3,none⟩=some (.int .i64 m.stack)∧w'.cell? ⟨w.heap.size,4,none⟩=some (.int .i64 m.locs)∧w'.cell? ⟨w.heap.size,5,none⟩=some (.int .i64 m.regs)∧w'.cell? ⟨w.heap.size,6,none⟩=some (.slice C m.code.length c)∧w'.cell? ⟨w.heap.size,7,none⟩=some (.slice K m.hands.length k)∧w'.cell? ⟨w.heap.size,8,none⟩=some (.slice A cs.length x)∧w'.cell? ⟨w.heap.size,9,none⟩=some (.slice B ms.length y)∧w'.cell? ⟨w.heap.size+1,0,none⟩=some (.int .i64 (15))∧w'.cell? ⟨w.heap.size+1,1,none⟩=some (.int .i64 a)∧w'.cell? ⟨w.heap.size+1,2,none⟩=some (.int .i64 b)∧w'.cell? ⟨w.heap.size+1,3,none⟩=some (.int .i64 d)∧w'.cell? ⟨w.heap.size+1,4,none⟩=some (.int .i64 n)∧w'.cell? ⟨w.heap.size+1,5,none⟩=some (.slice Q args.length q)) (by kernel_rfl) ?_ (fun hHeld0=>?_)
  ·exact HT.out _ (bl_dr (Bl.refl _))
  refine tk (i:=0) (d:=some 115) rfl rfl (by kernel_rfl) (fun _ _ _ h=>h) (by rfl) (by intro _ h;(try dsimp only at h);go_split_ands;go_simp<;>with_reducible rfl) hHeld0 ?_
  try simp only [aS,aN,aT,a0,a1]
  refine tk (i:=1) (d:=some 116) rfl rfl (by kernel_rfl) (fun _ _ _ h=>h) (by rfl) (by intro _ h;(try dsimp only at h);go_split_ands;go_simp<;>with_reducible rfl) hHeld0 ?_
  try simp only [aS,aN,aT,a0,a1]
  refine tk (i:=2) (d:=some 117) rfl rfl (by kernel_rfl) (fun _ _ _ h=>h) (by rfl) (by intro _ h;(try dsimp only at h);go_split_ands;go_simp<;>with_reducible rfl) hHeld0 ?_
  try simp only [aS,aN,aT,a0,a1]
  refine tk (i:=4) (d:=some 119) rfl rfl (by kernel_rfl) (fun _ _ _ h=>h) (by rfl) (by intro _ h;(try dsimp only at h);go_split_ands;go_simp<;>with_reducible rfl) hHeld0 ?_
  try simp only [aS,aN,aT,a0,a1]
  refine tk (i:=5) (d:=some 120) rfl rfl (by kernel_rfl) (fun _ _ _ h=>h) (by rfl) (by intro _ h;(try dsimp only at h);go_split_ands;go_simp<;>with_reducible rfl) hHeld0 ?_
  try simp only [aS,aN,aT,a0,a1]
  refine wpAnyH_ready (rs:=[3,6]) (by kernel_rfl) (by simp) ?_
  refine AllReadyH.cons rfl (fun K hK=>?_) (AllReadyH.cons rfl (fun K hK=>?_) (AllReadyH.nil))
  ·go_simp
   go_at_call 253
   refine (kof_any m _ _ _ _ _ _ cs _ _ _ _ _ ⟨15,a,b,d,n,args⟩ _ _ _ (HA.out.bl (HAL.out.trans hHeld0.1.out))).mono ?_
   rintro e w1 ⟨he,g1⟩
   rw [hKD] at he
   subst he
   go_wp2_with fail
   refine hK.out _ _ (HT.out _ (hHeld0.1.out.trans g1)) (fun hHeld1=>?_)
   try simp only [aS,aN,aT,a0,a1]
   refine rd1 (i:=6) (by kernel_rfl) rfl fun K hK=>?_
   go_wp2_with fail
   refine hK.out _ _ (HT.out _ (hHeld1.1.out.alloc _)) (fun hHeld2=>?_)
   try simp only [aS,aN,aT,a0,a1]
   refine rd1 (i:=7) (by kernel_rfl) rfl fun K hK=>?_
   go_simp
   go_at_call 252
   refine (fholds_any m _ _ _ _ _ _ _ _ _ _ _ _ _ _ _ [a] _ h1 h2 (by first|exact HQS.out|exact ints_one (by simp [World.size_alloc]) HIA.out)).mono ?_
   rintro e w2 ⟨he,g2⟩
   rw [hR] at he
   subst he
   go_wp2_with fail
   refine hK.out _ _ (HT.out _ (hHeld2.1.out.trans g2)) (fun hHeld3=>?_)
   try simp only [aS,aN,aT,a0,a1]
   refine tk (i:=8) (d:=some 123) rfl rfl (by kernel_rfl) (fun _ _ _ h=>h) (by rfl) (by intro _ h;(try dsimp only at h);go_split_ands;go_simp<;>with_reducible rfl) hHeld3 ?_
   try simp only [aS,aN,aT,a0,a1]
   refine skipH (i:=9) (d:=some 124) rfl rfl (by kernel_rfl) (by kernel_rfl) (by kernel_rfl) (fun _ _ _ h=>h) (by rfl) hHeld3 ?_
   try simp only [aS,aN,aT,a0,a1]
   refine skipH (i:=10) (d:=some 125) rfl rfl (by kernel_rfl) (by kernel_rfl) (by kernel_rfl) (fun _ _ _ h=>h) (by rfl) hHeld3 ?_
   try simp only [aS,aN,aT,a0,a1]
   refine skipH (i:=11) (d:=some 126) rfl rfl (by kernel_rfl) (by kernel_rfl) (by kernel_rfl) (fun _ _ _ h=>h) (by rfl) hHeld3 ?_
   try simp only [aS,aN,aT,a0,a1]
   refine skipH (i:=12) (d:=some 127) rfl rfl (by kernel_rfl) (by kernel_rfl) (by kernel_rfl) (fun _ _ _ h=>h) (by rfl) hHeld3 ?_
   try simp only [aS,aN,aT,a0,a1]
   refine skipH (i:=13) (d:=some 128) rfl rfl (by kernel_rfl) (by kernel_rfl) (by kernel_rfl) (fun _ _ _ h=>h) (by rfl) hHeld3 ?_
   try simp only [aS,aN,aT,a0,a1]
   refine tk (i:=14) (d:=some 129) rfl rfl (by kernel_rfl) (fun _ _ _ h=>h) (by rfl) (by intro _ h;(try dsimp only at h);go_split_ands;go_simp<;>with_reducible rfl) hHeld3 ?_
   try simp only [aS,aN,aT,a0,a1]
   refine tk (i:=15) (d:=some 4) rfl rfl (by kernel_rfl) (fun _ _ _ h=>h) (by rfl) (by intro _ h;(try dsimp only at h);go_split_ands;go_simp<;>with_reducible rfl) hHeld3 ?_
   try simp only [aS,aN,aT,a0,a1]
   refine wpAnyH_done (by kernel_rfl) ?_ _
   go_wp2
   go_ret
   exact ⟨rfl,HAL.out.trans hHeld3.1.out⟩
  ·go_wp2_with fail
   refine hK.out _ _ (HT.out _ (hHeld0.1.out.alloc _)) (fun hHeld4=>?_)
   try simp only [aS,aN,aT,a0,a1]
   refine rd1 (i:=3) (by kernel_rfl) rfl fun K hK=>?_
   go_simp
   go_at_call 253
   refine (kof_any m _ _ _ _ _ _ cs _ _ _ _ _ ⟨15,a,b,d,n,args⟩ _ _ _ (HA.out.bl (HAL.out.trans hHeld4.1.out))).mono ?_
   rintro e w1 ⟨he,g1⟩
   rw [hKD] at he
   subst he
   have HQS:=hidp (IntsAt.bl g1 (IntsAt.bl (bl_dr (Bl.refl _)) (ints_one (n:=w.heap.size+1+1) (by simp [World.size_alloc]) HIA.out)))
   go_wp2_with fail
   refine hK.out _ _ (HT.out _ (hHeld4.1.out.trans g1)) (fun hHeld5=>?_)
   try simp only [aS,aN,aT,a0,a1]
   refine rd1 (i:=7) (by kernel_rfl) rfl fun K hK=>?_
   go_simp
   go_at_call 252
   refine (fholds_any m _ _ _ _ _ _ _ _ _ _ _ _ _ _ _ [a] _ h1 h2 (by first|exact HQS.out|exact ints_one (by simp [World.size_alloc]) HIA.out)).mono ?_
   rintro e w2 ⟨he,g2⟩
   rw [hR] at he
   subst he
   go_wp2_with fail
   refine hK.out _ _ (HT.out _ (hHeld5.1.out.trans g2)) (fun hHeld6=>?_)
   try simp only [aS,aN,aT,a0,a1]
   refine tk (i:=8) (d:=some 123) rfl rfl (by kernel_rfl) (fun _ _ _ h=>h) (by rfl) (by intro _ h;(try dsimp only at h);go_split_ands;go_simp<;>with_reducible rfl) hHeld6 ?_
   try simp only [aS,aN,aT,a0,a1]
   refine skipH (i:=9) (d:=some 124) rfl rfl (by kernel_rfl) (by kernel_rfl) (by kernel_rfl) (fun _ _ _ h=>h) (by rfl) hHeld6 ?_
   try simp only [aS,aN,aT,a0,a1]
   refine skipH (i:=10) (d:=some 125) rfl rfl (by kernel_rfl) (by kernel_rfl) (by kernel_rfl) (fun _ _ _ h=>h) (by rfl) hHeld6 ?_
   try simp only [aS,aN,aT,a0,a1]
   refine skipH (i:=11) (d:=some 126) rfl rfl (by kernel_rfl) (by kernel_rfl) (by kernel_rfl) (fun _ _ _ h=>h) (by rfl) hHeld6 ?_
   try simp only [aS,aN,aT,a0,a1]
   refine skipH (i:=12) (d:=some 127) rfl rfl (by kernel_rfl) (by kernel_rfl) (by kernel_rfl) (fun _ _ _ h=>h) (by rfl) hHeld6 ?_
   try simp only [aS,aN,aT,a0,a1]
   refine skipH (i:=13) (d:=some 128) rfl rfl (by kernel_rfl) (by kernel_rfl) (by kernel_rfl) (fun _ _ _ h=>h) (by rfl) hHeld6 ?_
   try simp only [aS,aN,aT,a0,a1]
   refine tk (i:=14) (d:=some 129) rfl rfl (by kernel_rfl) (fun _ _ _ h=>h) (by rfl) (by intro _ h;(try dsimp only at h);go_split_ands;go_simp<;>with_reducible rfl) hHeld6 ?_
   try simp only [aS,aN,aT,a0,a1]
   refine tk (i:=15) (d:=some 4) rfl rfl (by kernel_rfl) (fun _ _ _ h=>h) (by rfl) (by intro _ h;(try dsimp only at h);go_split_ands;go_simp<;>with_reducible rfl) hHeld6 ?_
   try simp only [aS,aN,aT,a0,a1]
   refine wpAnyH_done (by kernel_rfl) ?_ _
   go_wp2
   go_ret
   exact ⟨rfl,HAL.out.trans hHeld6.1.out⟩
 ·rw [Bool.true_and]
  go_enter Tryz.func195,Tryz.ntmps195
  go_wp2
  refine wp_region_held_drew (S:=fun w'=>Hid (Bl (rmiW w m P C K p c k cs.length ms.length A B x y ⟨15,a,b,d,n,args⟩ Q q) w')∧w'.cell? ⟨w.heap.size,0,none⟩=some (.slice P m.params.length p)∧w'.cell? ⟨w.heap.size,1,none⟩=some (.int .i64 m.ret.kind)∧w'.cell? ⟨w.heap.size,2,none⟩=some (.int .i64 m.ret.cls)∧w'.cell? ⟨w.heap.size,3,none⟩=some (.int .i64 m.stack)∧w'.cell? ⟨w.heap.size,4,none⟩=some (.int .i64 m.locs)∧w'.cell? ⟨w.heap.size,5,none⟩=some (.int .i64 m.regs)∧w'.cell? ⟨w.heap.size,6,none⟩=some (.slice C m.code.length c)∧w'.cell? ⟨w.heap.size,7,none⟩=some (.slice K m.hands.length k)∧w'.cell? ⟨w.heap.size,8,none⟩=some (.slice A cs.length x)∧w'.cell? ⟨w.heap.size,9,none⟩=some (.slice B ms.length y)∧w'.cell? ⟨w.heap.size+1,0,none⟩=some (.int .i64 (15))∧w'.cell? ⟨w.heap.size+1,1,none⟩=some (.int .i64 a)∧w'.cell? ⟨w.heap.size+1,2,none⟩=some (.int .i64 b)∧w'.cell? ⟨w.heap.size+1,3,none⟩=some (.int .i64 d)∧w'.cell? ⟨w.heap.size+1,4,none⟩=some (.int .i64 n)∧w'.cell? ⟨w.heap.size+1,5,none⟩=some (.slice Q args.length q)) (by kernel_rfl) ?_ (fun hHeld0=>?_)
  ·exact HT.out _ (bl_dr (Bl.refl _))
  refine tk (i:=0) (d:=some 115) rfl rfl (by kernel_rfl) (fun _ _ _ h=>h) (by rfl) (by intro _ h;(try dsimp only at h);go_split_ands;go_simp<;>with_reducible rfl) hHeld0 ?_
  try simp only [aS,aN,aT,a0,a1]
  refine tk (i:=1) (d:=some 116) rfl rfl (by kernel_rfl) (fun _ _ _ h=>h) (by rfl) (by intro _ h;(try dsimp only at h);go_split_ands;go_simp<;>with_reducible rfl) hHeld0 ?_
  try simp only [aS,aN,aT,a0,a1]
  refine tk (i:=2) (d:=some 117) rfl rfl (by kernel_rfl) (fun _ _ _ h=>h) (by rfl) (by intro _ h;(try dsimp only at h);go_split_ands;go_simp<;>with_reducible rfl) hHeld0 ?_
  try simp only [aS,aN,aT,a0,a1]
  refine tk (i:=4) (d:=some 119) rfl rfl (by kernel_rfl) (fun _ _ _ h=>h) (by rfl) (by intro _ h;(try dsimp only at h);go_split_ands;go_simp<;>with_reducible rfl) hHeld0 ?_
  try simp only [aS,aN,aT,a0,a1]
  refine tk (i:=5) (d:=some 120) rfl rfl (by kernel_rfl) (fun _ _ _ h=>h) (by rfl) (by intro _ h;(try dsimp only at h);go_split_ands;go_simp<;>with_reducible rfl) hHeld0 ?_
  try simp only [aS,aN,aT,a0,a1]
  refine wpAnyH_ready (rs:=[3,6]) (by kernel_rfl) (by simp) ?_
  refine AllReadyH.cons rfl (fun K hK=>?_) (AllReadyH.cons rfl (fun K hK=>?_) (AllReadyH.nil))
  ·go_simp
   go_at_call 253
   refine (kof_any m _ _ _ _ _ _ cs _ _ _ _ _ ⟨15,a,b,d,n,args⟩ _ _ _ (HA.out.bl (HAL.out.trans hHeld0.1.out))).mono ?_
   rintro e w1 ⟨he,g1⟩
   rw [hKD] at he
   subst he
   go_wp2_with fail
   refine hK.out _ _ (HT.out _ (hHeld0.1.out.trans g1)) (fun hHeld1=>?_)
   try simp only [aS,aN,aT,a0,a1]
   refine rd1 (i:=6) (by kernel_rfl) rfl fun K hK=>?_
   go_wp2_with fail
   refine hK.out _ _ (HT.out _ (hHeld1.1.out.alloc _)) (fun hHeld2=>?_)
   try simp only [aS,aN,aT,a0,a1]
   refine rd1 (i:=7) (by kernel_rfl) rfl fun K hK=>?_
   go_simp
   go_at_call 252
   refine (fholds_any m _ _ _ _ _ _ _ _ _ _ _ _ _ _ _ [a] _ h1 h2 (by first|exact HQS.out|exact ints_one (by simp [World.size_alloc]) HIA.out)).mono ?_
   rintro e w2 ⟨he,g2⟩
   rw [hR] at he
   subst he
   go_wp2_with fail
   refine hK.out _ _ (HT.out _ (hHeld2.1.out.trans g2)) (fun hHeld3=>?_)
   try simp only [aS,aN,aT,a0,a1]
   refine tk (i:=8) (d:=some 123) rfl rfl (by kernel_rfl) (fun _ _ _ h=>h) (by rfl) (by intro _ h;(try dsimp only at h);go_split_ands;go_simp<;>with_reducible rfl) hHeld3 ?_
   try simp only [aS,aN,aT,a0,a1]
   refine tk (i:=9) (d:=some 124) rfl rfl (by kernel_rfl) (fun _ _ _ h=>h) (by rfl) (by intro _ h;(try dsimp only at h);go_split_ands;go_simp<;>with_reducible rfl) hHeld3 ?_
   try simp only [aS,aN,aT,a0,a1]
   refine tk (i:=10) (d:=some 125) rfl rfl (by kernel_rfl) (fun _ _ _ h=>h) (by rfl) (by intro _ h;(try dsimp only at h);go_split_ands;go_simp<;>with_reducible rfl) hHeld3 ?_
   try simp only [aS,aN,aT,a0,a1]
   refine tk (i:=11) (d:=some 126) rfl rfl (by kernel_rfl) (fun _ _ _ h=>h) (by rfl) (by intro _ h;(try dsimp only at h);go_split_ands;go_simp<;>with_reducible rfl) hHeld3 ?_
   try simp only [aS,aN,aT,a0,a1]
   refine rd1 (i:=12) (by kernel_rfl) rfl fun K hK=>?_
   rw [if_pos]
   rotate_left 1
   ·rfl
   go_wp2_with fail
   refine hK.out _ _ (HT.out _ (hHeld3.1.out.alloc _)) (fun hHeld4=>?_)
   try simp only [aS,aN,aT,a0,a1]
   refine rd1 (i:=13) (by kernel_rfl) rfl fun K hK=>?_
   rw [if_pos]
   rotate_left 1
   ·rfl
   go_simp
   go_at_call 252
   refine (fholds_any m _ _ _ _ _ _ _ _ _ _ _ _ _ _ _ [b] _ h1 h2 (ints_one (by simp [World.size_alloc]) HIB.out)).mono ?_
   rintro e w3 ⟨he,g3⟩
   rw [hS] at he
   subst he
   go_wp2_with fail
   refine hK.out _ _ (HT.out _ (hHeld4.1.out.trans g3)) (fun hHeld5=>?_)
   try simp only [aS,aN,aT,a0,a1]
   refine tk (i:=14) (d:=some 129) rfl rfl (by kernel_rfl) (fun _ _ _ h=>h) (by rfl) (by intro _ h;(try dsimp only at h);go_split_ands;go_simp<;>with_reducible rfl) hHeld5 ?_
   try simp only [aS,aN,aT,a0,a1]
   refine tk (i:=15) (d:=some 4) rfl rfl (by kernel_rfl) (fun _ _ _ h=>h) (by rfl) (by intro _ h;(try dsimp only at h);go_split_ands;go_simp<;>with_reducible rfl) hHeld5 ?_
   try simp only [aS,aN,aT,a0,a1]
   refine wpAnyH_done (by kernel_rfl) ?_ _
   go_wp2
   go_ret
   exact ⟨rfl,HAL.out.trans hHeld5.1.out⟩
  ·go_wp2_with fail
   refine hK.out _ _ (HT.out _ (hHeld0.1.out.alloc _)) (fun hHeld6=>?_)
   try simp only [aS,aN,aT,a0,a1]
   refine rd1 (i:=3) (by kernel_rfl) rfl fun K hK=>?_
   go_simp
   go_at_call 253
   refine (kof_any m _ _ _ _ _ _ cs _ _ _ _ _ ⟨15,a,b,d,n,args⟩ _ _ _ (HA.out.bl (HAL.out.trans hHeld6.1.out))).mono ?_
   rintro e w1 ⟨he,g1⟩
   rw [hKD] at he
   subst he
   have HQS:=hidp (IntsAt.bl g1 (IntsAt.bl (bl_dr (Bl.refl _)) (ints_one (n:=w.heap.size+1+1) (by simp [World.size_alloc]) HIA.out)))
   go_wp2_with fail
   refine hK.out _ _ (HT.out _ (hHeld6.1.out.trans g1)) (fun hHeld7=>?_)
   try simp only [aS,aN,aT,a0,a1]
   refine rd1 (i:=7) (by kernel_rfl) rfl fun K hK=>?_
   go_simp
   go_at_call 252
   refine (fholds_any m _ _ _ _ _ _ _ _ _ _ _ _ _ _ _ [a] _ h1 h2 (by first|exact HQS.out|exact ints_one (by simp [World.size_alloc]) HIA.out)).mono ?_
   rintro e w2 ⟨he,g2⟩
   rw [hR] at he
   subst he
   go_wp2_with fail
   refine hK.out _ _ (HT.out _ (hHeld7.1.out.trans g2)) (fun hHeld8=>?_)
   try simp only [aS,aN,aT,a0,a1]
   refine tk (i:=8) (d:=some 123) rfl rfl (by kernel_rfl) (fun _ _ _ h=>h) (by rfl) (by intro _ h;(try dsimp only at h);go_split_ands;go_simp<;>with_reducible rfl) hHeld8 ?_
   try simp only [aS,aN,aT,a0,a1]
   refine tk (i:=9) (d:=some 124) rfl rfl (by kernel_rfl) (fun _ _ _ h=>h) (by rfl) (by intro _ h;(try dsimp only at h);go_split_ands;go_simp<;>with_reducible rfl) hHeld8 ?_
   try simp only [aS,aN,aT,a0,a1]
   refine tk (i:=10) (d:=some 125) rfl rfl (by kernel_rfl) (fun _ _ _ h=>h) (by rfl) (by intro _ h;(try dsimp only at h);go_split_ands;go_simp<;>with_reducible rfl) hHeld8 ?_
   try simp only [aS,aN,aT,a0,a1]
   refine tk (i:=11) (d:=some 126) rfl rfl (by kernel_rfl) (fun _ _ _ h=>h) (by rfl) (by intro _ h;(try dsimp only at h);go_split_ands;go_simp<;>with_reducible rfl) hHeld8 ?_
   try simp only [aS,aN,aT,a0,a1]
   refine rd1 (i:=12) (by kernel_rfl) rfl fun K hK=>?_
   rw [if_pos]
   rotate_left 1
   ·rfl
   go_wp2_with fail
   refine hK.out _ _ (HT.out _ (hHeld8.1.out.alloc _)) (fun hHeld9=>?_)
   try simp only [aS,aN,aT,a0,a1]
   refine rd1 (i:=13) (by kernel_rfl) rfl fun K hK=>?_
   rw [if_pos]
   rotate_left 1
   ·rfl
   go_simp
   go_at_call 252
   refine (fholds_any m _ _ _ _ _ _ _ _ _ _ _ _ _ _ _ [b] _ h1 h2 (ints_one (by simp [World.size_alloc]) HIB.out)).mono ?_
   rintro e w3 ⟨he,g3⟩
   rw [hS] at he
   subst he
   go_wp2_with fail
   refine hK.out _ _ (HT.out _ (hHeld9.1.out.trans g3)) (fun hHeld10=>?_)
   try simp only [aS,aN,aT,a0,a1]
   refine tk (i:=14) (d:=some 129) rfl rfl (by kernel_rfl) (fun _ _ _ h=>h) (by rfl) (by intro _ h;(try dsimp only at h);go_split_ands;go_simp<;>with_reducible rfl) hHeld10 ?_
   try simp only [aS,aN,aT,a0,a1]
   refine tk (i:=15) (d:=some 4) rfl rfl (by kernel_rfl) (fun _ _ _ h=>h) (by rfl) (by intro _ h;(try dsimp only at h);go_split_ands;go_simp<;>with_reducible rfl) hHeld10 ?_
   try simp only [aS,aN,aT,a0,a1]
   refine wpAnyH_done (by kernel_rfl) ?_ _
   go_wp2
   go_ret
   exact ⟨rfl,HAL.out.trans hHeld10.1.out⟩
theorem preg_any (i:In) (cs:List Cl) (ms:List Me) (A B:Option Addr) (x y:Nat) (m:Me) (P C K:Option Addr) (p c k:Nat) (Q:Option Addr) (q:Nat) (w:World) (h1:1≤m.regs) (h2:m.regs≤90) (hi:i.ok) (hA:ClsAt w A cs) (hB:MesAt w B ms) (hQ:IntsAt w Q i.args) :
  Calls Tryz.prog 195 #[rmV m P C K p c k cs.length ms.length A B x y,riV i Q q] w fun e w'=>e=.returned (.bool (pregB cs ms m.regs m.ret.kind i))∧Bl w w':=by
 obtain ⟨op,a,b,d,n,args⟩:=i
 have hop:op=1∨op=3∨op=13∨op=16∨op=21∨op=22∨op=2∨op=24∨op=4∨op=5∨op=6∨op=7∨op=8∨op=9∨op=11∨op=12∨op=14∨op=15∨op=17∨op=18∨op=19∨op=23∨op=20∨(op≠1∧op≠3∧op≠13∧op≠16∧op≠21∧op≠22∧op≠2∧op≠24∧op≠4∧op≠5∧op≠6∧op≠7∧op≠8∧op≠9∧op≠11∧op≠12∧op≠14∧op≠15∧op≠17∧op≠18∧op≠19∧op≠23∧op≠20):=by omega
 rcases hop with rfl|rfl|rfl|rfl|rfl|rfl|rfl|rfl|rfl|rfl|rfl|rfl|rfl|rfl|rfl|rfl|rfl|rfl|rfl|rfl|rfl|rfl|rfl|hop
 ·exact preg_1 cs ms A B x y m P C K p c k a b d n args Q q w h1 h2 hi
 ·exact preg_3 cs ms A B x y m P C K p c k a b d n args Q q w h1 h2 hi
 ·exact preg_13 cs ms A B x y m P C K p c k a b d n args Q q w h1 h2 hi
 ·exact preg_16 cs ms A B x y m P C K p c k a b d n args Q q w h1 h2 hi
 ·exact preg_21 cs ms A B x y m P C K p c k a b d n args Q q w h1 h2 hi
 ·exact preg_22 cs ms A B x y m P C K p c k a b d n args Q q w h1 h2 hi
 ·exact preg_2 cs ms A B x y m P C K p c k a b d n args Q q w h1 h2 hi
 ·exact preg_24 cs ms A B x y m P C K p c k a b d n args Q q w h1 h2 hi
 ·exact preg_4 cs ms A B x y m P C K p c k a b d n args Q q w h1 h2 hi
 ·exact preg_5 cs ms A B x y m P C K p c k a b d n args Q q w h1 h2 hi
 ·exact preg_6 cs ms A B x y m P C K p c k a b d n args Q q w h1 h2 hi
 ·exact preg_7 cs ms A B x y m P C K p c k a b d n args Q q w h1 h2 hi
 ·exact preg_8 cs ms A B x y m P C K p c k a b d n args Q q w h1 h2 hi
 ·exact preg_9 cs ms A B x y m P C K p c k a b d n args Q q w h1 h2 hi
 ·exact preg_11 cs ms A B x y m P C K p c k a b d n args Q q w h1 h2 hi
 ·exact preg_12 cs ms A B x y m P C K p c k a b d n args Q q w h1 h2 hi
 ·exact preg_14 cs ms A B x y m P C K p c k a b d n args Q q w h1 h2 hA hi
 ·exact preg_15 cs ms A B x y m P C K p c k a b d n args Q q w h1 h2 hA hi
 ·exact preg_17 cs ms A B x y m P C K p c k a b d n args Q q w h1 h2 hi
 ·have hb:pregB cs ms m.regs m.ret.kind ⟨18,a,b,d,n,args⟩=pargsB ms m.regs ⟨18,a,b,d,n,args⟩:=rfl
  rw [hb]
  obtain ⟨R,hR⟩:∃R,pargsB ms m.regs ⟨18,a,b,d,n,args⟩=R:=⟨_,rfl⟩
  rw [hR]
  have HAL:Hid (Bl w (rmiW w m P C K p c k cs.length ms.length A B x y ⟨18,a,b,d,n,args⟩ Q q)):=((Bl.refl _).alloc _).alloc _
  have HB:Hid (MesAt w B ms):=hB
  have HQ:Hid (IntsAt w Q args):=hQ
  clear hb hA hB hQ hi
  go_enter Tryz.func195,Tryz.ntmps195
  go_wp2_with (go_at_call 254;refine (pargs_any m _ _ _ _ _ _ _ ms _ _ _ _ ⟨18,a,b,d,n,args⟩ _ _ _ h1 h2 (HB.out.bl HAL.out) (HQ.out.bl HAL.out)).mono ?_;rintro e w1 ⟨he,g1⟩;rw [hR] at he;subst he)
  go_ret
  exact ⟨rfl,HAL.out.trans g1⟩
 ·exact preg_19 cs ms A B x y m P C K p c k a b d n args Q q w h1 h2 hi
 ·exact preg_23 cs ms A B x y m P C K p c k a b d n args Q q w h1 h2 hi
 ·have hb:pregB cs ms m.regs m.ret.kind ⟨20,a,b,d,n,args⟩=pretB m.regs m.ret.kind a:=rfl
  rw [hb]
  obtain ⟨R,hR⟩:∃R,pretB m.regs m.ret.kind a=R:=⟨_,rfl⟩
  rw [hR]
  have HAL:Hid (Bl w (rmiW w m P C K p c k cs.length ms.length A B x y ⟨20,a,b,d,n,args⟩ Q q)):=((Bl.refl _).alloc _).alloc _
  have HIK:=hidp hi
  clear hb hA hB hQ hi
  go_enter Tryz.func195,Tryz.ntmps195
  go_wp2_with (go_at_call 255;refine (pret_any m _ _ _ _ _ _ _ _ _ _ _ _ ⟨20,a,b,d,n,args⟩ _ _ _ h1 h2 HIK.out).mono ?_;rintro e w1 ⟨he,g1⟩;rw [hR] at he;subst he)
  go_ret
  exact ⟨rfl,HAL.out.trans g1⟩
 ·obtain ⟨h1,h3,h13,h16,h21,h22,h2,h24,h4,h5,h6,h7,h8,h9,h11,h12,h14,h15,h17,h18,h19,h23,h20⟩:=hop
  have z1:(op==1)=false:=by simp;omega
  have z3:(op==3)=false:=by simp;omega
  have z13:(op==13)=false:=by simp;omega
  have z16:(op==16)=false:=by simp;omega
  have z21:(op==21)=false:=by simp;omega
  have z22:(op==22)=false:=by simp;omega
  have z2:(op==2)=false:=by simp;omega
  have z24:(op==24)=false:=by simp;omega
  have z4:(op==4)=false:=by simp;omega
  have z5:(op==5)=false:=by simp;omega
  have z6:(op==6)=false:=by simp;omega
  have z7:(op==7)=false:=by simp;omega
  have z8:(op==8)=false:=by simp;omega
  have z9:(op==9)=false:=by simp;omega
  have z11:(op==11)=false:=by simp;omega
  have z12:(op==12)=false:=by simp;omega
  have z14:(op==14)=false:=by simp;omega
  have z15:(op==15)=false:=by simp;omega
  have z17:(op==17)=false:=by simp;omega
  have z18:(op==18)=false:=by simp;omega
  have z19:(op==19)=false:=by simp;omega
  have z23:(op==23)=false:=by simp;omega
  have z20:(op==20)=false:=by simp;omega
  have hb:pregB cs ms m.regs m.ret.kind ⟨op,a,b,d,n,args⟩=true:=by
   unfold pregB;dsimp only
   repeat rw [if_neg (by omega)]
  rw [hb]
  clear hb hA hB hQ hi h1 h3 h13 h16 h21 h22 h2 h24 h4 h5 h6 h7 h8 h9 h11 h12 h14 h15 h17 h18 h19 h23 h20
  go_enter Tryz.func195,Tryz.ntmps195
  go_wp2
  go_ret
  exact ⟨rfl,((Bl.refl _).alloc _).alloc _⟩
end Go.Proofs.YtgiiapenmjollabGreat
