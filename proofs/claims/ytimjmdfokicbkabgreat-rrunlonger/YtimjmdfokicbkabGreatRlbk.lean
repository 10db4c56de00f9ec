import Derived.Test.YtimjmdfokicbkabGreatRlbj
namespace Go.Proofs.YtimjmdfokicbkabGreat
set_option linter.unusedVariables false
set_option linter.unusedSimpArgs false
set_option maxHeartbeats 40000000
open Go.RowKit
set_option maxRecDepth 100000 in
theorem preg_15 (cs:List Cl) (ms:List Me) (A B:Option Addr) (x y:Nat) (m:Me) (P C K:Option Addr) (p c k:Nat) (a b d n:Int) (args:List Int) (Q:Option Addr) (q:Nat) (w:World) (h1:1≤m.regs) (h2:m.regs≤90) (hA:ClsAt w A cs) (hi:(In.mk 15 a b d n args).ok) :
  Calls Tryz.prog 55 #[rmV m P C K p c k cs.length ms.length A B x y,riV ⟨15,a,b,d,n,args⟩ Q q] w fun e w'=>e=.returned (.bool (pregB cs ms m.regs m.ret.kind ⟨15,a,b,d,n,args⟩))∧Bl w w':=by
 obtain ⟨-,ia,ib,id,-⟩:=hi
 dsimp only at ia ib id
 have HIA:=hidp ia
 have HIB:=hidp ib
 have HID:=hidp id
 clear ia ib id
 have HAL:Hid (Bl w (rmiW w m P C K p c k cs.length ms.length A B x y ⟨15,a,b,d,n,args⟩ Q q)):=((Bl.refl _).alloc _).alloc _
 have HM:=hidp (rmi_m w m P C K p c k cs.length ms.length A B x y ⟨15,a,b,d,n,args⟩ Q q)
 have HI:=hidp (rmi_i w m P C K p c k cs.length ms.length A B x y ⟨15,a,b,d,n,args⟩ Q q)
 have HA:Hid (ClsAt w A cs):=hA
 clear hA
 have hb:pregB cs ms m.regs m.ret.kind ⟨15,a,b,d,n,args⟩=(phldB m.regs (kofI cs d n) [a]&&phldB m.regs 3 [b]):=rfl
 rw [hb]
 obtain ⟨KD,hKD⟩:∃KD,kofI cs d n=KD:=⟨_,rfl⟩
 rw [hKD]
 obtain ⟨R,hR⟩:∃R,phldB m.regs KD [a]=R:=⟨_,rfl⟩
 obtain ⟨S,hS⟩:∃S,phldB m.regs 3 [b]=S:=⟨_,rfl⟩
 rw [hR,hS]
 clear hb
 have HT:Hid (∀w',Bl (rmiW w m P C K p c k cs.length ms.length A B x y ⟨15,a,b,d,n,args⟩ Q q) w'→(fun w'=>Hid (Bl (rmiW w m P C K p c k cs.length ms.length A B x y ⟨15,a,b,d,n,args⟩ Q q) w')∧w'.cell? ⟨w.heap.size,0,none⟩=some (.slice P m.params.length p)∧w'.cell? ⟨w.heap.size,1,none⟩=some (.int .i64 m.ret.kind)∧w'.cell? ⟨w.heap.size,2,none⟩=some (.int .i64 m.ret.cls)∧w'.cell? ⟨w.heap.size,3,none⟩=some (.int .i64 m.stack)∧w'.cell? ⟨w.heap.size,4,none⟩=some (.int .i64 m.locs)∧w'.cell? ⟨w.heap.size,5,none⟩=some (.int .i64 m.regs)∧w'.cell? ⟨w.heap.size,6,none⟩=some (.slice C m.code.length c)∧w'.cell? ⟨w.heap.size,7,none⟩=some (.slice K m.hands.length k)∧w'.cell? ⟨w.heap.size,8,none⟩=some (.slice A cs.length x)∧w'.cell? ⟨w.heap.size,9,none⟩=some (.slice B ms.length y)∧w'.cell? ⟨w.heap.size+1,0,none⟩=some (.int .i64 (15))∧w'.cell? ⟨w.heap.size+1,1,none⟩=some (.int .i64 a)∧w'.cell? ⟨w.heap.size+1,2,none⟩=some (.int .i64 b)∧w'.cell? ⟨w.heap.size+1,3,none⟩=some (.int .i64 d)∧w'.cell? ⟨w.heap.size+1,4,none⟩=some (.int .i64 n)∧w'.cell? ⟨w.heap.size+1,5,none⟩=some (.slice Q args.length q)) w'):=fun w' hb=>by
  have hm:=HM.out.bl hb
  have hi:=HI.out.bl hb
  exact ⟨hb,hm.m0,hm.m1,hm.m2,hm.m3,hm.m4,hm.m5,hm.m6,hm.m7,hm.m8,hm.m9,hi.i0,hi.i1,hi.i2,hi.i3,hi.i4,hi.i5⟩
 cases R
 ·rw [Bool.false_and]
  go_enter Tryz.func55,Tryz.ntmps55
  go_wp2
  refine wp_region_held_drew (S:=fun w'=>Hid (Bl (rmiW w m P C K p c k cs.length ms.length A B x y ⟨15,a,b,d,n,args⟩ Q q) w')∧w'.cell? ⟨w.heap.size,0,none⟩=some (.slice P m.params.length p)∧w'.cell? ⟨w.heap.size,1,none⟩=some (.int .i64 m.ret.kind)∧w'.cell? ⟨w.heap.size,2,none⟩=some (.int .i64 m.ret.cls)∧w'.cell? ⟨w.heap.size,3,none⟩=some (.int .i64 m.stack)∧w'.cell? ⟨w.heap.size,4,none⟩=some (.int .i64 m.locs)∧w'.cell? ⟨w.heap.size,5,none⟩=some (.int .i64 m.regs)∧w'.cell? ⟨w.heap.size,6,none⟩=some (.slice C m.code.length c)∧w'.cell? ⟨w.heap.size,7,none⟩=some (.slice K m.hands.length k)∧w'.cell? ⟨w.heap.size,8,none⟩=some (.slice A cs.length x)∧w'.cell? ⟨w.heap.size,9,none⟩=some (.slice B ms.length y)∧w'.cell? ⟨w.heap.size+1,0,none⟩=some (.int .i64 (15))∧w'.cell? ⟨w.heap.size+1,1,none⟩=some (.int .i64 a)∧w'.cell? ⟨w.heap.size+1,2,none⟩=some (.int .i64 b)∧w'.cell? ⟨w.heap.size+1,3,none⟩=some (.int .i64 d)∧w'.cell? ⟨w.heap.size+1,4,none⟩=some (.int .i64 n)∧w'.cell? ⟨w.heap.size+1,5,none⟩=some (.slice Q args.length q)) (by kernel_rfl) ?_ (fun hHeld0=>?_)
  ·exact HT.out _ (bl_dr (Bl.refl _))
  refine tk (i:=0) (d:=some 115) rfl rfl (by kernel_rfl) (fun _ _ _ h=>h) (by rfl) (by intro _ h;(try dsimp only at h);go_split_ands;go_simp<;>with_reducible rfl) hHeld0 ?_
  try simp only [aS,aN,aT,a0,a1]
  refine tk (i:=1) (d:=some 116) rfl rfl (by kernel_rfl) (fun _ _ _ h=>h) (by rfl) (by intro _ h;(try dsimp only at h);go_split_ands;go_simp<;>with_reducible rfl) hHeld0 ?_
  try simp only [aS,aN,aT,a0,a1]
  refine tk (i:=2) (d:=some 117) rfl rfl (by kernel_rfl) (fun _ _ _ h=>h) (by rfl) (by intro _ h;(try dsimp only at h);go_split_ands;go_simp<;>with_reducible rfl) hHeld0 ?_
  try simp only [aS,aN,aT,a0,a1]
  refine tk (i:=4) (d:=some 119) rfl rfl (by kernel_rfl) (fun _ _ _ h=>h) (by rfl) (by intro _ h;(try dsimp only at h);go_split_ands;go_simp<;>with_reducible rfl) hHeld0 ?_
  try simp only [aS,aN,aT,a0,a1]
  refine tk (i:=5) (d:=some 120) rfl rfl (by kernel_rfl) (fun _ _ _ h=>h) (by rfl) (by intro _ h;(try dsimp only at h);go_split_ands;go_simp<;>with_reducible rfl) hHeld0 ?_
  try simp only [aS,aN,aT,a0,a1]
  refine wpAnyH_ready (rs:=[3,6]) (by kernel_rfl) (by simp) ?_
  refine AllReadyH.cons rfl (fun K hK=>?_) (AllReadyH.cons rfl (fun K hK=>?_) (AllReadyH.nil))
  ·go_simp
   go_at_call 75
   refine (kof_any m _ _ _ _ _ _ cs _ _ _ _ _ ⟨15,a,b,d,n,args⟩ _ _ _ (HA.out.bl (HAL.out.trans hHeld0.1.out))).mono ?_
   rintro e w1 ⟨he,g1⟩
   rw [hKD] at he
   subst he
   go_wp2_with fail
   refine hK.out _ _ (HT.out _ (hHeld0.1.out.trans g1)) (fun hHeld1=>?_)
   try simp only [aS,aN,aT,a0,a1]
   refine rd1 (i:=6) (by kernel_rfl) rfl fun K hK=>?_
   go_wp2_with fail
   refine hK.out _ _ (HT.out _ (hHeld1.1.out.alloc _)) (fun hHeld2=>?_)
   try simp only [aS,aN,aT,a0,a1]
   refine rd1 (i:=7) (by kernel_rfl) rfl fun K hK=>?_
   go_simp
   go_at_call 74
   refine (fholds_any m _ _ _ _ _ _ _ _ _ _ _ _ _ _ _ [a] _ h1 h2 (by first|exact HQS.out|exact ints_one (by simp [World.size_alloc]) HIA.out)).mono ?_
   rintro e w2 ⟨he,g2⟩
   rw [hR] at he
   subst he
   go_wp2_with fail
   refine hK.out _ _ (HT.out _ (hHeld2.1.out.trans g2)) (fun hHeld3=>?_)
   try simp only [aS,aN,aT,a0,a1]
   refine tk (i:=8) (d:=some 123) rfl rfl (by kernel_rfl) (fun _ _ _ h=>h) (by rfl) (by intro _ h;(try dsimp only at h);go_split_ands;go_simp<;>with_reducible rfl) hHeld3 ?_
   try simp only [aS,aN,aT,a0,a1]
   refine skipH (i:=9) (d:=some 124) rfl rfl (by kernel_rfl) (by kernel_rfl) (by kernel_rfl) (fun _ _ _ h=>h) (by rfl) hHeld3 ?_
   try simp only [aS,aN,aT,a0,a1]
   refine skipH (i:=10) (d:=some 125) rfl rfl (by kernel_rfl) (by kernel_rfl) (by kernel_rfl) (fun _ _ _ h=>h) (by rfl) hHeld3 ?_
   try simp only [aS,aN,aT,a0,a1]
   refine skipH (i:=11) (d:=some 126) rfl rfl (by kernel_rfl) (by kernel_rfl) (by kernel_rfl) (fun _ _ _ h=>h) (by rfl) hHeld3 ?_
   try simp only [aS,aN,aT,a0,a1]
   refine skipH (i:=12) (d:=some 127) rfl rfl (by kernel_rfl) (by kernel_rfl) (by kernel_rfl) (fun _ _ _ h=>h) (by rfl) hHeld3 ?_
   try simp only [aS,aN,aT,a0,a1]
   refine skipH (i:=13) (d:=some 128) rfl rfl (by kernel_rfl) (by kernel_rfl) (by kernel_rfl) (fun _ _ _ h=>h) (by rfl) hHeld3 ?_
   try simp only [aS,aN,aT,a0,a1]
   refine tk (i:=14) (d:=some 129) rfl rfl (by kernel_rfl) (fun _ _ _ h=>h) (by rfl) (by intro _ h;(try dsimp only at h);go_split_ands;go_simp<;>with_reducible rfl) hHeld3 ?_
   try simp only [aS,aN,aT,a0,a1]
   refine tk (i:=15) (d:=some 4) rfl rfl (by kernel_rfl) (fun _ _ _ h=>h) (by rfl) (by intro _ h;(try dsimp only at h);go_split_ands;go_simp<;>with_reducible rfl) hHeld3 ?_
   try simp only [aS,aN,aT,a0,a1]
   refine wpAnyH_done (by kernel_rfl) ?_ _
   go_wp2
   go_ret
   exact ⟨rfl,HAL.out.trans hHeld3.1.out⟩
  ·go_wp2_with fail
   refine hK.out _ _ (HT.out _ (hHeld0.1.out.alloc _)) (fun hHeld4=>?_)
   try simp only [aS,aN,aT,a0,a1]
   refine rd1 (i:=3) (by kernel_rfl) rfl fun K hK=>?_
   go_simp
   go_at_call 75
   refine (kof_any m _ _ _ _ _ _ cs _ _ _ _ _ ⟨15,a,b,d,n,args⟩ _ _ _ (HA.out.bl (HAL.out.trans hHeld4.1.out))).mono ?_
   rintro e w1 ⟨he,g1⟩
   rw [hKD] at he
   subst he
   have HQS:=hidp (IntsAt.bl g1 (IntsAt.bl (bl_dr (Bl.refl _)) (ints_one (n:=w.heap.size+1+1) (by simp [World.size_alloc]) HIA.out)))
   go_wp2_with fail
   refine hK.out _ _ (HT.out _ (hHeld4.1.out.trans g1)) (fun hHeld5=>?_)
   try simp only [aS,aN,aT,a0,a1]
   refine rd1 (i:=7) (by kernel_rfl) rfl fun K hK=>?_
   go_simp
   go_at_call 74
   refine (fholds_any m _ _ _ _ _ _ _ _ _ _ _ _ _ _ _ [a] _ h1 h2 (by first|exact HQS.out|exact ints_one (by simp [World.size_alloc]) HIA.out)).mono ?_
   rintro e w2 ⟨he,g2⟩
   rw [hR] at he
   subst he
   go_wp2_with fail
   refine hK.out _ _ (HT.out _ (hHeld5.1.out.trans g2)) (fun hHeld6=>?_)
   try simp only [aS,aN,aT,a0,a1]
   refine tk (i:=8) (d:=some 123) rfl rfl (by kernel_rfl) (fun _ _ _ h=>h) (by rfl) (by intro _ h;(try dsimp only at h);go_split_ands;go_simp<;>with_reducible rfl) hHeld6 ?_
   try simp only [aS,aN,aT,a0,a1]
   refine skipH (i:=9) (d:=some 124) rfl rfl (by kernel_rfl) (by kernel_rfl) (by kernel_rfl) (fun _ _ _ h=>h) (by rfl) hHeld6 ?_
   try simp only [aS,aN,aT,a0,a1]
   refine skipH (i:=10) (d:=some 125) rfl rfl (by kernel_rfl) (by kernel_rfl) (by kernel_rfl) (fun _ _ _ h=>h) (by rfl) hHeld6 ?_
   try simp only [aS,aN,aT,a0,a1]
   refine skipH (i:=11) (d:=some 126) rfl rfl (by kernel_rfl) (by kernel_rfl) (by kernel_rfl) (fun _ _ _ h=>h) (by rfl) hHeld6 ?_
   try simp only [aS,aN,aT,a0,a1]
   refine skipH (i:=12) (d:=some 127) rfl rfl (by kernel_rfl) (by kernel_rfl) (by kernel_rfl) (fun _ _ _ h=>h) (by rfl) hHeld6 ?_
   try simp only [aS,aN,aT,a0,a1]
   refine skipH (i:=13) (d:=some 128) rfl rfl (by kernel_rfl) (by kernel_rfl) (by kernel_rfl) (fun _ _ _ h=>h) (by rfl) hHeld6 ?_
   try simp only [aS,aN,aT,a0,a1]
   refine tk (i:=14) (d:=some 129) rfl rfl (by kernel_rfl) (fun _ _ _ h=>h) (by rfl) (by intro _ h;(try dsimp only at h);go_split_ands;go_simp<;>with_reducible rfl) hHeld6 ?_
   try simp only [aS,aN,aT,a0,a1]
   refine tk (i:=15) (d:=some 4) rfl rfl (by kernel_rfl) (fun _ _ _ h=>h) (by rfl) (by intro _ h;(try dsimp only at h);go_split_ands;go_simp<;>with_reducible rfl) hHeld6 ?_
   try simp only [aS,aN,aT,a0,a1]
   refine wpAnyH_done (by kernel_rfl) ?_ _
   go_wp2
   go_ret
   exact ⟨rfl,HAL.out.trans hHeld6.1.out⟩
 ·rw [Bool.true_and]
  go_enter Tryz.func55,Tryz.ntmps55
  go_wp2
  refine wp_region_held_drew (S:=fun w'=>Hid (Bl (rmiW w m P C K p c k cs.length ms.length A B x y ⟨15,a,b,d,n,args⟩ Q q) w')∧w'.cell? ⟨w.heap.size,0,none⟩=some (.slice P m.params.length p)∧w'.cell? ⟨w.heap.size,1,none⟩=some (.int .i64 m.ret.kind)∧w'.cell? ⟨w.heap.size,2,none⟩=some (.int .i64 m.ret.cls)∧w'.cell? ⟨w.heap.size,3,none⟩=some (.int .i64 m.stack)∧w'.cell? ⟨w.heap.size,4,none⟩=some (.int .i64 m.locs)∧w'.cell? ⟨w.heap.size,5,none⟩=some (.int .i64 m.regs)∧w'.cell? ⟨w.heap.size,6,none⟩=some (.slice C m.code.length c)∧w'.cell? ⟨w.heap.size,7,none⟩=some (.slice K m.hands.length k)∧w'.cell? ⟨w.heap.size,8,none⟩=some (.slice A cs.length x)∧w'.cell? ⟨w.heap.size,9,none⟩=some (.slice B ms.length y)∧w'.cell? ⟨w.heap.size+1,0,none⟩=some (.int .i64 (15))∧w'.cell? ⟨w.heap.size+1,1,none⟩=some (.int .i64 a)∧w'.cell? ⟨w.heap.size+1,2,none⟩=some (.int .i64 b)∧w'.cell? ⟨w.heap.size+1,3,none⟩=some (.int .i64 d)∧w'.cell? ⟨w.heap.size+1,4,none⟩=some (.int .i64 n)∧w'.cell? ⟨w.heap.size+1,5,none⟩=some (.slice Q args.length q)) (by kernel_rfl) ?_ (fun hHeld0=>?_)
  ·exact HT.out _ (bl_dr (Bl.refl _))
  refine tk (i:=0) (d:=some 115) rfl rfl (by kernel_rfl) (fun _ _ _ h=>h) (by rfl) (by intro _ h;(try dsimp only at h);go_split_ands;go_simp<;>with_reducible rfl) hHeld0 ?_
  try simp only [aS,aN,aT,a0,a1]
  refine tk (i:=1) (d:=some 116) rfl rfl (by kernel_rfl) (fun _ _ _ h=>h) (by rfl) (by intro _ h;(try dsimp only at h);go_split_ands;go_simp<;>with_reducible rfl) hHeld0 ?_
  try simp only [aS,aN,aT,a0,a1]
  refine tk (i:=2) (d:=some 117) rfl rfl (by kernel_rfl) (fun _ _ _ h=>h) (by rfl) (by intro _ h;(try dsimp only at h);go_split_ands;go_simp<;>with_reducible rfl) hHeld0 ?_
  try simp only [aS,aN,aT,a0,a1]
  refine tk (i:=4) (d:=some 119) rfl rfl (by kernel_rfl) (fun _ _ _ h=>h) (by rfl) (by intro _ h;(try dsimp only at h);go_split_ands;go_simp<;>with_reducible rfl) hHeld0 ?_
  try simp only [aS,aN,aT,a0,a1]
  refine tk (i:=5) (d:=some 120) rfl rfl (by kernel_rfl) (fun _ _ _ h=>h) (by rfl) (by intro _ h;(try dsimp only at h);go_split_ands;go_simp<;>with_reducible rfl) hHeld0 ?_
  try simp only [aS,aN,aT,a0,a1]
  refine wpAnyH_ready (rs:=[3,6]) (by kernel_rfl) (by simp) ?_
  refine AllReadyH.cons rfl (fun K hK=>?_) (AllReadyH.cons rfl (fun K hK=>?_) (AllReadyH.nil))
  ·go_simp
   go_at_call 75
   refine (kof_any m _ _ _ _ _ _ cs _ _ _ _ _ ⟨15,a,b,d,n,args⟩ _ _ _ (HA.out.bl (HAL.out.trans hHeld0.1.out))).mono ?_
   rintro e w1 ⟨he,g1⟩
   rw [hKD] at he
   subst he
   go_wp2_with fail
   refine hK.out _ _ (HT.out _ (hHeld0.1.out.trans g1)) (fun hHeld1=>?_)
   try simp only [aS,aN,aT,a0,a1]
   refine rd1 (i:=6) (by kernel_rfl) rfl fun K hK=>?_
   go_wp2_with fail
   refine hK.out _ _ (HT.out _ (hHeld1.1.out.alloc _)) (fun hHeld2=>?_)
   try simp only [aS,aN,aT,a0,a1]
   refine rd1 (i:=7) (by kernel_rfl) rfl fun K hK=>?_
   go_simp
   go_at_call 74
   refine (fholds_any m _ _ _ _ _ _ _ _ _ _ _ _ _ _ _ [a] _ h1 h2 (by first|exact HQS.out|exact ints_one (by simp [World.size_alloc]) HIA.out)).mono ?_
   rintro e w2 ⟨he,g2⟩
   rw [hR] at he
   subst he
   go_wp2_with fail
   refine hK.out _ _ (HT.out _ (hHeld2.1.out.trans g2)) (fun hHeld3=>?_)
   try simp only [aS,aN,aT,a0,a1]
   refine tk (i:=8) (d:=some 123) rfl rfl (by kernel_rfl) (fun _ _ _ h=>h) (by rfl) (by intro _ h;(try dsimp only at h);go_split_ands;go_simp<;>with_reducible rfl) hHeld3 ?_
   try simp only [aS,aN,aT,a0,a1]
   refine tk (i:=9) (d:=some 124) rfl rfl (by kernel_rfl) (fun _ _ _ h=>h) (by rfl) (by intro _ h;(try dsimp only at h);go_split_ands;go_simp<;>with_reducible rfl) hHeld3 ?_
   try simp only [aS,aN,aT,a0,a1]
   refine tk (i:=10) (d:=some 125) rfl rfl (by kernel_rfl) (fun _ _ _ h=>h) (by rfl) (by intro _ h;(try dsimp only at h);go_split_ands;go_simp<;>with_reducible rfl) hHeld3 ?_
   try simp only [aS,aN,aT,a0,a1]
   refine tk (i:=11) (d:=some 126) rfl rfl (by kernel_rfl) (fun _ _ _ h=>h) (by rfl) (by intro _ h;(try dsimp only at h);go_split_ands;go_simp<;>with_reducible rfl) hHeld3 ?_
   try simp only [aS,aN,aT,a0,a1]
   refine rd1 (i:=12) (by kernel_rfl) rfl fun K hK=>?_
   rw [if_pos]
   rotate_left 1
   ·rfl
   go_wp2_with fail
   refine hK.out _ _ (HT.out _ (hHeld3.1.out.alloc _)) (fun hHeld4=>?_)
   try simp only [aS,aN,aT,a0,a1]
   refine rd1 (i:=13) (by kernel_rfl) rfl fun K hK=>?_
   rw [if_pos]
   rotate_left 1
   ·rfl
   go_simp
   go_at_call 74
   refine (fholds_any m _ _ _ _ _ _ _ _ _ _ _ _ _ _ _ [b] _ h1 h2 (ints_one (by simp [World.size_alloc]) HIB.out)).mono ?_
   rintro e w3 ⟨he,g3⟩
   rw [hS] at he
   subst he
   go_wp2_with fail
   refine hK.out _ _ (HT.out _ (hHeld4.1.out.trans g3)) (fun hHeld5=>?_)
   try simp only [aS,aN,aT,a0,a1]
   refine tk (i:=14) (d:=some 129) rfl rfl (by kernel_rfl) (fun _ _ _ h=>h) (by rfl) (by intro _ h;(try dsimp only at h);go_split_ands;go_simp<;>with_reducible rfl) hHeld5 ?_
   try simp only [aS,aN,aT,a0,a1]
   refine tk (i:=15) (d:=some 4) rfl rfl (by kernel_rfl) (fun _ _ _ h=>h) (by rfl) (by intro _ h;(try dsimp only at h);go_split_ands;go_simp<;>with_reducible rfl) hHeld5 ?_
   try simp only [aS,aN,aT,a0,a1]
   refine wpAnyH_done (by kernel_rfl) ?_ _
   go_wp2
   go_ret
   exact ⟨rfl,HAL.out.trans hHeld5.1.out⟩
  ·go_wp2_with fail
   refine hK.out _ _ (HT.out _ (hHeld0.1.out.alloc _)) (fun hHeld6=>?_)
   try simp only [aS,aN,aT,a0,a1]
   refine rd1 (i:=3) (by kernel_rfl) rfl fun K hK=>?_
   go_simp
   go_at_call 75
   refine (kof_any m _ _ _ _ _ _ cs _ _ _ _ _ ⟨15,a,b,d,n,args⟩ _ _ _ (HA.out.bl (HAL.out.trans hHeld6.1.out))).mono ?_
   rintro e w1 ⟨he,g1⟩
   rw [hKD] at he
   subst he
   have HQS:=hidp (IntsAt.bl g1 (IntsAt.bl (bl_dr (Bl.refl _)) (ints_one (n:=w.heap.size+1+1) (by simp [World.size_alloc]) HIA.out)))
   go_wp2_with fail
   refine hK.out _ _ (HT.out _ (hHeld6.1.out.trans g1)) (fun hHeld7=>?_)
   try simp only [aS,aN,aT,a0,a1]
   refine rd1 (i:=7) (by kernel_rfl) rfl fun K hK=>?_
   go_simp
   go_at_call 74
   refine (fholds_any m _ _ _ _ _ _ _ _ _ _ _ _ _ _ _ [a] _ h1 h2 (by first|exact HQS.out|exact ints_one (by simp [World.size_alloc]) HIA.out)).mono ?_
   rintro e w2 ⟨he,g2⟩
   rw [hR] at he
   subst he
   go_wp2_with fail
   refine hK.out _ _ (HT.out _ (hHeld7.1.out.trans g2)) (fun hHeld8=>?_)
   try simp only [aS,aN,aT,a0,a1]
   refine tk (i:=8) (d:=some 123) rfl rfl (by kernel_rfl) (fun _ _ _ h=>h) (by rfl) (by intro _ h;(try dsimp only at h);go_split_ands;go_simp<;>with_reducible rfl) hHeld8 ?_
   try simp only [aS,aN,aT,a0,a1]
   refine tk (i:=9) (d:=some 124) rfl rfl (by kernel_rfl) (fun _ _ _ h=>h) (by rfl) (by intro _ h;(try dsimp only at h);go_split_ands;go_simp<;>with_reducible rfl) hHeld8 ?_
   try simp only [aS,aN,aT,a0,a1]
   refine tk (i:=10) (d:=some 125) rfl rfl (by kernel_rfl) (fun _ _ _ h=>h) (by rfl) (by intro _ h;(try dsimp only at h);go_split_ands;go_simp<;>with_reducible rfl) hHeld8 ?_
   try simp only [aS,aN,aT,a0,a1]
   refine tk (i:=11) (d:=some 126) rfl rfl (by kernel_rfl) (fun _ _ _ h=>h) (by rfl) (by intro _ h;(try dsimp only at h);go_split_ands;go_simp<;>with_reducible rfl) hHeld8 ?_
   try simp only [aS,aN,aT,a0,a1]
   refine rd1 (i:=12) (by kernel_rfl) rfl fun K hK=>?_
   rw [if_pos]
   rotate_left 1
   ·rfl
   go_wp2_with fail
   refine hK.out _ _ (HT.out _ (hHeld8.1.out.alloc _)) (fun hHeld9=>?_)
   try simp only [aS,aN,aT,a0,a1]
   refine rd1 (i:=13) (by kernel_rfl) rfl fun K hK=>?_
   rw [if_pos]
   rotate_left 1
   ·rfl
   go_simp
   go_at_call 74
   refine (fholds_any m _ _ _ _ _ _ _ _ _ _ _ _ _ _ _ [b] _ h1 h2 (ints_one (by simp [World.size_alloc]) HIB.out)).mono ?_
   rintro e w3 ⟨he,g3⟩
   rw [hS] at he
   subst he
   go_wp2_with fail
   refine hK.out _ _ (HT.out _ (hHeld9.1.out.trans g3)) (fun hHeld10=>?_)
   try simp only [aS,aN,aT,a0,a1]
   refine tk (i:=14) (d:=some 129) rfl rfl (by kernel_rfl) (fun _ _ _ h=>h) (by rfl) (by intro _ h;(try dsimp only at h);go_split_ands;go_simp<;>with_reducible rfl) hHeld10 ?_
   try simp only [aS,aN,aT,a0,a1]
   refine tk (i:=15) (d:=some 4) rfl rfl (by kernel_rfl) (fun _ _ _ h=>h) (by rfl) (by intro _ h;(try dsimp only at h);go_split_ands;go_simp<;>with_reducible rfl) hHeld10 ?_
   try simp only [aS,aN,aT,a0,a1]
   refine wpAnyH_done (by kernel_rfl) ?_ _
   go_wp2
   go_ret
   exact ⟨rfl,HAL.out.trans hHeld10.1.out⟩
set_option maxRecDepth 100000 in
theorem preg_any (i:In) (cs:List Cl) (ms:List Me) (A B:Option Addr) (x y:Nat) (m:Me) (P C K:Option Addr) (p c k:Nat) (Q:Option Addr) (q:Nat) (w:World) (h1:1≤m.regs) (h2:m.regs≤90) (hi:i.ok) (hA:ClsAt w A cs) (hB:MesAt w B ms) (hQ:IntsAt w Q i.args) :
  Calls Tryz.prog 55 #[rmV m P C K p c k cs.length ms.length A B x y,riV i Q q] w fun e w'=>e=.returned (.bool (pregB cs ms m.regs m.ret.kind i))∧Bl w w':=by
 obtain ⟨op,a,b,d,n,args⟩:=i
 have hop:op=1∨op=3∨op=13∨op=16∨op=21∨op=22∨op=2∨op=24∨op=4∨op=5∨op=6∨op=7∨op=8∨op=9∨op=11∨op=12∨op=14∨op=15∨op=17∨op=18∨op=19∨op=23∨op=20∨(op≠1∧op≠3∧op≠13∧op≠16∧op≠21∧op≠22∧op≠2∧op≠24∧op≠4∧op≠5∧op≠6∧op≠7∧op≠8∧op≠9∧op≠11∧op≠12∧op≠14∧op≠15∧op≠17∧op≠18∧op≠19∧op≠23∧op≠20):=by omega
 rcases hop with rfl|rfl|rfl|rfl|rfl|rfl|rfl|rfl|rfl|rfl|rfl|rfl|rfl|rfl|rfl|rfl|rfl|rfl|rfl|rfl|rfl|rfl|rfl|hop
 ·exact preg_1 cs ms A B x y m P C K p c k a b d n args Q q w h1 h2 hi
 ·exact preg_3 cs ms A B x y m P C K p c k a b d n args Q q w h1 h2 hi
 ·exact preg_13 cs ms A B x y m P C K p c k a b d n args Q q w h1 h2 hi
 ·exact preg_16 cs ms A B x y m P C K p c k a b d n args Q q w h1 h2 hi
 ·exact preg_21 cs ms A B x y m P C K p c k a b d n args Q q w h1 h2 hi
 ·exact preg_22 cs ms A B x y m P C K p c k a b d n args Q q w h1 h2 hi
 ·exact preg_2 cs ms A B x y m P C K p c k a b d n args Q q w h1 h2 hi
 ·exact preg_24 cs ms A B x y m P C K p c k a b d n args Q q w h1 h2 hi
 ·exact preg_4 cs ms A B x y m P C K p c k a b d n args Q q w h1 h2 hi
 ·exact preg_5 cs ms A B x y m P C K p c k a b d n args Q q w h1 h2 hi
 ·exact preg_6 cs ms A B x y m P C K p c k a b d n args Q q w h1 h2 hi
 ·exact preg_7 cs ms A B x y m P C K p c k a b d n args Q q w h1 h2 hi
 ·exact preg_8 cs ms A B x y m P C K p c k a b d n args Q q w h1 h2 hi
 ·exact preg_9 cs ms A B x y m P C K p c k a b d n args Q q w h1 h2 hi
 ·exact preg_11 cs ms A B x y m P C K p c k a b d n args Q q w h1 h2 hi
 ·exact preg_12 cs ms A B x y m P C K p c k a b d n args Q q w h1 h2 hi
 ·exact preg_14 cs ms A B x y m P C K p c k a b d n args Q q w h1 h2 hA hi
 ·exact preg_15 cs ms A B x y m P C K p c k a b d n args Q q w h1 h2 hA hi
 ·exact preg_17 cs ms A B x y m P C K p c k a b d n args Q q w h1 h2 hi
 ·have hb:pregB cs ms m.regs m.ret.kind ⟨18,a,b,d,n,args⟩=pargsB ms m.regs ⟨18,a,b,d,n,args⟩:=rfl
  rw [hb]
  obtain ⟨R,hR⟩:∃R,pargsB ms m.regs ⟨18,a,b,d,n,args⟩=R:=⟨_,rfl⟩
  rw [hR]
  have HAL:Hid (Bl w (rmiW w m P C K p c k cs.length ms.length A B x y ⟨18,a,b,d,n,args⟩ Q q)):=((Bl.refl _).alloc _).alloc _
  have HB:Hid (MesAt w B ms):=hB
  have HQ:Hid (IntsAt w Q args):=hQ
  clear hb hA hB hQ hi
  go_enter Tryz.func55,Tryz.ntmps55
  go_wp2_with (go_at_call 76;refine (pargs_any m _ _ _ _ _ _ _ ms _ _ _ _ ⟨18,a,b,d,n,args⟩ _ _ _ h1 h2 (HB.out.bl HAL.out) (HQ.out.bl HAL.out)).mono ?_;rintro e w1 ⟨he,g1⟩;rw [hR] at he;subst he)
  go_ret
  exact ⟨rfl,HAL.out.trans g1⟩
 ·exact preg_19 cs ms A B x y m P C K p c k a b d n args Q q w h1 h2 hi
 ·exact preg_23 cs ms A B x y m P C K p c k a b d n args Q q w h1 h2 hi
 ·have hb:pregB cs ms m.regs m.ret.kind ⟨20,a,b,d,n,args⟩=pretB m.regs m.ret.kind a:=rfl
  rw [hb]
  obtain ⟨R,hR⟩:∃R,pretB m.regs m.ret.kind a=R:=⟨_,rfl⟩
  rw [hR]
  have HAL:Hid (Bl w (rmiW w m P C K p c k cs.length ms.length A B x y ⟨20,a,b,d,n,args⟩ Q q)):=((Bl.refl _).alloc _).alloc _
  have HIK:=hidp hi
  clear hb hA hB hQ hi
  go_enter Tryz.func55,Tryz.ntmps55
  go_wp2_with (go_at_call 77;refine (pret_any m _ _ _ _ _ _ _ _ _ _ _ _ ⟨20,a,b,d,n,args⟩ _ _ _ h1 h2 HIK.out).mono ?_;rintro e w1 ⟨he,g1⟩;rw [hR] at he;subst he)
  go_ret
  exact ⟨rfl,HAL.out.trans g1⟩
 ·obtain ⟨h1,h3,h13,h16,h21,h22,h2,h24,h4,h5,h6,h7,h8,h9,h11,h12,h14,h15,h17,h18,h19,h23,h20⟩:=hop
  have z1:(op==1)=false:=by simp;omega
  have z3:(op==3)=false:=by simp;omega
  have z13:(op==13)=false:=by simp;omega
  have z16:(op==16)=false:=by simp;omega
  have z21:(op==21)=false:=by simp;omega
  have z22:(op==22)=false:=by simp;omega
  have z2:(op==2)=false:=by simp;omega
  have z24:(op==24)=false:=by simp;omega
  have z4:(op==4)=false:=by simp;omega
  have z5:(op==5)=false:=by simp;omega
  have z6:(op==6)=false:=by simp;omega
  have z7:(op==7)=false:=by simp;omega
  have z8:(op==8)=false:=by simp;omega
  have z9:(op==9)=false:=by simp;omega
  have z11:(op==11)=false:=by simp;omega
  have z12:(op==12)=false:=by simp;omega
  have z14:(op==14)=false:=by simp;omega
  have z15:(op==15)=false:=by simp;omega
  have z17:(op==17)=false:=by simp;omega
  have z18:(op==18)=false:=by simp;omega
  have z19:(op==19)=false:=by simp;omega
  have z23:(op==23)=false:=by simp;omega
  have z20:(op==20)=false:=by simp;omega
  have hb:pregB cs ms m.regs m.ret.kind ⟨op,a,b,d,n,args⟩=true:=by
   unfold pregB;dsimp only
   repeat rw [if_neg (by omega)]
  rw [hb]
  clear hb hA hB hQ hi h1 h3 h13 h16 h21 h22 h2 h24 h4 h5 h6 h7 h8 h9 h11 h12 h14 h15 h17 h18 h19 h23 h20
  go_enter Tryz.func55,Tryz.ntmps55
  go_wp2
  go_ret
  exact ⟨rfl,((Bl.refl _).alloc _).alloc _⟩


theorem FiBox.new (w:World) (nc nm:Nat) (A B:Option Addr) (x y:Nat):FiBox (w.alloc (fiO nc nm A B x y)) w.heap.size 0 nc nm A B x y:=⟨cell_of_new rfl,cell_of_new rfl⟩
structure SCells3 (w:World) (b:Nat) (nc nm:Nat) (A B:Option Addr) (x y:Nat) (m:Me) (P C K:Option Addr) (p c k:Nat) (i:In) (Q:Option Addr) (q:Nat):Prop where
 f0:w.cell? ⟨b,0,none⟩=some (.slice A nc x)
 f1:w.cell? ⟨b,1,none⟩=some (.slice B nm y)
 m:MeCells w (b+1) m P C K p c k
 i0:w.cell? ⟨b+1+1,0,none⟩=some (.int .i64 i.op)
 i1:w.cell? ⟨b+1+1,1,none⟩=some (.int .i64 i.a)
 i2:w.cell? ⟨b+1+1,2,none⟩=some (.int .i64 i.b)
 i3:w.cell? ⟨b+1+1,3,none⟩=some (.int .i64 i.c)
 i4:w.cell? ⟨b+1+1,4,none⟩=some (.int .i64 i.n)
 i5:w.cell? ⟨b+1+1,5,none⟩=some (.slice Q i.args.length q)
theorem SCells3.bl {w w':World} (h:Bl w w') {b nc nm:Nat} {A B:Option Addr} {x y:Nat} {m:Me} {P C K:Option Addr} {p c k:Nat} {i:In} {Q:Option Addr} {q:Nat}
  (hb:SCells3 w b nc nm A B x y m P C K p c k i Q q):SCells3 w' b nc nm A B x y m P C K p c k i Q q :=
 ⟨h.cell hb.f0,h.cell hb.f1,hb.m.bl h,h.cell hb.i0,h.cell hb.i1,h.cell hb.i2,h.cell hb.i3,h.cell hb.i4,h.cell hb.i5⟩
abbrev W3 (w:World) (nc nm:Nat) (A B:Option Addr) (x y:Nat) (m:Me) (P C K:Option Addr) (p c k:Nat) (i:In) (Q:Option Addr) (q:Nat):World :=
 ((w.alloc (fiO nc nm A B x y)).alloc (meO m P C K p c k)).alloc (inO i Q q)
theorem SCells3.new (w:World) (nc nm:Nat) (A B:Option Addr) (x y:Nat) (m:Me) (P C K:Option Addr) (p c k:Nat) (i:In) (Q:Option Addr) (q:Nat) :
  SCells3 (W3 w nc nm A B x y m P C K p c k i Q q) w.heap.size nc nm A B x y m P C K p c k i Q q:=by
 have h1:(w.alloc (fiO nc nm A B x y)).heap.size=w.heap.size+1:=World.size_alloc ..
 have h2:((w.alloc (fiO nc nm A B x y)).alloc (meO m P C K p c k)).heap.size=w.heap.size+1+1:=by rw [World.size_alloc,World.size_alloc]
 have b2:Bl (w.alloc (fiO nc nm A B x y)) (W3 w nc nm A B x y m P C K p c k i Q q):=((Bl.refl _).alloc _).alloc _
 have b3:Bl ((w.alloc (fiO nc nm A B x y)).alloc (meO m P C K p c k)) (W3 w nc nm A B x y m P C K p c k i Q q):=(Bl.refl _).alloc _
 have hm:=(MeCells.new (w.alloc (fiO nc nm A B x y)) m P C K p c k).bl b3
 rw [h1] at hm
 refine ⟨b2.cell (cell_of_new rfl),b2.cell (cell_of_new rfl),hm,?_,?_,?_,?_,?_,?_⟩<;>rw [←h2]<;>exact cell_of_new rfl
structure SCells2 (w:World) (b:Nat) (nc nm:Nat) (A B:Option Addr) (x y:Nat) (m:Me) (P C K:Option Addr) (p c k:Nat):Prop where
 f0:w.cell? ⟨b,0,none⟩=some (.slice A nc x)
 f1:w.cell? ⟨b,1,none⟩=some (.slice B nm y)
 m:MeCells w (b+1) m P C K p c k
theorem SCells2.bl {w w':World} (h:Bl w w') {b nc nm:Nat} {A B:Option Addr} {x y:Nat} {m:Me} {P C K:Option Addr} {p c k:Nat}
  (hb:SCells2 w b nc nm A B x y m P C K p c k):SCells2 w' b nc nm A B x y m P C K p c k:=⟨h.cell hb.f0,h.cell hb.f1,hb.m.bl h⟩
theorem SCells2.new (w:World) (nc nm:Nat) (A B:Option Addr) (x y:Nat) (m:Me) (P C K:Option Addr) (p c k:Nat) :
  SCells2 ((w.alloc (fiO nc nm A B x y)).alloc (meO m P C K p c k)) w.heap.size nc nm A B x y m P C K p c k:=by
 have b2:Bl (w.alloc (fiO nc nm A B x y)) ((w.alloc (fiO nc nm A B x y)).alloc (meO m P C K p c k)):=(Bl.refl _).alloc _
 have hm:=MeCells.new (w.alloc (fiO nc nm A B x y)) m P C K p c k
 rw [World.size_alloc] at hm
 exact ⟨b2.cell (cell_of_new rfl),b2.cell (cell_of_new rfl),hm⟩
theorem max_one (n:Nat):(if (1:Int)<(n:Int) then (n:Int) else 1)=max 1 (n:Int):=by split<;>omega
theorem proom_any (m:Me) (P C K:Option Addr) (p c k:Nat) (w:World) (hP:TysAt w P m.params) (h4:m.params.length≤4) (hk:∀k,k<m.params.length→(nth ty0 m.params k).kind≠0) :
  Calls Tryz.prog 26 #[meV m P C K p c k] w fun e w'=>e=.returned (.bool (proomB m))∧Bl w w':=by
 have hal:Bl w (w.alloc (meO m P C K p c k)):=(Bl.refl _).alloc _
 have XP:Hid (∀x:Fut (w.alloc (meO m P C K p c k)),TysAt x.to P m.params):=fun x=>hP.bl (hal.trans x.is)
 have HK:Hid (∀k,k<m.params.length→(nth ty0 m.params k).kind≠0):=hk
 obtain ⟨x0,x1,x2,x3,x4,x5,x6,x7⟩:=MeCells.new w m P C K p c k
 have y0:=fut_cell x0
 have y3:=fut_cell x3
 have y4:=fut_cell x4
 have y5:=fut_cell x5
 clear x0 x1 x2 x3 x4 x5 x6 x7 hP hk
 have hsl:=slotsN_le m.params
 unfold proomB
 by_cases hr:m.stack=0
 ·have hr':(m.stack==0)=true:=by simpa using hr
  rw [decide_eq_true hr,Bool.true_and]
  clear hr
  by_cases hs:m.locs=0
  ·have ds:(m.locs==0)=true:=by simpa using hs
   rw [decide_eq_true hs,Bool.true_and]
   clear hs
   obtain ⟨N,hN⟩:∃N,slotsN m.params=N:=⟨_,rfl⟩
   rw [hN] at hsl ⊢
   obtain ⟨R,hR⟩:∃R,decide (max 1 (N:Int)≤m.regs∧m.regs≤90)=R:=⟨_,rfl⟩
   rw [hR]
   rw [←max_one N] at hR
   go_enter Tryz.func26,Tryz.ntmps26
   go_wp2
   refine wp_region_fut (by kernel_rfl) (by kernel_rfl) fun hne=>?_
   repeat (go_big_quiet_step (first
    | (go_at_call 54;exact Calls.fut_eq _ (slots_any _ _ _ _ (XP.out _) (by omega) HK.out) (congrArg (fun n:Nat=>Value.int .i64 (n:Int)) hN))
    | (go_at_call 11;exact Calls.fut_same_eq _ (span_any _ _ _ _) (congrArg Value.bool hR))))
   refine wpQuiet_nil ?_
   rintro _ ⟨⟨w2,hw2⟩,rfl⟩
   go_wp2
   all_goals
    go_ret
    exact ⟨rfl,hal.trans hw2⟩
  ·have ds:(m.locs==0)=false:=by simpa using hs
   rw [decide_eq_false hs,Bool.false_and]
   go_enter Tryz.func26,Tryz.ntmps26
   go_wp2
   refine wp_region_fut (by kernel_rfl) (by kernel_rfl) fun hne=>?_
   repeat (go_big_quiet_step (fail))
   refine wpQuiet_nil ?_
   rintro _ ⟨⟨w2,hw2⟩,rfl⟩
   go_wp2
   go_ret
   exact ⟨rfl,hal.trans hw2⟩
 ·have hr':(m.stack==0)=false:=by simpa using hr
  rw [decide_eq_false hr,Bool.false_and]
  go_enter Tryz.func26,Tryz.ntmps26
  go_wp2
  refine wp_region_fut (by kernel_rfl) (by kernel_rfl) fun hne=>?_
  repeat (go_big_quiet_step (fail))
  refine wpQuiet_nil ?_
  rintro _ ⟨⟨w2,hw2⟩,rfl⟩
  go_wp2
  go_ret
  exact ⟨rfl,hal.trans hw2⟩
theorem rmc_far {wr:World} {b:Nat} {m:Me} {P C K:Option Addr} {p c k nc nm:Nat} {A B:Option Addr} {x y:Nat} (H:RmC wr b m P C K p c k nc nm A B x y) (o:Obj):RmC (wr.alloc o) b m P C K p c k nc nm A B x y:=H.bl ((Bl.refl wr).alloc o)
set_option maxRecDepth 100000 in
theorem pcode_any (cs:List Cl) (ms:List Me) (A B:Option Addr) (x y:Nat) (m:Me) (P C K:Option Addr) (p c k:Nat) (w:World) (h1:1≤m.regs) (h2:m.regs≤90) (hA:ClsAt w A cs) (hB:MesAt w B ms) (hC:InsAt w C m.code) :
  Calls Tryz.prog 27 #[rmV m P C K p c k cs.length ms.length A B x y] w fun e w'=>e=.returned (.bool (pcodeB cs ms m))∧Bl w w':=by
 have HA:Hid (ClsAt w A cs):=hA
 have HBB:Hid (MesAt w B ms):=hB
 have HC:Hid (InsAt w C m.code):=hC
 have hcode:=hC.1
 have HNC:Hid (cs.length≤maxLen):=hA.1
 have HCODE:Hid (m.code.length≤maxLen):=hcode
 have HAL:Hid (Bl w (w.alloc (rmO m P C K p c k cs.length ms.length A B x y))):=(Bl.refl _).alloc _
 have HM:=hidp (RmC.new w m P C K p c k cs.length ms.length A B x y)
 clear hA hB hC
 unfold maxLen at hcode
 unfold pcodeB
 by_cases hl:1≤(m.code.length:Int)∧(m.code.length:Int)≤2400
 ·have d1:decide (1≤(m.code.length:Int)∧(m.code.length:Int)≤2400)=true:=decide_eq_true hl
  rw [d1,Bool.true_and]
  have HG:Hid ((∀q,q<m.code.length→pinB cs ms m.code.length m.regs m.ret.kind (nth in0 m.code q)=true)→m.code.all (pinB cs ms m.code.length m.regs m.ret.kind)=true):=all_good
  have HB:Hid (∀q,q<m.code.length→pinB cs ms m.code.length m.regs m.ret.kind (nth in0 m.code q)=false→m.code.all (pinB cs ms m.code.length m.regs m.ret.kind)=false):=fun q=>all_bad
  obtain ⟨R,hR⟩:∃R,m.code.all (pinB cs ms m.code.length m.regs m.ret.kind)=R:=⟨_,rfl⟩
  rw [hR] at HG HB ⊢
  clear hR
  go_enter Tryz.func27,Tryz.ntmps27
  go_wp2_with (go_at_call 11;refine (span_any _ _ _ _).mono ?_;rintro e w0 ⟨he,hw0⟩;rw [d1] at he;subst he;rw [hw0];clear hw0 w0)
  go_loopw [15] (fun i wr=>∃q:Nat,q≤m.code.length∧i=.int .i64 q∧Hid (∀j,j<q→pinB cs ms m.code.length m.regs m.ret.kind (nth in0 m.code j)=true)∧Hid (Bl w wr)∧Hid (RmC wr w.heap.size m P C K p c k cs.length ms.length A B x y)) (fun i _=>m.code.length-(intOf i).toNat)
  case atStart=>exact ⟨0,Nat.zero_le _,rfl,fun j hj=>absurd hj (Nat.not_lt_zero _),HAL.out,HM.out⟩
  case round =>
   clear HM HAL
   obtain ⟨q,hq,rfl,hgq,hg,HM⟩:=hrel
   by_cases hql:q<m.code.length
   ·rcases HC.out.2 with h0|⟨b,off,rfl,hcell⟩
    ·omega
    obtain ⟨c0,c1,c2,c3,c4,hok,Q',q',c5,hq5⟩:=hcell q hql
    replace c0:=hg.out.cell c0
    replace c1:=hg.out.cell c1
    replace c2:=hg.out.cell c2
    replace c3:=hg.out.cell c3
    replace c4:=hg.out.cell c4
    replace c5:=hg.out.cell c5
    have HN:Hid (pinB cs ms m.code.length m.regs m.ret.kind (nth in0 m.code q)=false→R=false):=HB.out q hql
    generalize hX:nth in0 m.code q=X at *
    have HX:Hid (nth in0 m.code q=X):=hX
    have HOK:=hidp hok
    have HQ5:Hid (IntsAt w Q' X.args):=hq5
    clear hcell HB hX hq5 hok
    have HAW:Hid (Bl wr (wr.alloc (riO X Q' q'))):=(Bl.refl wr).alloc _
    have HMW:=hidp (rmc_far HM.out (riO X Q' q'))
    have HIW:=hidp (RiC.new wr X Q' q')
    obtain ⟨m0,m1,m2,m3,m4,m5,m6,m7,m8,m9⟩:=HMW.out
    have hdef:pinB cs ms m.code.length m.regs m.ret.kind X=(decide (1≤X.op∧X.op≤24)&&(pregB cs ms m.regs m.ret.kind X&&(pnumB cs.length m.code.length X&&prestB X))):=rfl
    obtain ⟨T0,hT0⟩:∃T0,decide (1≤X.op∧X.op≤24)=T0:=⟨_,rfl⟩
    obtain ⟨T1,hT1⟩:∃T1,pregB cs ms m.regs m.ret.kind X=T1:=⟨_,rfl⟩
    obtain ⟨T2,hT2⟩:∃T2,pnumB cs.length m.code.length X=T2:=⟨_,rfl⟩
    obtain ⟨T3,hT3⟩:∃T3,prestB X=T3:=⟨_,rfl⟩
    have HDEF:Hid (pinB cs ms m.code.length m.regs m.ret.kind X=(T0&&(T1&&(T2&&T3)))):=by rw [←hT0,←hT1,←hT2,←hT3];exact hdef
    clear hdef HG
    cases T0
    ·have HF:=HN.out (by rw [HDEF.out];rfl)
     clear HN
     go_wp2_with (first
      | (go_at_call 11;refine (span_any _ _ _ _).mono ?_;rintro e w0 ⟨he,hw0⟩;rw [hT0] at he;subst he;rw [hw0];clear hw0 w0))
     go_ret
     exact ⟨ret_bool HF.symm,hg.out.trans HAW.out⟩
    cases T1
    ·have HF:=HN.out (by rw [HDEF.out];rfl)
     clear HN
     go_wp2_with (first
      | (go_at_call 11;refine (span_any _ _ _ _).mono ?_;rintro e w0 ⟨he,hw0⟩;rw [hT0] at he;subst he;rw [hw0];clear hw0 w0)
      | (go_at_call 55;refine (preg_any X cs ms _ _ _ _ m _ _ _ _ _ _ _ _ _ h1 h2 HOK.out (HA.out.bl (hg.out.trans HAW.out)) (HBB.out.bl (hg.out.trans HAW.out)) (HQ5.out.bl (hg.out.trans HAW.out))).mono ?_;rintro e w1 ⟨he,g1⟩;rw [hT1] at he;subst he))
     go_ret
     exact ⟨ret_bool HF.symm,(hg.out.trans HAW.out).trans g1⟩
    cases T2
    ·have HF:=HN.out (by rw [HDEF.out];rfl)
     clear HN
     go_wp2_with (first
      | (go_at_call 11;refine (span_any _ _ _ _).mono ?_;rintro e w0 ⟨he,hw0⟩;rw [hT0] at he;subst he;rw [hw0];clear hw0 w0)
      | (go_at_call 55;refine (preg_any X cs ms _ _ _ _ m _ _ _ _ _ _ _ _ _ h1 h2 HOK.out (HA.out.bl (hg.out.trans HAW.out)) (HBB.out.bl (hg.out.trans HAW.out)) (HQ5.out.bl (hg.out.trans HAW.out))).mono ?_;rintro e w1 ⟨he,g1⟩;rw [hT1] at he;subst he;obtain ⟨a0,a1,a2,a3,a4,a5,a6,a7,a8,a9⟩:=HMW.out.bl g1;obtain ⟨i0,i1,i2,i3,i4,i5⟩:=HIW.out.bl g1)
      | (go_at_call 56;refine (pnum_any X _ _ _ _ _ _ m _ _ _ _ _ _ _ _ _ HNC.out HCODE.out).mono ?_;rintro e w2 ⟨he,g2⟩;rw [hT2] at he;subst he))
     go_ret
     exact ⟨ret_bool HF.symm,((hg.out.trans HAW.out).trans g1).trans g2⟩
    cases T3
    ·have HF:=HN.out (by rw [HDEF.out];rfl)
     clear HN
     go_wp2_with (first
      | (go_at_call 11;refine (span_any _ _ _ _).mono ?_;rintro e w0 ⟨he,hw0⟩;rw [hT0] at he;subst he;rw [hw0];clear hw0 w0)
      | (go_at_call 55;refine (preg_any X cs ms _ _ _ _ m _ _ _ _ _ _ _ _ _ h1 h2 HOK.out (HA.out.bl (hg.out.trans HAW.out)) (HBB.out.bl (hg.out.trans HAW.out)) (HQ5.out.bl (hg.out.trans HAW.out))).mono ?_;rintro e w1 ⟨he,g1⟩;rw [hT1] at he;subst he;obtain ⟨a0,a1,a2,a3,a4,a5,a6,a7,a8,a9⟩:=HMW.out.bl g1;obtain ⟨i0,i1,i2,i3,i4,i5⟩:=HIW.out.bl g1)
      | (go_at_call 56;refine (pnum_any X _ _ _ _ _ _ m _ _ _ _ _ _ _ _ _ HNC.out HCODE.out).mono ?_;rintro e w2 ⟨he,g2⟩;rw [hT2] at he;subst he;obtain ⟨j0,j1,j2,j3,j4,j5⟩:=HIW.out.bl (g1.trans g2))
      | (go_at_call 57;refine (prest_any X _ _ _ HQ5.out.1).mono ?_;rintro e w3 ⟨he,g3⟩;rw [hT3] at he;subst he))
     go_ret
     exact ⟨ret_bool HF.symm,(((hg.out.trans HAW.out).trans g1).trans g2).trans g3⟩
    ·have HT:Hid (pinB cs ms m.code.length m.regs m.ret.kind X=true):=by rw [HDEF.out];rfl
     clear HN
     go_wp2_with (first
      | (go_at_call 11;refine (span_any _ _ _ _).mono ?_;rintro e w0 ⟨he,hw0⟩;rw [hT0] at he;subst he;rw [hw0];clear hw0 w0)
      | (go_at_call 55;refine (preg_any X cs ms _ _ _ _ m _ _ _ _ _ _ _ _ _ h1 h2 HOK.out (HA.out.bl (hg.out.trans HAW.out)) (HBB.out.bl (hg.out.trans HAW.out)) (HQ5.out.bl (hg.out.trans HAW.out))).mono ?_;rintro e w1 ⟨he,g1⟩;rw [hT1] at he;subst he;obtain ⟨a0,a1,a2,a3,a4,a5,a6,a7,a8,a9⟩:=HMW.out.bl g1;obtain ⟨i0,i1,i2,i3,i4,i5⟩:=HIW.out.bl g1)
      | (go_at_call 56;refine (pnum_any X _ _ _ _ _ _ m _ _ _ _ _ _ _ _ _ HNC.out HCODE.out).mono ?_;rintro e w2 ⟨he,g2⟩;rw [hT2] at he;subst he;obtain ⟨j0,j1,j2,j3,j4,j5⟩:=HIW.out.bl (g1.trans g2))
      | (go_at_call 57;refine (prest_any X _ _ _ HQ5.out.1).mono ?_;rintro e w3 ⟨he,g3⟩;rw [hT3] at he;subst he))
     go_roundw
     case rel=>exact ⟨q+1,by omega,by go_num,fun j hj=>if h:j<q then hgq.out j h else by have:j=q:=(by omega);subst this;rw [HX.out];exact HT.out,(((hg.out.trans HAW.out).trans g1).trans g2).trans g3,HMW.out.bl ((g1.trans g2).trans g3)⟩
     case measure=>simp [intOf];omega
   ·have hkk:q=m.code.length:=by omega
    subst hkk
    have HF:=HG.out hgq.out
    clear HG
    go_wp2
    go_ret
    exact ⟨ret_bool HF.symm,hg.out⟩
 ·have d1:decide (1≤(m.code.length:Int)∧(m.code.length:Int)≤2400)=false:=decide_eq_false hl
  rw [d1,Bool.false_and]
  go_enter Tryz.func27,Tryz.ntmps27
  go_wp2_with (go_at_call 11;refine (span_any _ _ _ _).mono ?_;rintro e w0 ⟨he,hw0⟩;rw [d1] at he;subst he;rw [hw0];clear hw0 w0)
  go_ret
  exact ⟨rfl,HAL.out⟩
set_option maxRecDepth 100000 in
theorem pme_any (cs:List Cl) (ms:List Me) (A B:Option Addr) (x y:Nat) (m:Me) (P C K:Option Addr) (p c k:Nat) (w:World) (hA:ClsAt w A cs) (hB:MesAt w B ms) (hm:MeAt w m P C K) :
  Calls Tryz.prog 12 #[rmV m P C K p c k cs.length ms.length A B x y] w fun e w'=>e=.returned (.bool (pmeB cs ms m))∧Bl w w':=by
 have HA:Hid (ClsAt w A cs):=hA
 have HBB:Hid (MesAt w B ms):=hB
 have HME:Hid (MeAt w m P C K):=hm
 have HAL:Hid (Bl w (w.alloc (rmO m P C K p c k cs.length ms.length A B x y))):=(Bl.refl _).alloc _
 have HM:=hidp (RmC.new w m P C K p c k cs.length ms.length A B x y)
 have hnc:=hA.1
 unfold maxLen at hnc
 clear hA hB hm
 unfold pmeB
 cases hh:mhB cs.length m
 ·rw [Bool.false_and]
  go_enter Tryz.func12,Tryz.ntmps12
  go_wp2_with (go_at_call 25;refine (mayHead_any m _ _ _ _ _ _ _ _ (HME.out.bl HAL.out)).mono ?_;rintro e w1 ⟨he,g1⟩;rw [hh] at he;subst he)
  go_ret
  exact ⟨rfl,HAL.out.trans g1⟩
 ·rw [Bool.true_and]
  have h4:m.params.length≤4:=by
   have:=hh;unfold mhB at this;rw [Bool.and_eq_true,decide_eq_true_eq] at this;exact this.1
  have HKT:Hid (∀k,k<m.params.length→(nth ty0 m.params k).kind≠0):=fun k hk=>by have:=mh_prm hh k hk;omega
  cases hr:proomB m
  ·rw [Bool.false_and]
   go_enter Tryz.func12,Tryz.ntmps12
   go_wp2_with (first
    | (go_at_call 25;refine (mayHead_any m _ _ _ _ _ _ _ _ (HME.out.bl HAL.out)).mono ?_;rintro e w1 ⟨he,g1⟩;rw [hh] at he;subst he;obtain ⟨a0,a1,a2,a3,a4,a5,a6,a7,a8,a9⟩:=HM.out.bl g1)
    | (go_at_call 26;refine (proom_any m _ _ _ _ _ _ _ (HME.out.1.bl (HAL.out.trans g1)) h4 HKT.out).mono ?_;rintro e w2 ⟨he,g2⟩;rw [hr] at he;subst he))
   go_ret
   exact ⟨rfl,(HAL.out.trans g1).trans g2⟩
  ·rw [Bool.true_and]
   have hrr:1≤m.regs∧m.regs≤90:=by
    have:=hr;unfold proomB at this;rw [Bool.and_eq_true,Bool.and_eq_true,decide_eq_true_eq,decide_eq_true_eq,decide_eq_true_eq] at this;omega
   obtain ⟨h1,h2⟩:=hrr
   obtain ⟨R,hR⟩:∃R,pcodeB cs ms m=R:=⟨_,rfl⟩
   rw [hR]
   go_enter Tryz.func12,Tryz.ntmps12
   go_wp2_with (first
    | (go_at_call 25;refine (mayHead_any m _ _ _ _ _ _ _ _ (HME.out.bl HAL.out)).mono ?_;rintro e w1 ⟨he,g1⟩;rw [hh] at he;subst he;obtain ⟨a0,a1,a2,a3,a4,a5,a6,a7,a8,a9⟩:=HM.out.bl g1)
    | (go_at_call 26;refine (proom_any m _ _ _ _ _ _ _ (HME.out.1.bl (HAL.out.trans g1)) h4 HKT.out).mono ?_;rintro e w2 ⟨he,g2⟩;rw [hr] at he;subst he;obtain ⟨b0,b1,b2,b3,b4,b5,b6,b7,b8,b9⟩:=HM.out.bl (g1.trans g2))
    | (go_at_call 27;refine (pcode_any cs ms _ _ _ _ m _ _ _ _ _ _ _ h1 h2 (HA.out.bl ((HAL.out.trans g1).trans g2)) (HBB.out.bl ((HAL.out.trans g1).trans g2)) (HME.out.2.1.bl ((HAL.out.trans g1).trans g2))).mono ?_;rintro e w3 ⟨he,g3⟩;rw [hR] at he;subst he))
   go_ret
   exact ⟨rfl,((HAL.out.trans g1).trans g2).trans g3⟩
end Go.Proofs.YtimjmdfokicbkabGreat
