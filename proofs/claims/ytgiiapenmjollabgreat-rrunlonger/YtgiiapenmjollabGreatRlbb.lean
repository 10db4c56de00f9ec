import Derived.Test.YtgiiapenmjollabGreatRlba
namespace Go.Proofs.YtgiiapenmjollabGreat
set_option linter.all false
set_option maxHeartbeats 40000000
set_option maxRecDepth 100000
open Go.RowKit
section
open Go.Maps (Keyed has)
abbrev heapZ (A:Option Addr) (n a mp:Nat):Obj:=.cells #[.slice A n a,.slice none 0 0,.map (some mp)] 217
theorem newHeap_any (A:Option Addr) (n a:Nat) (w:World) :
  Calls Tryz.prog 70 #[.slice A n a] w fun e w'=>e=.returned (.pointer (some ⟨w.heap.size+1,0,none⟩))∧w'=(w.alloc (.map #[] 0)).alloc (heapZ A n a w.heap.size):=by
 have hmm:∀(t:TypeId) (w:World),(Instr.makeMap t none).run Tryz.prog w=.ok (.map (some w.heap.size)) (w.alloc (.map #[] 0)):=fun _ _=>rfl
 go_enter Tryz.func70,Tryz.ntmps70
 go_wp2
 go_ret
 exact ⟨rfl,rfl⟩
def heapS (f:Fi) (input:List Int) (fuel:Int):Hp:=⟨f,[],input,0,fuel,⟨0,0,0,[],0,0⟩,false,-1⟩
theorem start_rr (f:Fi) (input:List Int) (fuel:Int) (w0 w:World) (g:Mg) (hb:Bl w0 w) (h1:w0.heap.size≤g.r) (h2:w0.heap.size≤g.hb) (h3:w0.heap.size≤g.mp)
  (hr:w.heap[g.r]?=some (.cells (runRow g (heapS f input fuel) (.slice none 0 0) (.slice none 0 0)) 112 (0,0))) (hh:w.heap[g.hb]?=some (.cells (heapRow g (heapS f input fuel) (.slice none 0 0)) 217 (0,0)))
  (hm:w.ownsMap Tryz.prog 303 mvElem g.mp 0 (.map [])):RR 0 noY w w0 g w (heapS f input fuel) []:=by
 refine ⟨.slice none 0 0,.slice none 0 0,.slice none 0 0,⟨h1,h2,h3,hb,hr,hh,⟨rfl,Or.inl ⟨rfl,rfl⟩⟩,⟨rfl,Or.inl ⟨rfl,rfl⟩⟩,⟨rfl,Or.inl ⟨rfl,rfl⟩⟩,0,.map [],hm,(by show (0:Int)+0≤0;decide),?_,?_,?_,?_,?_⟩,trivial,fun b hb=>absurd hb (fun x=>x),fun b hb=>absurd hb (fun x=>x),Nat.le_refl _,fun b hb=>absurd hb (fun x=>x)⟩
 ·intro o c k v ho;exact absurd ho (Nat.not_lt_zero _)
 ·intro o c k v ho;exact absurd ho (Nat.not_lt_zero _)
 ·intro o c k _ _ _ _;rfl
 ·intro o ho;exact absurd ho (Nat.not_lt_zero _)
 ·intro o ho;exact absurd ho (Nat.not_lt_zero _)
end
def refE (B:Bool) (ms:List Me) (entry fuel:Int) (na ni:Nat):Int :=
 if B=false then 2
 else if ¬(0≤entry∧entry<(ms.length:Int))∨¬(0≤fuel∧fuel≤60000) then 4
 else if 1000<ni then 1
 else if (!(anyR (nth me0 ms entry.toNat).params)&&decide (na=(nth me0 ms entry.toNat).params.length))=true then 0 else 3
abbrev formV:Value:=.agg #[.func (.func 30) #[] #[],.func (.func 31) #[] #[]]
abbrev filV (nc nm:Nat) (A B:Option Addr) (a b:Nat):Value:=.agg #[.slice A nc a,.slice B nm b]
abbrev formO:Obj:=.cells #[.func (.func 30) #[] #[],.func (.func 31) #[] #[]] 61
abbrev filO (nc nm:Nat) (A B:Option Addr) (a b:Nat):Obj:=.cells #[.slice A nc a,.slice B nm b] 25
theorem refuses_any (T:Bool) (nc:Nat) (ms:List Me) (A B R I:Option Addr) (a b rc ic na ni:Nat) (entry fuel:Int) (w:World) (hB:MesAt w B ms) (hn:na≤maxLen) (hi:ni≤maxLen)
  (hM:∀w',Bl w w'→Calls Tryz.prog 30 #[filV nc ms.length A B a b] w' fun e w2=>e=.returned (.bool T)∧Bl w' w2) :
  Calls Tryz.prog 69 #[formV,filV nc ms.length A B a b,.int .i64 entry,.slice R na rc,.slice I ni ic,.int .i64 fuel] w fun e w'=>e=.returned (.int .i64 (refE T ms entry fuel na ni))∧Bl w w':=by
 have HB:=hid hB
 have hmm:=hB.1
 unfold maxLen at hmm hi
 have HN:=hid hn
 have HM:=hid hM
 have HAL:Hid (Bl w ((w.alloc formO).alloc (filO nc ms.length A B a b))):=((Bl.refl w).alloc _).alloc _
 obtain ⟨L0,L1⟩:=two_lie w #[.func (.func 30) #[] #[],.func (.func 31) #[] #[]] #[.slice A nc a,.slice B ms.length b] 61 25
 have HL1:=hid L1
 clear hB hn hM L0 L1
 unfold refE
 cases T with
 | false =>
  rw [if_pos rfl]
  go_enter Tryz.func69,Tryz.ntmps69
  go_wp2_with (go_at_call 30;refine (HM.out _ HAL.out).mono ?_;rintro e w1 ⟨rfl,b1⟩;replace b1:=hid b1)
  go_ret
  exact ⟨rfl,HAL.out.trans b1.out⟩
 | true =>
  rw [if_neg (by decide)]
  have hCALL:True:=trivial
  by_cases he:0≤entry∧entry<(ms.length:Int)
  ·have d1:decide (0≤entry∧entry<(ms.length:Int))=true:=decide_eq_true he
   by_cases hf:0≤fuel∧fuel≤60000
   ·have d2:decide (0≤fuel∧fuel≤60000)=true:=decide_eq_true hf
    rw [if_neg (by simp [he,hf])]
    by_cases hs:1000<ni
    ·rw [if_pos hs]
     have hs':(1000:Int)<(ni:Int):=by omega
     go_enter Tryz.func69,Tryz.ntmps69
     go_wp2_with (first
      | (go_at_call 30;refine (HM.out _ HAL.out).mono ?_;rintro e w1 ⟨rfl,b1⟩;have q1:=bl_blk b1 HL1.out;have y1:w1.cell? ⟨w.heap.size+1,1,none⟩=some (.slice B ms.length b):=(cell_blk q1).trans rfl;replace b1:=hid b1;replace q1:=hid q1)
      | (go_at_call 144;refine (numbers_any _ _ _).mono ?_;rintro e w5 ⟨he,hw5⟩;rw [d1] at he;subst he;rw [hw5];clear hw5 w5)
      | (go_at_call 63;refine (span_any _ _ _ _).mono ?_;rintro e w5 ⟨he,hw5⟩;rw [d2] at he;subst he;rw [hw5];clear hw5 w5))
     go_ret
     exact ⟨rfl,HAL.out.trans b1.out⟩
    ·rw [if_neg hs]
     have hs':¬(1000:Int)<(ni:Int):=by omega
     obtain ⟨e0,hee⟩:∃e0:Nat,entry=e0:=⟨entry.toNat,by omega⟩
     subst hee
     rcases HB.out.2 with z0|⟨mb,mo,rfl,hcell⟩
     ·omega
     obtain ⟨P,C,J,p,c,k,m0,-,-,-,-,-,-,-,hme⟩:=hcell e0 (by omega)
     rw [Int.toNat_natCast]
     obtain ⟨U,hU⟩:∃U,(!(anyR (nth me0 ms e0).params)&&decide (na=(nth me0 ms e0).params.length))=U:=⟨_,rfl⟩
     have HU:=hid hU
     have HP:=hid hme.1
     rw [hU]
     generalize (nth me0 ms e0).params=PL at *
     clear hcell hme hU
     cases U
     all_goals
      go_enter Tryz.func69,Tryz.ntmps69
      go_wp2_with (first
       | (go_at_call 30;refine (HM.out _ HAL.out).mono ?_;rintro e w1 ⟨rfl,b1⟩;have q1:=bl_blk b1 HL1.out;have y1:w1.cell? ⟨w.heap.size+1,1,none⟩=some (.slice (some ⟨mb,mo,none⟩) ms.length b):=(cell_blk q1).trans rfl;have m1:=(HAL.out.trans b1).cell m0;replace b1:=hid b1;replace q1:=hid q1)
       | (go_at_call 144;refine (numbers_any _ _ _).mono ?_;rintro e w5 ⟨he,hw5⟩;rw [d1] at he;subst he;rw [hw5];clear hw5 w5)
       | (go_at_call 63;refine (span_any _ _ _ _).mono ?_;rintro e w5 ⟨he,hw5⟩;rw [d2] at he;subst he;rw [hw5];clear hw5 w5)
       | (go_at_call 145;refine (takes_any _ _ _ _ _ PL _ (HP.out.bl (HAL.out.trans b1.out)) HN.out).mono ?_;rintro e w6 ⟨he,b6⟩;rw [HU.out] at he;subst he;replace b6:=hid b6))
      go_ret
      exact ⟨rfl,(HAL.out.trans b1.out).trans b6.out⟩
   ·have d2:decide (0≤fuel∧fuel≤60000)=false:=decide_eq_false hf
    rw [if_pos (Or.inr hf)]
    go_enter Tryz.func69,Tryz.ntmps69
    go_wp2_with (first
     | (go_at_call 30;refine (HM.out _ HAL.out).mono ?_;rintro e w1 ⟨rfl,b1⟩;have q1:=bl_blk b1 HL1.out;have y1:w1.cell? ⟨w.heap.size+1,1,none⟩=some (.slice B ms.length b):=(cell_blk q1).trans rfl;replace b1:=hid b1;replace q1:=hid q1)
     | (go_at_call 144;refine (numbers_any _ _ _).mono ?_;rintro e w5 ⟨he,hw5⟩;rw [d1] at he;subst he;rw [hw5];clear hw5 w5)
     | (go_at_call 63;refine (span_any _ _ _ _).mono ?_;rintro e w5 ⟨he,hw5⟩;rw [d2] at he;subst he;rw [hw5];clear hw5 w5))
    go_ret
    exact ⟨rfl,HAL.out.trans b1.out⟩
  ·have d1:decide (0≤entry∧entry<(ms.length:Int))=false:=decide_eq_false he
   rw [if_pos (Or.inl he)]
   go_enter Tryz.func69,Tryz.ntmps69
   go_wp2_with (first
    | (go_at_call 30;refine (HM.out _ HAL.out).mono ?_;rintro e w1 ⟨rfl,b1⟩;have q1:=bl_blk b1 HL1.out;have y1:w1.cell? ⟨w.heap.size+1,1,none⟩=some (.slice B ms.length b):=(cell_blk q1).trans rfl;replace b1:=hid b1;replace q1:=hid q1)
    | (go_at_call 144;refine (numbers_any _ _ _).mono ?_;rintro e w5 ⟨he,hw5⟩;rw [d1] at he;subst he;rw [hw5];clear hw5 w5))
   go_ret
   exact ⟨rfl,HAL.out.trans b1.out⟩
abbrev stO (how k n:Int):Obj:=.cells #[.int .i64 how,.int .i64 k,.int .i64 n] 126
abbrev shMZ:Obj:=.cells #[.int .i64 0,.int .i64 0,.int .i64 0,.slice none 0 0,.int .i64 0,.int .i64 0] 28
theorem set_six6 {w:World} {b:Nat} {u0 u1 u2 u3 u4 u5:Value} {t:TypeId} (h:w.heap[b]?=some (.cells #[u0,u1,u2,u3,u4,u5] t (0,0))) (v0 v1 v2 v3 v4 v5:Value):((((((w.setCell ⟨b,0,none⟩ v0).setCell ⟨b,1,none⟩ v1).setCell ⟨b,2,none⟩ v2).setCell ⟨b,3,none⟩ v3).setCell ⟨b,4,none⟩ v4).setCell ⟨b,5,none⟩ v5).heap[b]?=some (.cells #[v0,v1,v2,v3,v4,v5] t (0,0)):=by
 rw [block_set (block_set (block_set (block_set (block_set (block_set h _) _) _) _) _) _];rfl
theorem bl_six6 {w v:World} (h:Bl w v) {b:Nat} (hb:w.heap.size≤b) (y0 y1 y2 y3 y4 y5:Value):Bl w ((((((v.setCell ⟨b,0,none⟩ y0).setCell ⟨b,1,none⟩ y1).setCell ⟨b,2,none⟩ y2).setCell ⟨b,3,none⟩ y3).setCell ⟨b,4,none⟩ y4).setCell ⟨b,5,none⟩ y5) :=
 (((((h.setCell (p:=⟨b,0,none⟩) hb _).setCell (p:=⟨b,1,none⟩) hb _).setCell (p:=⟨b,2,none⟩) hb _).setCell (p:=⟨b,3,none⟩) hb _).setCell (p:=⟨b,4,none⟩) hb _).setCell (p:=⟨b,5,none⟩) hb _
theorem info_shm:(Tryz.prog.info? 28).map (·.size)=some 6:=by kernel_rfl
theorem shown_num (how k n:Int) (g:Mg) (h:Hp) (Ax:Option Addr) (nx cx:Nat) (w:World) (r0:w.cell? ⟨g.r,0,none⟩=some (.pointer (some ⟨g.hb,0,none⟩))) (r6:w.cell? ⟨g.r,6,none⟩=some (.int .i64 h.sh.steps)) (r7:w.cell? ⟨g.r,7,none⟩=some (.int .i64 h.sh.used)) (r8:w.cell? ⟨g.r,8,none⟩=some (.slice Ax nx cx)) (hh:how≠2) (hk:k≠3) :
  Calls Tryz.prog 73 #[.pointer (some ⟨g.r,0,none⟩),.agg #[.int .i64 how,.int .i64 k,.int .i64 n]] w fun e w'=>e=.returned (.agg #[.int .i64 how,.int .i64 n,.int .i64 0,.slice Ax nx cx,.int .i64 h.sh.used,.int .i64 h.sh.steps])∧Bl w w':=by
 have HAL:Hid (Bl w ((w.alloc (stO how k n)).alloc shMZ)):=((Bl.refl w).alloc _).alloc _
 have HT:Hid (∀w',Bl ((w.alloc (stO how k n)).alloc shMZ) w'→(fun w'=>Hid (Bl ((w.alloc (stO how k n)).alloc shMZ) w')∧w'.cell? ⟨w.heap.size,0,none⟩=some (.int .i64 how)∧w'.cell? ⟨w.heap.size,1,none⟩=some (.int .i64 k)∧w'.cell? ⟨w.heap.size,2,none⟩=some (.int .i64 n)∧w'.cell? ⟨g.r,0,none⟩=some (.pointer (some ⟨g.hb,0,none⟩))∧w'.cell? ⟨g.r,6,none⟩=some (.int .i64 h.sh.steps)∧w'.cell? ⟨g.r,7,none⟩=some (.int .i64 h.sh.used)∧w'.cell? ⟨g.r,8,none⟩=some (.slice Ax nx cx)) w'):=fun w' hb=>by
  have hb2:=HAL.out.trans hb
  have hb3:Bl (w.alloc (stO how k n)) w':=((Bl.refl _).alloc _).trans hb
  exact ⟨hb,hb3.cell (cell_of_new rfl),hb3.cell (cell_of_new rfl),hb3.cell (cell_of_new rfl),hb2.cell r0,hb2.cell r6,hb2.cell r7,hb2.cell r8⟩
 have hh':(how==2)=false:=by simpa using hh
 have hk':(k !=3)=true:=by simpa using hk
 clear r0 r6 r7 r8 hh hk
 go_enter Tryz.func73,Tryz.ntmps73
 go_wp2
 refine wp_region_held_drew (S:=fun w'=>Hid (Bl ((w.alloc (stO how k n)).alloc shMZ) w')∧w'.cell? ⟨w.heap.size,0,none⟩=some (.int .i64 how)∧w'.cell? ⟨w.heap.size,1,none⟩=some (.int .i64 k)∧w'.cell? ⟨w.heap.size,2,none⟩=some (.int .i64 n)∧w'.cell? ⟨g.r,0,none⟩=some (.pointer (some ⟨g.hb,0,none⟩))∧w'.cell? ⟨g.r,6,none⟩=some (.int .i64 h.sh.steps)∧w'.cell? ⟨g.r,7,none⟩=some (.int .i64 h.sh.used)∧w'.cell? ⟨g.r,8,none⟩=some (.slice Ax nx cx)) (by kernel_rfl) ?_ (fun hHeld0=>?_)
 ·exact HT.out _ (Bl.refl _).drew
 refine tk (i:=0) (d:=some 6) rfl rfl (by kernel_rfl) (fun _ _ _ h=>h) (by rfl) (by intro _ h;(try dsimp only at h);go_split_ands;go_simp<;>with_reducible rfl) hHeld0 ?_
 try simp only [aS,aN,aT,a0,a1]
 refine tk (i:=1) (d:=some 7) rfl rfl (by kernel_rfl) (fun _ _ _ h=>h) (by rfl) (by intro _ h;(try dsimp only at h);go_split_ands;go_simp<;>with_reducible rfl) hHeld0 ?_
 try simp only [aS,aN,aT,a0,a1]
 refine tk (i:=2) (d:=some 8) rfl rfl (by kernel_rfl) (fun _ _ _ h=>h) (by rfl) (by intro _ h;(try dsimp only at h);go_split_ands;go_simp<;>with_reducible rfl) hHeld0 ?_
 try simp only [aS,aN,aT,a0,a1]
 refine tk (i:=3) (d:=some 9) rfl rfl (by kernel_rfl) (fun _ _ _ h=>h) (by rfl) (by intro _ h;(try dsimp only at h);go_split_ands;go_simp<;>with_reducible rfl) hHeld0 ?_
 try simp only [aS,aN,aT,a0,a1]
 refine tk (i:=4) (d:=some 10) rfl rfl (by kernel_rfl) (fun _ _ _ h=>h) (by rfl) (by intro _ h;(try dsimp only at h);go_split_ands;go_simp<;>with_reducible rfl) hHeld0 ?_
 try simp only [aS,aN,aT,a0,a1]
 refine tk (i:=5) (d:=some 11) rfl rfl (by kernel_rfl) (fun _ _ _ h=>h) (by rfl) (by intro _ h;(try dsimp only at h);go_split_ands;go_simp<;>with_reducible rfl) hHeld0 ?_
 try simp only [aS,aN,aT,a0,a1]
 refine tk (i:=6) (d:=some 12) rfl rfl (by kernel_rfl) (fun _ _ _ h=>h) (by rfl) (by intro _ h;(try dsimp only at h);go_split_ands;go_simp<;>with_reducible rfl) hHeld0 ?_
 try simp only [aS,aN,aT,a0,a1]
 refine tk (i:=7) (d:=some 13) rfl rfl (by kernel_rfl) (fun _ _ _ h=>h) (by rfl) (by intro _ h;(try dsimp only at h);go_split_ands;go_simp<;>with_reducible rfl) hHeld0 ?_
 try simp only [aS,aN,aT,a0,a1]
 refine tk (i:=8) (d:=some 14) rfl rfl (by kernel_rfl) (fun _ _ _ h=>h) (by rfl) (by intro _ h;(try dsimp only at h);go_split_ands;go_simp<;>with_reducible rfl) hHeld0 ?_
 try simp only [aS,aN,aT,a0,a1]
 refine tk (i:=9) (d:=some 15) rfl rfl (by kernel_rfl) (fun _ _ _ h=>h) (by rfl) (by intro _ h;(try dsimp only at h);go_split_ands;go_simp<;>with_reducible rfl) hHeld0 ?_
 try simp only [aS,aN,aT,a0,a1]
 refine tk (i:=10) (d:=some 16) rfl rfl (by kernel_rfl) (fun _ _ _ h=>h) (by rfl) (by intro _ h;(try dsimp only at h);go_split_ands;go_simp<;>with_reducible rfl) hHeld0 ?_
 try simp only [aS,aN,aT,a0,a1]
 refine tk (i:=11) (d:=some 17) rfl rfl (by kernel_rfl) (fun _ _ _ h=>h) (by rfl) (by intro _ h;(try dsimp only at h);go_split_ands;go_simp<;>with_reducible rfl) hHeld0 ?_
 try simp only [aS,aN,aT,a0,a1]
 refine tk (i:=12) (d:=some 18) rfl rfl (by kernel_rfl) (fun _ _ _ h=>h) (by rfl) (by intro _ h;(try dsimp only at h);go_split_ands;go_simp<;>with_reducible rfl) hHeld0 ?_
 try simp only [aS,aN,aT,a0,a1]
 refine tk (i:=13) (d:=some 19) rfl rfl (by kernel_rfl) (fun _ _ _ h=>h) (by rfl) (by intro _ h;(try dsimp only at h);go_split_ands;go_simp<;>with_reducible rfl) hHeld0 ?_
 try simp only [aS,aN,aT,a0,a1]
 refine tk (i:=14) (d:=some 20) rfl rfl (by kernel_rfl) (fun _ _ _ h=>h) (by rfl) (by intro _ h;(try dsimp only at h);go_split_ands;go_simp<;>with_reducible rfl) hHeld0 ?_
 try simp only [aS,aN,aT,a0,a1]
 refine rd1 (i:=15) (by kernel_rfl) rfl fun K hK=>?_
 go_simp
 refine hK.out _ _ (HT.out _ (hHeld0.1.out.alloc _)) (fun hHeld1=>?_)
 try simp only [aS,aN,aT,a0,a1]
 refine rd1 (i:=16) (by kernel_rfl) rfl fun K hK=>?_
 go_simp
 refine hK.out _ _ (HT.out _ ((Bl.refl _).alloc _).drew) (fun hHeld2=>?_)
 try simp only [aS,aN,aT,a0,a1]
 refine wpAnyH_done (by kernel_rfl) ?_ _
 obtain ⟨V,hV⟩:∃V,V=(((w.alloc (stO how k n)).alloc shMZ).alloc (.cells #[.int .i64 how,.int .i64 0,.int .i64 0,.slice Ax nx cx,.int .i64 h.sh.used,.int .i64 h.sh.steps] 28)).drew:=⟨_,rfl⟩
 have hbV:Bl w V:=by rw [hV];exact (HAL.out.alloc _).drew
 obtain ⟨L0,L1⟩:=two_lie (w.alloc (stO how k n)) #[.int .i64 0,.int .i64 0,.int .i64 0,.slice none 0 0,.int .i64 0,.int .i64 0] #[.int .i64 how,.int .i64 0,.int .i64 0,.slice Ax nx cx,.int .i64 h.sh.used,.int .i64 h.sh.steps] 28 28
 rw [World.size_alloc] at L0 L1
 have qz:V.heap[w.heap.size+1]?=some (.cells #[.int .i64 0,.int .i64 0,.int .i64 0,.slice none 0 0,.int .i64 0,.int .i64 0] 28 (0,0)):=by rw [hV];exact L0
 have qv:V.heap[w.heap.size+1+1]?=some (.cells #[.int .i64 how,.int .i64 0,.int .i64 0,.slice Ax nx cx,.int .i64 h.sh.used,.int .i64 h.sh.steps] 28 (0,0)):=by rw [hV];exact L1
 have qs:V.heap[w.heap.size]?=some (.cells #[.int .i64 how,.int .i64 k,.int .i64 n] 126 (0,0)):=by rw [hV];exact bl_blk ((((Bl.refl _).alloc _).alloc _).drew) (blk_new w _ _)
 rw [←hV]
 clear hV L0 L1 hHeld2 hHeld0 hHeld1
 have s0:V.cell? ⟨w.heap.size,0,none⟩=some (.int .i64 how):=(cell_blk qs).trans rfl
 have s1:V.cell? ⟨w.heap.size,1,none⟩=some (.int .i64 k):=(cell_blk qs).trans rfl
 have s2:V.cell? ⟨w.heap.size,2,none⟩=some (.int .i64 n):=(cell_blk qs).trans rfl
 have y0:V.cell? ⟨w.heap.size+1+1,0,none⟩=some (.int .i64 how):=(cell_blk qv).trans rfl
 have y1:V.cell? ⟨w.heap.size+1+1,1,none⟩=some (.int .i64 0):=(cell_blk qv).trans rfl
 have y2:V.cell? ⟨w.heap.size+1+1,2,none⟩=some (.int .i64 0):=(cell_blk qv).trans rfl
 have y3:V.cell? ⟨w.heap.size+1+1,3,none⟩=some (.slice Ax nx cx):=(cell_blk qv).trans rfl
 have y4:V.cell? ⟨w.heap.size+1+1,4,none⟩=some (.int .i64 h.sh.used):=(cell_blk qv).trans rfl
 have y5:V.cell? ⟨w.heap.size+1+1,5,none⟩=some (.int .i64 h.sh.steps):=(cell_blk qv).trans rfl
 have z0:V.cell? ⟨w.heap.size+1,0,none⟩=some (.int .i64 0):=(cell_blk qz).trans rfl
 have z1:V.cell? ⟨w.heap.size+1,1,none⟩=some (.int .i64 0):=(cell_blk qz).trans rfl
 have z2:V.cell? ⟨w.heap.size+1,2,none⟩=some (.int .i64 0):=(cell_blk qz).trans rfl
 have z3:V.cell? ⟨w.heap.size+1,3,none⟩=some (.slice none 0 0):=(cell_blk qz).trans rfl
 have z4:V.cell? ⟨w.heap.size+1,4,none⟩=some (.int .i64 0):=(cell_blk qz).trans rfl
 have z5:V.cell? ⟨w.heap.size+1,5,none⟩=some (.int .i64 0):=(cell_blk qz).trans rfl
 have fv:=free_blk qv
 have fr:=free_blk qz
 have n1:w.heap.size+1+1≠w.heap.size+1:=by omega
 have n2:w.heap.size+1≠w.heap.size+1+1:=by omega
 replace qz:=hid qz
 replace qv:=hid qv
 replace qs:=hid qs
 replace hbV:=hid hbV
 go_wp2
 have q3:(V.setCell ⟨w.heap.size+1+1,1,none⟩ (.int .i64 n)).heap[w.heap.size+1]?=some (.cells #[.int .i64 0,.int .i64 0,.int .i64 0,.slice none 0 0,.int .i64 0,.int .i64 0] 28 (0,0)):=by rw [block_far (by omega)];exact qz.out
 refine bodyPost_ret (results_cell_row rfl _ _ (w.heap.size+1) _ _ _ _ rfl (set_six6 q3 _ _ _ _ _ _) Tryz.underlying28 rfl info_shm) rfl ?_
 exact ⟨rfl,bl_six6 (hbV.out.setCell (p:=⟨w.heap.size+1+1,1,none⟩) (by show w.heap.size≤w.heap.size+1+1;omega) _) (Nat.le_succ _) _ _ _ _ _ _⟩
theorem shown_ref (how k n:Int) (g:Mg) (h:Hp) (Ax:Option Addr) (nx cx:Nat) (w:World) (r0:w.cell? ⟨g.r,0,none⟩=some (.pointer (some ⟨g.hb,0,none⟩))) (r6:w.cell? ⟨g.r,6,none⟩=some (.int .i64 h.sh.steps)) (r7:w.cell? ⟨g.r,7,none⟩=some (.int .i64 h.sh.used)) (r8:w.cell? ⟨g.r,8,none⟩=some (.slice Ax nx cx)) (hh:how≠2) (hk:k=3) :
  Calls Tryz.prog 73 #[.pointer (some ⟨g.r,0,none⟩),.agg #[.int .i64 how,.int .i64 k,.int .i64 n]] w fun e w'=>e=.returned (.agg #[.int .i64 how,.int .i64 0,.int .i64 0,.slice Ax nx cx,.int .i64 h.sh.used,.int .i64 h.sh.steps])∧Bl w w':=by
 have HAL:Hid (Bl w ((w.alloc (stO how k n)).alloc shMZ)):=((Bl.refl w).alloc _).alloc _
 have HT:Hid (∀w',Bl ((w.alloc (stO how k n)).alloc shMZ) w'→(fun w'=>Hid (Bl ((w.alloc (stO how k n)).alloc shMZ) w')∧w'.cell? ⟨w.heap.size,0,none⟩=some (.int .i64 how)∧w'.cell? ⟨w.heap.size,1,none⟩=some (.int .i64 k)∧w'.cell? ⟨w.heap.size,2,none⟩=some (.int .i64 n)∧w'.cell? ⟨g.r,0,none⟩=some (.pointer (some ⟨g.hb,0,none⟩))∧w'.cell? ⟨g.r,6,none⟩=some (.int .i64 h.sh.steps)∧w'.cell? ⟨g.r,7,none⟩=some (.int .i64 h.sh.used)∧w'.cell? ⟨g.r,8,none⟩=some (.slice Ax nx cx)) w'):=fun w' hb=>by
  have hb2:=HAL.out.trans hb
  have hb3:Bl (w.alloc (stO how k n)) w':=((Bl.refl _).alloc _).trans hb
  exact ⟨hb,hb3.cell (cell_of_new rfl),hb3.cell (cell_of_new rfl),hb3.cell (cell_of_new rfl),hb2.cell r0,hb2.cell r6,hb2.cell r7,hb2.cell r8⟩
 have hh':(how==2)=false:=by simpa using hh
 have hk':(k !=3)=false:=by simp [hk]
 clear r0 r6 r7 r8 hh hk
 go_enter Tryz.func73,Tryz.ntmps73
 go_wp2
 refine wp_region_held_drew (S:=fun w'=>Hid (Bl ((w.alloc (stO how k n)).alloc shMZ) w')∧w'.cell? ⟨w.heap.size,0,none⟩=some (.int .i64 how)∧w'.cell? ⟨w.heap.size,1,none⟩=some (.int .i64 k)∧w'.cell? ⟨w.heap.size,2,none⟩=some (.int .i64 n)∧w'.cell? ⟨g.r,0,none⟩=some (.pointer (some ⟨g.hb,0,none⟩))∧w'.cell? ⟨g.r,6,none⟩=some (.int .i64 h.sh.steps)∧w'.cell? ⟨g.r,7,none⟩=some (.int .i64 h.sh.used)∧w'.cell? ⟨g.r,8,none⟩=some (.slice Ax nx cx)) (by kernel_rfl) ?_ (fun hHeld0=>?_)
 ·exact HT.out _ (Bl.refl _).drew
 refine tk (i:=0) (d:=some 6) rfl rfl (by kernel_rfl) (fun _ _ _ h=>h) (by rfl) (by intro _ h;(try dsimp only at h);go_split_ands;go_simp<;>with_reducible rfl) hHeld0 ?_
 try simp only [aS,aN,aT,a0,a1]
 refine tk (i:=1) (d:=some 7) rfl rfl (by kernel_rfl) (fun _ _ _ h=>h) (by rfl) (by intro _ h;(try dsimp only at h);go_split_ands;go_simp<;>with_reducible rfl) hHeld0 ?_
 try simp only [aS,aN,aT,a0,a1]
 refine tk (i:=2) (d:=some 8) rfl rfl (by kernel_rfl) (fun _ _ _ h=>h) (by rfl) (by intro _ h;(try dsimp only at h);go_split_ands;go_simp<;>with_reducible rfl) hHeld0 ?_
 try simp only [aS,aN,aT,a0,a1]
 refine tk (i:=3) (d:=some 9) rfl rfl (by kernel_rfl) (fun _ _ _ h=>h) (by rfl) (by intro _ h;(try dsimp only at h);go_split_ands;go_simp<;>with_reducible rfl) hHeld0 ?_
 try simp only [aS,aN,aT,a0,a1]
 refine tk (i:=4) (d:=some 10) rfl rfl (by kernel_rfl) (fun _ _ _ h=>h) (by rfl) (by intro _ h;(try dsimp only at h);go_split_ands;go_simp<;>with_reducible rfl) hHeld0 ?_
 try simp only [aS,aN,aT,a0,a1]
 refine tk (i:=5) (d:=some 11) rfl rfl (by kernel_rfl) (fun _ _ _ h=>h) (by rfl) (by intro _ h;(try dsimp only at h);go_split_ands;go_simp<;>with_reducible rfl) hHeld0 ?_
 try simp only [aS,aN,aT,a0,a1]
 refine tk (i:=6) (d:=some 12) rfl rfl (by kernel_rfl) (fun _ _ _ h=>h) (by rfl) (by intro _ h;(try dsimp only at h);go_split_ands;go_simp<;>with_reducible rfl) hHeld0 ?_
 try simp only [aS,aN,aT,a0,a1]
 refine tk (i:=7) (d:=some 13) rfl rfl (by kernel_rfl) (fun _ _ _ h=>h) (by rfl) (by intro _ h;(try dsimp only at h);go_split_ands;go_simp<;>with_reducible rfl) hHeld0 ?_
 try simp only [aS,aN,aT,a0,a1]
 refine tk (i:=8) (d:=some 14) rfl rfl (by kernel_rfl) (fun _ _ _ h=>h) (by rfl) (by intro _ h;(try dsimp only at h);go_split_ands;go_simp<;>with_reducible rfl) hHeld0 ?_
 try simp only [aS,aN,aT,a0,a1]
 refine tk (i:=9) (d:=some 15) rfl rfl (by kernel_rfl) (fun _ _ _ h=>h) (by rfl) (by intro _ h;(try dsimp only at h);go_split_ands;go_simp<;>with_reducible rfl) hHeld0 ?_
 try simp only [aS,aN,aT,a0,a1]
 refine tk (i:=10) (d:=some 16) rfl rfl (by kernel_rfl) (fun _ _ _ h=>h) (by rfl) (by intro _ h;(try dsimp only at h);go_split_ands;go_simp<;>with_reducible rfl) hHeld0 ?_
 try simp only [aS,aN,aT,a0,a1]
 refine tk (i:=11) (d:=some 17) rfl rfl (by kernel_rfl) (fun _ _ _ h=>h) (by rfl) (by intro _ h;(try dsimp only at h);go_split_ands;go_simp<;>with_reducible rfl) hHeld0 ?_
 try simp only [aS,aN,aT,a0,a1]
 refine tk (i:=12) (d:=some 18) rfl rfl (by kernel_rfl) (fun _ _ _ h=>h) (by rfl) (by intro _ h;(try dsimp only at h);go_split_ands;go_simp<;>with_reducible rfl) hHeld0 ?_
 try simp only [aS,aN,aT,a0,a1]
 refine tk (i:=13) (d:=some 19) rfl rfl (by kernel_rfl) (fun _ _ _ h=>h) (by rfl) (by intro _ h;(try dsimp only at h);go_split_ands;go_simp<;>with_reducible rfl) hHeld0 ?_
 try simp only [aS,aN,aT,a0,a1]
 refine tk (i:=14) (d:=some 20) rfl rfl (by kernel_rfl) (fun _ _ _ h=>h) (by rfl) (by intro _ h;(try dsimp only at h);go_split_ands;go_simp<;>with_reducible rfl) hHeld0 ?_
 try simp only [aS,aN,aT,a0,a1]
 refine rd1 (i:=15) (by kernel_rfl) rfl fun K hK=>?_
 go_simp
 refine hK.out _ _ (HT.out _ (hHeld0.1.out.alloc _)) (fun hHeld1=>?_)
 try simp only [aS,aN,aT,a0,a1]
 refine rd1 (i:=16) (by kernel_rfl) rfl fun K hK=>?_
 go_simp
 refine hK.out _ _ (HT.out _ ((Bl.refl _).alloc _).drew) (fun hHeld2=>?_)
 try simp only [aS,aN,aT,a0,a1]
 refine wpAnyH_done (by kernel_rfl) ?_ _
 obtain ⟨V,hV⟩:∃V,V=(((w.alloc (stO how k n)).alloc shMZ).alloc (.cells #[.int .i64 how,.int .i64 0,.int .i64 0,.slice Ax nx cx,.int .i64 h.sh.used,.int .i64 h.sh.steps] 28)).drew:=⟨_,rfl⟩
 have hbV:Bl w V:=by rw [hV];exact (HAL.out.alloc _).drew
 obtain ⟨L0,L1⟩:=two_lie (w.alloc (stO how k n)) #[.int .i64 0,.int .i64 0,.int .i64 0,.slice none 0 0,.int .i64 0,.int .i64 0] #[.int .i64 how,.int .i64 0,.int .i64 0,.slice Ax nx cx,.int .i64 h.sh.used,.int .i64 h.sh.steps] 28 28
 rw [World.size_alloc] at L0 L1
 have qz:V.heap[w.heap.size+1]?=some (.cells #[.int .i64 0,.int .i64 0,.int .i64 0,.slice none 0 0,.int .i64 0,.int .i64 0] 28 (0,0)):=by rw [hV];exact L0
 have qv:V.heap[w.heap.size+1+1]?=some (.cells #[.int .i64 how,.int .i64 0,.int .i64 0,.slice Ax nx cx,.int .i64 h.sh.used,.int .i64 h.sh.steps] 28 (0,0)):=by rw [hV];exact L1
 have qs:V.heap[w.heap.size]?=some (.cells #[.int .i64 how,.int .i64 k,.int .i64 n] 126 (0,0)):=by rw [hV];exact bl_blk ((((Bl.refl _).alloc _).alloc _).drew) (blk_new w _ _)
 rw [←hV]
 clear hV L0 L1 hHeld2 hHeld0 hHeld1
 have s0:V.cell? ⟨w.heap.size,0,none⟩=some (.int .i64 how):=(cell_blk qs).trans rfl
 have s1:V.cell? ⟨w.heap.size,1,none⟩=some (.int .i64 k):=(cell_blk qs).trans rfl
 have s2:V.cell? ⟨w.heap.size,2,none⟩=some (.int .i64 n):=(cell_blk qs).trans rfl
 have y0:V.cell? ⟨w.heap.size+1+1,0,none⟩=some (.int .i64 how):=(cell_blk qv).trans rfl
 have y1:V.cell? ⟨w.heap.size+1+1,1,none⟩=some (.int .i64 0):=(cell_blk qv).trans rfl
 have y2:V.cell? ⟨w.heap.size+1+1,2,none⟩=some (.int .i64 0):=(cell_blk qv).trans rfl
 have y3:V.cell? ⟨w.heap.size+1+1,3,none⟩=some (.slice Ax nx cx):=(cell_blk qv).trans rfl
 have y4:V.cell? ⟨w.heap.size+1+1,4,none⟩=some (.int .i64 h.sh.used):=(cell_blk qv).trans rfl
 have y5:V.cell? ⟨w.heap.size+1+1,5,none⟩=some (.int .i64 h.sh.steps):=(cell_blk qv).trans rfl
 have z0:V.cell? ⟨w.heap.size+1,0,none⟩=some (.int .i64 0):=(cell_blk qz).trans rfl
 have z1:V.cell? ⟨w.heap.size+1,1,none⟩=some (.int .i64 0):=(cell_blk qz).trans rfl
 have z2:V.cell? ⟨w.heap.size+1,2,none⟩=some (.int .i64 0):=(cell_blk qz).trans rfl
 have z3:V.cell? ⟨w.heap.size+1,3,none⟩=some (.slice none 0 0):=(cell_blk qz).trans rfl
 have z4:V.cell? ⟨w.heap.size+1,4,none⟩=some (.int .i64 0):=(cell_blk qz).trans rfl
 have z5:V.cell? ⟨w.heap.size+1,5,none⟩=some (.int .i64 0):=(cell_blk qz).trans rfl
 have fv:=free_blk qv
 have fr:=free_blk qz
 have n1:w.heap.size+1+1≠w.heap.size+1:=by omega
 have n2:w.heap.size+1≠w.heap.size+1+1:=by omega
 replace qz:=hid qz
 replace qv:=hid qv
 replace qs:=hid qs
 replace hbV:=hid hbV
 go_wp2
 refine bodyPost_ret (results_cell_row rfl _ _ (w.heap.size+1) _ _ _ _ rfl (set_six6 qz.out _ _ _ _ _ _) Tryz.underlying28 rfl info_shm) rfl ?_
 exact ⟨rfl,bl_six6 hbV.out (Nat.le_succ _) _ _ _ _ _ _⟩
theorem shown_thr (n:Nat) (CL:Int) (g:Mg) (h:Hp) (Ax:Option Addr) (nx cx:Nat) (w:World) (R:HRd w g h) (hn:n<h.objs.length) (hC:(nth ob0 h.objs n).cls=CL) (r0:w.cell? ⟨g.r,0,none⟩=some (.pointer (some ⟨g.hb,0,none⟩))) (r6:w.cell? ⟨g.r,6,none⟩=some (.int .i64 h.sh.steps)) (r7:w.cell? ⟨g.r,7,none⟩=some (.int .i64 h.sh.used)) (r8:w.cell? ⟨g.r,8,none⟩=some (.slice Ax nx cx)) :
  Calls Tryz.prog 73 #[.pointer (some ⟨g.r,0,none⟩),.agg #[.int .i64 2,.int .i64 3,.int .i64 ((n:Int)+1)]] w fun e w'=>e=.returned (.agg #[.int .i64 2,.int .i64 0,.int .i64 CL,.slice Ax nx cx,.int .i64 h.sh.used,.int .i64 h.sh.steps])∧Bl w w':=by
 have HAL:Hid (Bl w ((w.alloc (stO 2 3 ((n:Int)+1))).alloc shMZ)):=((Bl.refl w).alloc _).alloc _
 have HT:Hid (∀w',Bl ((w.alloc (stO 2 3 ((n:Int)+1))).alloc shMZ) w'→(fun w'=>Hid (Bl ((w.alloc (stO 2 3 ((n:Int)+1))).alloc shMZ) w')∧w'.cell? ⟨w.heap.size,0,none⟩=some (.int .i64 2)∧w'.cell? ⟨w.heap.size,1,none⟩=some (.int .i64 3)∧w'.cell? ⟨w.heap.size,2,none⟩=some (.int .i64 ((n:Int)+1))∧w'.cell? ⟨g.r,0,none⟩=some (.pointer (some ⟨g.hb,0,none⟩))∧w'.cell? ⟨g.r,6,none⟩=some (.int .i64 h.sh.steps)∧w'.cell? ⟨g.r,7,none⟩=some (.int .i64 h.sh.used)∧w'.cell? ⟨g.r,8,none⟩=some (.slice Ax nx cx)) w'):=fun w' hb=>by
  have hb2:=HAL.out.trans hb
  have hb3:Bl (w.alloc (stO 2 3 ((n:Int)+1))) w':=((Bl.refl _).alloc _).trans hb
  exact ⟨hb,hb3.cell (cell_of_new rfl),hb3.cell (cell_of_new rfl),hb3.cell (cell_of_new rfl),hb2.cell r0,hb2.cell r6,hb2.cell r7,hb2.cell r8⟩
 have HT3:Hid (∀w',Bl (w.alloc (stO 2 3 ((n:Int)+1))) w'→(fun w'=>Hid (Bl (w.alloc (stO 2 3 ((n:Int)+1))) w')∧w'.cell? ⟨w.heap.size,1,none⟩=some (.int .i64 3)∧w'.cell? ⟨w.heap.size,2,none⟩=some (.int .i64 ((n:Int)+1))∧w'.cell? ⟨g.r,0,none⟩=some (.pointer (some ⟨g.hb,0,none⟩))) w'):=fun w' hb =>
  ⟨hb,hb.cell (cell_of_new rfl),hb.cell (cell_of_new rfl),(((Bl.refl w).alloc _).trans hb).cell r0⟩
 have HCL:Hid (∀w',Bl (w.alloc (stO 2 3 ((n:Int)+1))) w'→Calls Tryz.prog 150 #[.pointer (some ⟨g.hb,0,none⟩),mvV ⟨3,(n:Int)+1⟩] w' fun e w2=>e=.returned (.int .i64 CL)∧Bl w' w2):=fun w' hb=>by
  have:=classOf_any g h n w' (R.bl (((Bl.refl w).alloc _).trans hb)) hn
  rw [hC] at this
  exact this
 clear r0 r6 r7 r8 R hC hn
 go_enter Tryz.func73,Tryz.ntmps73
 go_wp2
 refine wp_region_held_drew (S:=fun w'=>Hid (Bl ((w.alloc (stO 2 3 ((n:Int)+1))).alloc shMZ) w')∧w'.cell? ⟨w.heap.size,0,none⟩=some (.int .i64 2)∧w'.cell? ⟨w.heap.size,1,none⟩=some (.int .i64 3)∧w'.cell? ⟨w.heap.size,2,none⟩=some (.int .i64 ((n:Int)+1))∧w'.cell? ⟨g.r,0,none⟩=some (.pointer (some ⟨g.hb,0,none⟩))∧w'.cell? ⟨g.r,6,none⟩=some (.int .i64 h.sh.steps)∧w'.cell? ⟨g.r,7,none⟩=some (.int .i64 h.sh.used)∧w'.cell? ⟨g.r,8,none⟩=some (.slice Ax nx cx)) (by kernel_rfl) ?_ (fun hHeld0=>?_)
 ·exact HT.out _ (Bl.refl _).drew
 refine tk (i:=0) (d:=some 6) rfl rfl (by kernel_rfl) (fun _ _ _ h=>h) (by rfl) (by intro _ h;(try dsimp only at h);go_split_ands;go_simp<;>with_reducible rfl) hHeld0 ?_
 try simp only [aS,aN,aT,a0,a1]
 refine tk (i:=1) (d:=some 7) rfl rfl (by kernel_rfl) (fun _ _ _ h=>h) (by rfl) (by intro _ h;(try dsimp only at h);go_split_ands;go_simp<;>with_reducible rfl) hHeld0 ?_
 try simp only [aS,aN,aT,a0,a1]
 refine tk (i:=2) (d:=some 8) rfl rfl (by kernel_rfl) (fun _ _ _ h=>h) (by rfl) (by intro _ h;(try dsimp only at h);go_split_ands;go_simp<;>with_reducible rfl) hHeld0 ?_
 try simp only [aS,aN,aT,a0,a1]
 refine tk (i:=3) (d:=some 9) rfl rfl (by kernel_rfl) (fun _ _ _ h=>h) (by rfl) (by intro _ h;(try dsimp only at h);go_split_ands;go_simp<;>with_reducible rfl) hHeld0 ?_
 try simp only [aS,aN,aT,a0,a1]
 refine tk (i:=4) (d:=some 10) rfl rfl (by kernel_rfl) (fun _ _ _ h=>h) (by rfl) (by intro _ h;(try dsimp only at h);go_split_ands;go_simp<;>with_reducible rfl) hHeld0 ?_
 try simp only [aS,aN,aT,a0,a1]
 refine tk (i:=5) (d:=some 11) rfl rfl (by kernel_rfl) (fun _ _ _ h=>h) (by rfl) (by intro _ h;(try dsimp only at h);go_split_ands;go_simp<;>with_reducible rfl) hHeld0 ?_
 try simp only [aS,aN,aT,a0,a1]
 refine tk (i:=6) (d:=some 12) rfl rfl (by kernel_rfl) (fun _ _ _ h=>h) (by rfl) (by intro _ h;(try dsimp only at h);go_split_ands;go_simp<;>with_reducible rfl) hHeld0 ?_
 try simp only [aS,aN,aT,a0,a1]
 refine tk (i:=7) (d:=some 13) rfl rfl (by kernel_rfl) (fun _ _ _ h=>h) (by rfl) (by intro _ h;(try dsimp only at h);go_split_ands;go_simp<;>with_reducible rfl) hHeld0 ?_
 try simp only [aS,aN,aT,a0,a1]
 refine tk (i:=8) (d:=some 14) rfl rfl (by kernel_rfl) (fun _ _ _ h=>h) (by rfl) (by intro _ h;(try dsimp only at h);go_split_ands;go_simp<;>with_reducible rfl) hHeld0 ?_
 try simp only [aS,aN,aT,a0,a1]
 refine tk (i:=9) (d:=some 15) rfl rfl (by kernel_rfl) (fun _ _ _ h=>h) (by rfl) (by intro _ h;(try dsimp only at h);go_split_ands;go_simp<;>with_reducible rfl) hHeld0 ?_
 try simp only [aS,aN,aT,a0,a1]
 refine tk (i:=10) (d:=some 16) rfl rfl (by kernel_rfl) (fun _ _ _ h=>h) (by rfl) (by intro _ h;(try dsimp only at h);go_split_ands;go_simp<;>with_reducible rfl) hHeld0 ?_
 try simp only [aS,aN,aT,a0,a1]
 refine tk (i:=11) (d:=some 17) rfl rfl (by kernel_rfl) (fun _ _ _ h=>h) (by rfl) (by intro _ h;(try dsimp only at h);go_split_ands;go_simp<;>with_reducible rfl) hHeld0 ?_
 try simp only [aS,aN,aT,a0,a1]
 refine tk (i:=12) (d:=some 18) rfl rfl (by kernel_rfl) (fun _ _ _ h=>h) (by rfl) (by intro _ h;(try dsimp only at h);go_split_ands;go_simp<;>with_reducible rfl) hHeld0 ?_
 try simp only [aS,aN,aT,a0,a1]
 refine tk (i:=13) (d:=some 19) rfl rfl (by kernel_rfl) (fun _ _ _ h=>h) (by rfl) (by intro _ h;(try dsimp only at h);go_split_ands;go_simp<;>with_reducible rfl) hHeld0 ?_
 try simp only [aS,aN,aT,a0,a1]
 refine tk (i:=14) (d:=some 20) rfl rfl (by kernel_rfl) (fun _ _ _ h=>h) (by rfl) (by intro _ h;(try dsimp only at h);go_split_ands;go_simp<;>with_reducible rfl) hHeld0 ?_
 try simp only [aS,aN,aT,a0,a1]
 refine rd1 (i:=15) (by kernel_rfl) rfl fun K hK=>?_
 go_simp
 refine hK.out _ _ (HT.out _ (hHeld0.1.out.alloc _)) (fun hHeld1=>?_)
 try simp only [aS,aN,aT,a0,a1]
 refine rd1 (i:=16) (by kernel_rfl) rfl fun K hK=>?_
 go_simp
 refine hK.out _ _ (HT.out _ ((Bl.refl _).alloc _).drew) (fun hHeld2=>?_)
 try simp only [aS,aN,aT,a0,a1]
 refine wpAnyH_done (by kernel_rfl) ?_ _
 obtain ⟨V,hV⟩:∃V,V=(((w.alloc (stO 2 3 ((n:Int)+1))).alloc shMZ).alloc (.cells #[.int .i64 2,.int .i64 0,.int .i64 0,.slice Ax nx cx,.int .i64 h.sh.used,.int .i64 h.sh.steps] 28)).drew:=⟨_,rfl⟩
 have hbV:Bl w V:=by rw [hV];exact (HAL.out.alloc _).drew
 obtain ⟨L0,L1⟩:=two_lie (w.alloc (stO 2 3 ((n:Int)+1))) #[.int .i64 0,.int .i64 0,.int .i64 0,.slice none 0 0,.int .i64 0,.int .i64 0] #[.int .i64 2,.int .i64 0,.int .i64 0,.slice Ax nx cx,.int .i64 h.sh.used,.int .i64 h.sh.steps] 28 28
 rw [World.size_alloc] at L0 L1
 have qz:V.heap[w.heap.size+1]?=some (.cells #[.int .i64 0,.int .i64 0,.int .i64 0,.slice none 0 0,.int .i64 0,.int .i64 0] 28 (0,0)):=by rw [hV];exact L0
 have qv:V.heap[w.heap.size+1+1]?=some (.cells #[.int .i64 2,.int .i64 0,.int .i64 0,.slice Ax nx cx,.int .i64 h.sh.used,.int .i64 h.sh.steps] 28 (0,0)):=by rw [hV];exact L1
 have qs:V.heap[w.heap.size]?=some (.cells #[.int .i64 2,.int .i64 3,.int .i64 ((n:Int)+1)] 126 (0,0)):=by rw [hV];exact bl_blk ((((Bl.refl _).alloc _).alloc _).drew) (blk_new w _ _)
 have hb1V:Bl (w.alloc (stO 2 3 ((n:Int)+1))) V:=by rw [hV];exact (((Bl.refl _).alloc _).alloc _).drew
 rw [←hV]
 clear hV L0 L1 hHeld2 hHeld0 hHeld1
 have s0:V.cell? ⟨w.heap.size,0,none⟩=some (.int .i64 2):=(cell_blk qs).trans rfl
 have s1:V.cell? ⟨w.heap.size,1,none⟩=some (.int .i64 3):=(cell_blk qs).trans rfl
 have s2:V.cell? ⟨w.heap.size,2,none⟩=some (.int .i64 ((n:Int)+1)):=(cell_blk qs).trans rfl
 have HB1V:Hid (Bl (w.alloc (stO 2 3 ((n:Int)+1))) V):=hb1V
 replace qz:=hid qz
 replace qv:=hid qv
 replace qs:=hid qs
 replace hbV:=hid hbV
 clear hb1V
 go_wp2
 refine wp_region_held_drew (S:=fun w'=>Hid (Bl (w.alloc (stO 2 3 ((n:Int)+1))) w')∧w'.cell? ⟨w.heap.size,1,none⟩=some (.int .i64 3)∧w'.cell? ⟨w.heap.size,2,none⟩=some (.int .i64 ((n:Int)+1))∧w'.cell? ⟨g.r,0,none⟩=some (.pointer (some ⟨g.hb,0,none⟩))) (by kernel_rfl) ?_ (fun hHeld0=>?_)
 ·exact HT3.out _ HB1V.out.drew
 refine tk (i:=0) (d:=some 25) rfl rfl (by kernel_rfl) (fun _ _ _ h=>h) (by rfl) (by intro _ h;(try dsimp only at h);go_split_ands;go_simp<;>with_reducible rfl) hHeld0 ?_
 try simp only [aS,aN,aT,a0,a1]
 refine tk (i:=1) (d:=some 26) rfl rfl (by kernel_rfl) (fun _ _ _ h=>h) (by rfl) (by intro _ h;(try dsimp only at h);go_split_ands;go_simp<;>with_reducible rfl) hHeld0 ?_
 try simp only [aS,aN,aT,a0,a1]
 refine tk (i:=2) (d:=some 27) rfl rfl (by kernel_rfl) (fun _ _ _ h=>h) (by rfl) (by intro _ h;(try dsimp only at h);go_split_ands;go_simp<;>with_reducible rfl) hHeld0 ?_
 try simp only [aS,aN,aT,a0,a1]
 refine tk (i:=3) (d:=some 28) rfl rfl (by kernel_rfl) (fun _ _ _ h=>h) (by rfl) (by intro _ h;(try dsimp only at h);go_split_ands;go_simp<;>with_reducible rfl) hHeld0 ?_
 try simp only [aS,aN,aT,a0,a1]
 refine tk (i:=4) (d:=some 29) rfl rfl (by kernel_rfl) (fun _ _ _ h=>h) (by rfl) (by intro _ h;(try dsimp only at h);go_split_ands;go_simp<;>with_reducible rfl) hHeld0 ?_
 try simp only [aS,aN,aT,a0,a1]
 refine tk (i:=5) (d:=some 30) rfl rfl (by kernel_rfl) (fun _ _ _ h=>h) (by rfl) (by intro _ h;(try dsimp only at h);go_split_ands;go_simp<;>with_reducible rfl) hHeld0 ?_
 try simp only [aS,aN,aT,a0,a1]
 refine rd1 (i:=6) (by kernel_rfl) rfl fun K hK=>?_
 go_simp
 go_at_call 150
 refine (HCL.out _ HB1V.out.drew).mono ?_
 rintro e w3 ⟨rfl,b3⟩
 have B3:Hid (Bl V w3):=(Bl.refl V).drew.trans b3
 have hv3:=bl_blk B3.out qv.out
 have fv3:=free_blk hv3
 have yy2:w3.cell? ⟨w.heap.size+1+1,2,none⟩=some (.int .i64 0):=(cell_blk hv3).trans rfl
 replace hv3:=hid hv3
 clear b3
 go_wp2_with fail
 refine hK.out _ _ (HT3.out _ (HB1V.out.trans B3.out)) (fun hHeld1=>?_)
 try simp only [aS,aN,aT,a0,a1]
 refine tk (i:=7) (d:=some 32) rfl rfl (by kernel_rfl) (fun _ _ _ h=>h) (by rfl) (by intro _ h;(try dsimp only at h);go_split_ands;go_simp<;>with_reducible rfl) hHeld1 ?_
 try simp only [aS,aN,aT,a0,a1]
 refine rd1 (i:=8) (by kernel_rfl) rfl fun K hK=>?_
 go_simp
 refine hK.out _ _ (HT3.out _ ((HB1V.out.trans B3.out).setCell (p:=⟨w.heap.size+1+1,2,none⟩) (by simp) _)) (fun hHeld2=>?_)
 try simp only [aS,aN,aT,a0,a1]
 refine wpAnyH_done (by kernel_rfl) ?_ _
 obtain ⟨V2,hV2⟩:∃V2,V2=w3.setCell ⟨w.heap.size+1+1,2,none⟩ (.int .i64 CL):=⟨_,rfl⟩
 have qv2:V2.heap[w.heap.size+1+1]?=some (.cells #[.int .i64 2,.int .i64 0,.int .i64 CL,.slice Ax nx cx,.int .i64 h.sh.used,.int .i64 h.sh.steps] 28 (0,0)):=by rw [hV2,block_set hv3.out];rfl
 have qz2:V2.heap[w.heap.size+1]?=some (.cells #[.int .i64 0,.int .i64 0,.int .i64 0,.slice none 0 0,.int .i64 0,.int .i64 0] 28 (0,0)):=by rw [hV2,block_far (by omega)];exact bl_blk B3.out qz.out
 have hb2:Bl w V2:=by rw [hV2];exact (hbV.out.trans B3.out).setCell (p:=⟨w.heap.size+1+1,2,none⟩) (by show w.heap.size≤w.heap.size+1+1;omega) _
 rw [←hV2]
 clear hV2 hHeld0 hHeld1 hHeld2
 have y0:V2.cell? ⟨w.heap.size+1+1,0,none⟩=some (.int .i64 2):=(cell_blk qv2).trans rfl
 have y1:V2.cell? ⟨w.heap.size+1+1,1,none⟩=some (.int .i64 0):=(cell_blk qv2).trans rfl
 have y2:V2.cell? ⟨w.heap.size+1+1,2,none⟩=some (.int .i64 CL):=(cell_blk qv2).trans rfl
 have y3:V2.cell? ⟨w.heap.size+1+1,3,none⟩=some (.slice Ax nx cx):=(cell_blk qv2).trans rfl
 have y4:V2.cell? ⟨w.heap.size+1+1,4,none⟩=some (.int .i64 h.sh.used):=(cell_blk qv2).trans rfl
 have y5:V2.cell? ⟨w.heap.size+1+1,5,none⟩=some (.int .i64 h.sh.steps):=(cell_blk qv2).trans rfl
 have z0:V2.cell? ⟨w.heap.size+1,0,none⟩=some (.int .i64 0):=(cell_blk qz2).trans rfl
 have z1:V2.cell? ⟨w.heap.size+1,1,none⟩=some (.int .i64 0):=(cell_blk qz2).trans rfl
 have z2:V2.cell? ⟨w.heap.size+1,2,none⟩=some (.int .i64 0):=(cell_blk qz2).trans rfl
 have z3:V2.cell? ⟨w.heap.size+1,3,none⟩=some (.slice none 0 0):=(cell_blk qz2).trans rfl
 have z4:V2.cell? ⟨w.heap.size+1,4,none⟩=some (.int .i64 0):=(cell_blk qz2).trans rfl
 have z5:V2.cell? ⟨w.heap.size+1,5,none⟩=some (.int .i64 0):=(cell_blk qz2).trans rfl
 have fv:=free_blk qv2
 have fr:=free_blk qz2
 have n1:w.heap.size+1+1≠w.heap.size+1:=by omega
 have n2:w.heap.size+1≠w.heap.size+1+1:=by omega
 replace qz2:=hid qz2
 replace qv2:=hid qv2
 replace hb2:=hid hb2
 go_wp2
 refine bodyPost_ret (results_cell_row rfl _ _ (w.heap.size+1) _ _ _ _ rfl (set_six6 qz2.out _ _ _ _ _ _) Tryz.underlying28 rfl info_shm) rfl ?_
 exact ⟨rfl,bl_six6 hb2.out (Nat.le_succ _) _ _ _ _ _ _⟩
end Go.Proofs.YtgiiapenmjollabGreat
