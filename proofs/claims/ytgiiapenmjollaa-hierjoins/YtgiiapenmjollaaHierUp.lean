/-
  Package hier: the classes above one, gone through by a range over a function; whether one is below another.
-/
import Derived.RangeFuncNested
import Derived.RangeFuncBound
import Derived.RangeFuncCalls
import Derived.RangeFuncLeaves
import Derived.RangeFuncFrom
import Derived.Shelf.Abstract
import Derived.Shelf.RegionOpen
import Derived.WalkKit
import Derived.OwnWalkIn
import Derived.TacticsInMore
import Derived.LoopNIn
import Derived.LoopIn
import Derived.Test.YtgiiapenmjollaaChecked
import Derived.Test.YtgiiapenmjollaaHierPlain
import Derived.Test.YtgiiapenmjollaaHierMay
import Derived.Handy
namespace Go.Proofs.Ytgiiapenmjollaa
open Go.RowKit Go.Shelf

attribute [local go_sem] Oper.semAt_some

set_option maxRecDepth 100000 in
set_option maxHeartbeats 2000000 in
/-- Going up from a class, for every loop body that keeps what lay. -/
theorem up1_in (F : Fence) (n : Nat) (hf : F.fn 80) (hro : F.round = none) (hn : 1 ≤ n) (lp Bc Bs : Nat) (A : Option Addr) (c : Nat) (l : List Cl) (u : Nat) (ht : Tree l) (hu : u < l.length) (w : World) (J Jx : List Nat → World → Prop)
    (hY : ∀ pre x W, J pre W → pre.length < (ups l u).length → YieldAt F (n - 1) Try.prog lp #[.int .i64 (x : Nat)] W fun e W' =>
      (e = .returned (.bool true) ∧ J (pre ++ [x]) W' ∧ Below w.heap.size W W') ∨ (e = .returned (.bool false) ∧ Jx (pre ++ [x]) W'))
    (hl : ClsAt w A l) (hBc : w.cell? ⟨Bc, 0, none⟩ = some (.int .i64 u)) (hBs : w.cell? ⟨Bs, 0, none⟩ = some (.slice A l.length c)) (W : World) (hW : Bl w W) (h0 : J [] W) :
    CallsIn F n Try.prog 80 #[.func (.yield lp) #[] #[], .pointer (some ⟨Bc, 0, none⟩), .pointer (some ⟨Bs, 0, none⟩)] W fun e W' => (∃ v, e = .returned v) ∧
      ((∃ ys, ys = ups l u ∧ J ys W') ∨ (∃ pre, pre <+: ups l u ∧ Jx pre W')) := by
  have HT : Hid (Tree l) := ht
  have HL : Hid (ClsAt w A l) := hl
  have HBs : Hid (w.cell? ⟨Bs, 0, none⟩ = some (.slice A l.length c)) := hBs
  have hc0 := hW.cell hBc
  have HW : Hid (Bl w W) := hW
  clear ht hl hBs hBc hW
  refine callsIn_of_wp Try.func80 rfl hf ?_ hro
  simp only [Try.ntmps80, List.size_toArray, List.length_cons, List.length_nil, Nat.reduceAdd, Nat.reduceSub, Array.replicate_succ, Array.replicate_zero, List.push_toArray, List.append_toArray, List.nil_append, List.cons_append]
  gi_wp2
  clear hc0
  gi_loopw [4] (fun p wr => ∃ (pre rest : List Nat) (z : Int), p = .int .i64 z ∧ Hid (ups l u = pre ++ rest) ∧ Hid ((z = -1 ∧ rest = []) ∨ ∃ k : Nat, z = k ∧ k < l.length ∧ rest = ups l k) ∧ Hid (Bl w wr) ∧ J pre wr)
    (fun p _ => (intOf p + 1).toNat)
  case atStart => exact ⟨[], ups l u, _, rfl, rfl, .inr ⟨u, rfl, hu, rfl⟩, HW, h0⟩
  case round =>
    obtain ⟨pre, rest, z, rfl, hx, hz, hg, hJs⟩ := hrel
    rcases hz.out with ⟨rfl, rfl⟩ | ⟨k, rfl, hk, rfl⟩
    · clear hz
      gi_wp2
      go_end0
      exact ⟨⟨_, rfl⟩, .inl ⟨pre, by simpa using hx.out.symm, hJs⟩⟩
    · clear hz
      obtain ⟨fn, tmps, assign, body, hy, hR⟩ := hY pre k wr hJs (by
        rw [hx.out, List.length_append]
        have := List.length_pos_of_mem (ups_head (l := l) k)
        omega)
      gi_wp2
      refine hR.mono ?_
      rintro e W3 (⟨rfl, hJ3, hk3⟩ | ⟨rfl, hJx3⟩)
      · have hg3 : Bl w W3 := Below.trans hg.out hk3
        have hs3 := hg3.cell HBs.out
        obtain ⟨hm, hcl⟩ := HL.out
        unfold maxLen at hm
        rcases hcl with h1 | ⟨b, off, rfl, hcl⟩
        · omega
        have hsup := hg3.cell (hcl k hk).1
        by_cases hk0 : k = 0
        · subst hk0
          rw [HT.out.zero, Nat.zero_mul, Nat.add_zero] at hsup
          have hx' : Hid (ups l u = (pre ++ [0]) ++ []) := by rw [hx.out, ups_zero]; simp [Hid]
          clear hcl hk3 hy hR hx
          have HG : Hid (Bl w W3) := hg3
          clear hg3
          gi_wp2
          go_roundw
          case rel => exact ⟨pre ++ [0], [], -1, rfl, hx', .inl ⟨rfl, rfl⟩, HG, hJ3⟩
          case measure => simp [intOf]
        · rw [super_par HT.out (by omega) hk] at hsup
          have hp := par_lt HT.out (by omega) hk
          have hx' : Hid (ups l u = (pre ++ [k]) ++ ups l (par l k)) := by rw [hx.out, ups_step HT.out (by omega) hk]; simp [Hid]
          clear hcl hk3 hy hR hx
          have HG : Hid (Bl w W3) := hg3
          clear hg3
          gi_wp2
          go_roundw
          case rel => exact ⟨pre ++ [k], _, _, rfl, hx', .inr ⟨par l k, rfl, by omega, rfl⟩, HG, hJ3⟩
          case measure => simp [intOf]; omega
      · gi_wp2
        refine bodyPost_ret (results_none rfl _ _ _) rfl ?_
        refine ⟨⟨_, rfl⟩, .inr ⟨pre ++ [k], ?_, hJx3⟩⟩
        rw [hx.out]
        by_cases hk0 : k = 0
        · subst hk0; rw [ups_zero]; exact List.prefix_rfl
        · rw [ups_step HT.out (by omega) hk]; exact ⟨ups l (par l k), by simp⟩

theorem upward_any (A : Option Addr) (n c : Nat) (x : Int) (w : World) :
    Calls Try.prog 60 #[.slice A n c, .int .i64 x] w fun e w' =>
      e = .returned (.func (.func 80) #[] #[.pointer (some ⟨w.heap.size + 1, 0, none⟩), .pointer (some ⟨w.heap.size, 0, none⟩)])
      ∧ w' = (w.alloc (.cells #[.slice A n c] 29)).alloc (.cells #[.int .i64 x] 3) := by
  refine (callsIn_wide (n := 3)).1 ?_
  refine callsIn_of_wp Try.func60 rfl trivial ?_ rfl
  simp only [Try.ntmps60, List.size_toArray, List.length_cons, List.length_nil, Nat.reduceAdd, Nat.reduceSub, Array.replicate_succ, Array.replicate_zero, List.push_toArray, List.append_toArray, List.nil_append, List.cons_append]
  gi_wp2
  go_ret
  exact ⟨rfl, rfl⟩

/-- What going up hands the loop: all of them, or the first ones. -/
theorem up_stops (n : Nat) (hn : 1 ≤ n) (Bc Bs : Nat) (A : Option Addr) (c : Nat) (l : List Cl) (u : Nat) (ht : Tree l) (hu : u < l.length) (w : World)
    (hl : ClsAt w A l) (hBc : w.cell? ⟨Bc, 0, none⟩ = some (.int .i64 u)) (hBs : w.cell? ⟨Bs, 0, none⟩ = some (.slice A l.length c)) :
    SeqStopsK Fence.wide n Try.prog 80 #[.pointer (some ⟨Bc, 0, none⟩), .pointer (some ⟨Bs, 0, none⟩)] (fun x : Nat => #[Value.int .i64 x]) (Below w.heap.size) (fun ys => ys = ups l u) (fun pre => pre <+: ups l u) (ups l u).length w :=
  fun lp J Jx W hW _ _ hY h0 => up1_in Fence.wide n trivial rfl hn lp Bc Bs A c l u ht hu w J Jx hY hl hBc hBs W hW h0

end Go.Proofs.Ytgiiapenmjollaa
