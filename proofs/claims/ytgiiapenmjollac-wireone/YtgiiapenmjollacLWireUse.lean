/-
  wire.Put for its callers: what it answers of a file that may not be, and of one that may.
-/
import Derived.Test.YtgiiapenmjollacLWirePut
import Derived.Laws.BytesArg
import Derived.Laws.Strings
namespace Go.Proofs.Ytgiiapenmjollac
open Go.RowKit
set_option maxRecDepth 100000
set_option linter.unusedVariables false
set_option linter.unusedSimpArgs false

theorem Rw.later {W0 w w' : World} {v : Value} {l : List Int} (h : Rw W0 w v l) (hb : Bl w w') : Rw W0 w' v l := by
  refine ⟨⟨h.row.1, ?_⟩, h.bl.trans hb⟩
  rcases h.row.2 with hn | ⟨g, cap, cur, e, hg, hblk, rest⟩
  · exact Or.inl hn
  · exact Or.inr ⟨g, cap, cur, e, hg, by rw [hb.block g (Array.getElem?_eq_some_iff.1 hblk).1]; exact hblk, rest⟩
theorem Rw.byte {W0 w : World} {g n cap : Nat} {l : List Int} (h : Rw W0 w (.slice (some ⟨g, 0, none⟩) n cap) l) : ∀ i, i < l.length → w.cell? ⟨g, i, none⟩ = some (.int .u8 (nth (0 : Int) l i)) := by
  intro i hi
  have := h.row.cells (g := g) rfl i (.int .u8 (nth (0 : Int) l i)) (by rw [nth_get hi]; simp [bCs, hi])
  have e : (⟨g, 0, none⟩ : Addr).add i = ⟨g, i, none⟩ := by unfold Addr.add; split <;> simp_all
  rw [e] at this
  exact this
/-- Bytes as a string. -/
def strB (l : List Int) : ByteArray := strOfNums l
theorem Rw.conv {W0 w : World} {g n cap : Nat} {l : List Int} (h : Rw W0 w (.slice (some ⟨g, 0, none⟩) n cap) l) (hn : n = l.length) :
    (convert 26 9 (.slice (some ⟨g, 0, none⟩) n cap)).run Try.prog w = .ok (.string (strB l)) w := by
  subst hn
  exact run_convert_bytes_arg w 26 5 Try.underlying26 Try.underlying5 g 0 _ _ l rfl (fun i hi => by rw [Nat.zero_add]; exact h.byte i hi) 9 Try.underlying9
theorem strB_one {a b : List Int} (ha : Bys a) (hb : Bys b) (h : strB a = strB b) : a = b := by
  have h1 : (strB a).data.toList = (strB b).data.toList := by rw [h]
  unfold strB at h1
  rw [strOfNums_data, strOfNums_data] at h1
  clear h
  induction a generalizing b with
  | nil => cases b with
    | nil => rfl
    | cons y b => simp at h1
  | cons x a ih => cases b with
    | nil => simp at h1
    | cons y b =>
      simp only [List.map_cons, List.cons.injEq] at h1
      have hx := ha x List.mem_cons_self
      have hy := hb y List.mem_cons_self
      unfold BY at hx hy
      have e : x = y := by
        have := congrArg UInt8.toNat h1.1
        simp only [UInt8.toNat_ofNat'] at this
        omega
      rw [e, ih (fun z hz => ha z (List.mem_cons_of_mem _ hz)) (fun z hz => hb z (List.mem_cons_of_mem _ hz)) h1.2]
theorem strB_ne {a b : List Int} (ha : Bys a) (hb : Bys b) (h : a ≠ b) : ((strB a).toList == (strB b).toList) = false := by
  rw [beq_eq_false_iff_ne]
  intro e
  rw [ByteArray.toList_eq, ByteArray.toList_eq] at e
  exact h (strB_one ha hb (ByteArray.ext (Array.toList_inj.1 e)))
theorem putP_pos {f : Fi} {b : List Int} (h : putP f = some b) : 0 < b.length := by
  obtain ⟨_, h2⟩ := putP_some h
  rcases h2 with ⟨_, e⟩ | ⟨_, _, e⟩ <;> (rw [e]; simp)
theorem putP_le {f : Fi} {b : List Int} (h : putP f = some b) : b.length ≤ 50000000 := by
  obtain ⟨h1, h2⟩ := putP_some h
  have := encFi_le h1
  rcases h2 with ⟨_, e⟩ | ⟨_, _, e⟩ <;> (rw [e]; simp at *; omega)

theorem put_none (f : Fi) (A B : Option Addr) (a b : Nat) (w : World) (hA : ClsAt w A f.classes) (hB : MesAt w B f.methods) (h : putP f = none) : Calls Try.prog 4 #[fiV f.classes.length f.methods.length A B a b] w fun e w' => e = .returned (.tuple #[.slice none 0 0, .int .i64 2]) ∧ Bl w w' :=
  (put_any f A B a b w hA hB).mono fun e w' q => by
    rcases q with ⟨_, h1, h2⟩ | ⟨b, v, h1, _⟩
    · exact ⟨h1, h2⟩
    · rw [h] at h1; cases h1
theorem put_some (f : Fi) (A B : Option Addr) (a b : Nat) (w : World) (hA : ClsAt w A f.classes) (hB : MesAt w B f.methods) (l : List Int) (h : putP f = some l) : Calls Try.prog 4 #[fiV f.classes.length f.methods.length A B a b] w fun e w' => ∃ g cap, e = .returned (.tuple #[.slice (some ⟨g, 0, none⟩) l.length cap, .int .i64 0]) ∧ Rw w w' (.slice (some ⟨g, 0, none⟩) l.length cap) l :=
  (put_any f A B a b w hA hB).mono fun e w' q => by
    rcases q with ⟨h1, _⟩ | ⟨b, v, h1, h2, h3⟩
    · rw [h] at h1; cases h1
    · rw [h] at h1
      injection h1 with h1
      subst h1
      obtain ⟨g, cap, hv, _, _⟩ := h3.row.form (putP_pos h)
      subst hv
      exact ⟨g, cap, h2, h3⟩

end Go.Proofs.Ytgiiapenmjollac
