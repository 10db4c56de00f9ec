/-
  Files as bytes, over plain lists: what a file's bytes are, how bytes are read, and that reading undoes writing.
-/
import Derived.Test.YtgiiapenmjollacLApartPlain
namespace Go.Proofs.Ytgiiapenmjollac
open Go.RowKit

def BY (n : Int) : Prop := 0 ≤ n ∧ n < 256
def Bys (l : List Int) : Prop := ∀ x ∈ l, BY x
/-- Eight bytes, the highest first. -/
def wideL (n : Int) : List Int := [n / 72057594037927936 % 256, n / 281474976710656 % 256, n / 1099511627776 % 256, n / 4294967296 % 256, n / 16777216 % 256, n / 65536 % 256, n / 256 % 256, n % 256]
def encL {α : Type} (e : α → List Int) (l : List α) : List Int := wideL l.length ++ (l.map e).flatten
def encTy (t : Ty) : List Int := wideL t.kind ++ wideL t.cls
def encCl (c : Cl) : List Int := wideL c.super ++ encL encTy c.fields
def encIn (i : In) : List Int := wideL i.op ++ (wideL i.a ++ (wideL i.b ++ (wideL i.c ++ (wideL i.n ++ encL wideL i.args))))
def encHd (h : Hd) : List Int := wideL h.fr ++ (wideL h.til ++ (wideL h.pc ++ wideL h.cls))
def encMe (m : Me) : List Int := encL encTy m.params ++ (encTy m.ret ++ (wideL m.stack ++ (wideL m.locs ++ (wideL m.regs ++ (encL encIn m.code ++ encL encHd m.hands)))))
def encFi (f : Fi) : List Int := encL encCl f.classes ++ encL encMe f.methods
/-- The bytes of a file, if it may be. -/
def putP (f : Fi) : Option (List Int) := if smayB f = true then some (1 :: encFi f) else if rfmayB f = true then some (2 :: encFi f) else none

theorem wide_len (n : Int) : (wideL n).length = 8 := rfl
theorem wide_by (n : Int) : Bys (wideL n) := by
  intro x hx
  unfold wideL at hx
  simp only [List.mem_cons, List.not_mem_nil, or_false] at hx
  unfold BY
  rcases hx with rfl | rfl | rfl | rfl | rfl | rfl | rfl | rfl <;> omega
theorem Bys.append {a b : List Int} (h : Bys a) (k : Bys b) : Bys (a ++ b) := by
  intro x hx
  rcases List.mem_append.1 hx with h1 | h1
  · exact h x h1
  · exact k x h1
theorem Bys.flat {α : Type} {e : α → List Int} (h : ∀ x, Bys (e x)) (l : List α) : Bys (l.map e).flatten := by
  intro x hx
  simp only [List.mem_flatten, List.mem_map] at hx
  obtain ⟨_, ⟨y, _, rfl⟩, hy⟩ := hx
  exact h y x hy
theorem encL_by {α : Type} {e : α → List Int} (h : ∀ x, Bys (e x)) (l : List α) : Bys (encL e l) := (wide_by _).append (Bys.flat h l)
theorem encTy_by (t : Ty) : Bys (encTy t) := (wide_by _).append (wide_by _)
theorem encCl_by (c : Cl) : Bys (encCl c) := (wide_by _).append (encL_by encTy_by _)
theorem encIn_by (i : In) : Bys (encIn i) := (wide_by _).append ((wide_by _).append ((wide_by _).append ((wide_by _).append ((wide_by _).append (encL_by wide_by _)))))
theorem encHd_by (h : Hd) : Bys (encHd h) := (wide_by _).append ((wide_by _).append ((wide_by _).append (wide_by _)))
theorem encMe_by (m : Me) : Bys (encMe m) := (encL_by encTy_by _).append ((encTy_by _).append ((wide_by _).append ((wide_by _).append ((wide_by _).append ((encL_by encIn_by _).append (encL_by encHd_by _))))))
theorem encFi_by (f : Fi) : Bys (encFi f) := (encL_by encCl_by _).append (encL_by encMe_by _)
theorem putP_by {f : Fi} {b : List Int} (h : putP f = some b) : Bys b := by
  have k := encFi_by f
  unfold putP at h
  intro x hx
  split at h
  · injection h with h; subst h
    rcases List.mem_cons.1 hx with rfl | hx
    · unfold BY; omega
    · exact k x hx
  · split at h
    · injection h with h; subst h
      rcases List.mem_cons.1 hx with rfl | hx
      · unfold BY; omega
      · exact k x hx
    · cases h

/-- What eight bytes come to. -/
def valU (l : List Int) : Int := l.foldl (fun a b => a * 256 + b) 0
def valN (l : List Int) : Int := wrap64 (valU l)
abbrev Pa (α : Type) : Type := List Int → Option (α × List Int)
def pN : Pa Int := fun l => if 8 ≤ l.length then some (valN (l.take 8), l.drop 8) else none
def pMany {α : Type} (p : Pa α) : Nat → Pa (List α)
  | 0, l => some ([], l)
  | k + 1, l => (p l).bind fun x => (pMany p k x.2).bind fun y => some (x.1 :: y.1, y.2)
def pL {α : Type} (most : Int) (p : Pa α) : Pa (List α) := fun l => (pN l).bind fun x => if 0 ≤ x.1 ∧ x.1 ≤ most then pMany p x.1.toNat x.2 else none
/-- How many items each list may have. -/
structure Bd where
  cs : Int
  fs : Int
  ms : Int
  ps : Int
  co : Int
  hs : Int
  gs : Int
def pTy : Pa Ty := fun l => (pN l).bind fun k => (pN k.2).bind fun c => some (⟨k.1, c.1⟩, c.2)
def pCl (d : Bd) : Pa Cl := fun l => (pN l).bind fun s => (pL d.fs pTy s.2).bind fun t => some (⟨s.1, t.1⟩, t.2)
def pIn (d : Bd) : Pa In := fun l => (pN l).bind fun o => (pN o.2).bind fun a => (pN a.2).bind fun b => (pN b.2).bind fun c => (pN c.2).bind fun n => (pL d.gs pN n.2).bind fun g => some (⟨o.1, a.1, b.1, c.1, n.1, g.1⟩, g.2)
def pHd : Pa Hd := fun l => (pN l).bind fun a => (pN a.2).bind fun b => (pN b.2).bind fun c => (pN c.2).bind fun d => some (⟨a.1, b.1, c.1, d.1⟩, d.2)
def pMe (d : Bd) : Pa Me := fun l => (pL d.ps pTy l).bind fun p => (pTy p.2).bind fun t => (pN t.2).bind fun s => (pN s.2).bind fun o => (pN o.2).bind fun r =>
  (pL d.co (pIn d) r.2).bind fun c => (pL d.hs pHd c.2).bind fun h => some (⟨p.1, t.1, s.1, o.1, r.1, c.1, h.1⟩, h.2)
def pFi (d : Bd) : Pa Fi := fun l => (pL d.cs (pCl d) l).bind fun c => (pL d.ms (pMe d) c.2).bind fun m => some (⟨c.1, m.1⟩, m.2)

theorem val_of_wide (n : Int) (h : I64 n) : valN (wideL n) = n := by
  unfold valN valU wideL
  simp only [List.foldl_cons, List.foldl_nil]
  unfold I64 at h
  unfold wrap64
  omega
theorem eight {l : List Int} (h : 8 ≤ l.length) : ∃ a b c d e f g k r, l = a :: b :: c :: d :: e :: f :: g :: k :: r := by
  match l, h with
  | a :: b :: c :: d :: e :: f :: g :: k :: r, _ => exact ⟨a, b, c, d, e, f, g, k, r, rfl⟩

/-- A length that a number can tell. -/
def Fits (n : Nat) : Prop := (n : Int) ≤ 9223372036854775807
/-- Reading undoes writing. -/
def Und {α : Type} (p : Pa α) (e : α → List Int) (x : α) : Prop := ∀ r, p (e x ++ r) = some (x, r)
theorem pN_und (n : Int) (h : I64 n) : Und pN wideL n := by
  intro r
  unfold pN
  rw [if_pos (by rw [List.length_append, wide_len]; omega)]
  have h1 : (wideL n ++ r).take 8 = wideL n := rfl
  have h2 : (wideL n ++ r).drop 8 = r := rfl
  rw [h1, h2, val_of_wide n h]
theorem Bys.right {a b : List Int} (h : Bys (a ++ b)) : Bys b := fun x hx => h x (List.mem_append.2 (Or.inr hx))
theorem many_und {α : Type} {p : Pa α} {e : α → List Int} : ∀ (l : List α), (∀ x ∈ l, Und p e x) → ∀ r, pMany p l.length ((l.map e).flatten ++ r) = some (l, r)
  | [], _, r => rfl
  | x :: l, h, r => by
    have h1 := h x (List.mem_cons_self) ((l.map e).flatten ++ r)
    have h2 := many_und l (fun y hy => h y (List.mem_cons_of_mem _ hy)) r
    simp only [List.length_cons, pMany, List.map_cons, List.flatten_cons, List.append_assoc, h1, h2, Option.bind_some]
theorem pL_und {α : Type} {p : Pa α} {e : α → List Int} {most : Int} (l : List α) (hm : (l.length : Int) ≤ most) (h63 : Fits l.length) (h : ∀ x ∈ l, Und p e x) : Und (pL most p) (encL e) l := by
  intro r
  have h1 := pN_und l.length (by unfold Fits at h63; unfold I64; omega) ((l.map e).flatten ++ r)
  unfold pL encL
  rw [List.append_assoc, h1, Option.bind_some]
  simp only
  rw [if_pos ⟨by omega, hm⟩]
  have : (l.length : Int).toNat = l.length := by omega
  rw [this]
  exact many_und l h r
theorem pTy_und (t : Ty) (h : I64 t.kind ∧ I64 t.cls) : Und pTy encTy t := by
  intro r
  simp only [pTy, encTy, List.append_assoc, pN_und t.kind h.1 _, pN_und t.cls h.2 _, Option.bind_some]
def Cl.good (d : Bd) (c : Cl) : Prop := I64 c.super ∧ (c.fields.length : Int) ≤ d.fs ∧ Fits c.fields.length ∧ ∀ t ∈ c.fields, I64 t.kind ∧ I64 t.cls
def In.good (d : Bd) (i : In) : Prop := i.ok ∧ (i.args.length : Int) ≤ d.gs ∧ Fits i.args.length ∧ ∀ t ∈ i.args, I64 t
def Me.good (d : Bd) (m : Me) : Prop := m.ok ∧ ((m.params.length : Int) ≤ d.ps ∧ Fits m.params.length ∧ ∀ t ∈ m.params, I64 t.kind ∧ I64 t.cls)
  ∧ ((m.code.length : Int) ≤ d.co ∧ Fits m.code.length ∧ ∀ i ∈ m.code, i.good d) ∧ ((m.hands.length : Int) ≤ d.hs ∧ Fits m.hands.length ∧ ∀ h ∈ m.hands, h.ok)
def Fi.good (d : Bd) (f : Fi) : Prop := ((f.classes.length : Int) ≤ d.cs ∧ Fits f.classes.length ∧ ∀ c ∈ f.classes, c.good d) ∧ ((f.methods.length : Int) ≤ d.ms ∧ Fits f.methods.length ∧ ∀ m ∈ f.methods, m.good d)
theorem pCl_und (d : Bd) (c : Cl) (h : c.good d) : Und (pCl d) encCl c := by
  intro r
  obtain ⟨h1, h2, h3, h4⟩ := h
  have hf : pL d.fs pTy (encL encTy c.fields ++ r) = some (c.fields, r) := pL_und (p := pTy) (e := encTy) c.fields h2 h3 (fun t ht => pTy_und t (h4 t ht)) r
  have e1 : pN (wideL c.super ++ (encL encTy c.fields ++ r)) = some (c.super, encL encTy c.fields ++ r) := pN_und c.super h1 _
  unfold pCl encCl
  rw [List.append_assoc, e1, Option.bind_some, hf, Option.bind_some]
theorem pIn_und (d : Bd) (i : In) (h : i.good d) : Und (pIn d) encIn i := by
  intro r
  obtain ⟨⟨h1, h2, h3, h4, h5⟩, h6, h7, h8⟩ := h
  have hf : pL d.gs pN (encL wideL i.args ++ r) = some (i.args, r) := pL_und (p := pN) (e := wideL) i.args h6 h7 (fun t ht => pN_und t (h8 t ht)) r
  have e : ∀ n, I64 n → ∀ r, pN (wideL n ++ r) = some (n, r) := fun n hn r => pN_und n hn r
  unfold pIn encIn
  simp only [List.append_assoc]
  rw [e _ h1, Option.bind_some, e _ h2, Option.bind_some, e _ h3, Option.bind_some, e _ h4, Option.bind_some, e _ h5, Option.bind_some, hf, Option.bind_some]
theorem pHd_und (h : Hd) (k : h.ok) : Und pHd encHd h := by
  intro r
  obtain ⟨h1, h2, h3, h4⟩ := k
  simp only [pHd, encHd, List.append_assoc, pN_und _ h1 _, pN_und _ h2 _, pN_und _ h3 _, pN_und _ h4 _, Option.bind_some]
theorem pMe_und (d : Bd) (m : Me) (h : m.good d) : Und (pMe d) encMe m := by
  intro r
  obtain ⟨⟨h1, h2, h3, h4, h5⟩, ⟨p1, p2, p3⟩, ⟨c1, c2, c3⟩, k1, k2, k3⟩ := h
  have hp : ∀ r, pL d.ps pTy (encL encTy m.params ++ r) = some (m.params, r) := fun r => pL_und (p := pTy) (e := encTy) m.params p1 p2 (fun t ht => pTy_und t (p3 t ht)) r
  have hc : ∀ r, pL d.co (pIn d) (encL encIn m.code ++ r) = some (m.code, r) := fun r => pL_und (p := pIn d) (e := encIn) m.code c1 c2 (fun t ht => pIn_und d t (c3 t ht)) r
  have hh : ∀ r, pL d.hs pHd (encL encHd m.hands ++ r) = some (m.hands, r) := fun r => pL_und (p := pHd) (e := encHd) m.hands k1 k2 (fun t ht => pHd_und t (k3 t ht)) r
  have ht : ∀ r, pTy (encTy m.ret ++ r) = some (m.ret, r) := fun r => pTy_und m.ret ⟨h1, h2⟩ r
  have e : ∀ n, I64 n → ∀ r, pN (wideL n ++ r) = some (n, r) := fun n hn r => pN_und n hn r
  unfold pMe encMe
  simp only [List.append_assoc]
  rw [hp, Option.bind_some, ht, Option.bind_some, e _ h3, Option.bind_some, e _ h4, Option.bind_some, e _ h5, Option.bind_some, hc, Option.bind_some, hh, Option.bind_some]
theorem pFi_und (d : Bd) (f : Fi) (h : f.good d) : Und (pFi d) encFi f := by
  intro r
  obtain ⟨⟨p1, p2, p3⟩, c1, c2, c3⟩ := h
  have hp : ∀ r, pL d.cs (pCl d) (encL encCl f.classes ++ r) = some (f.classes, r) := fun r => pL_und (p := pCl d) (e := encCl) f.classes p1 p2 (fun t ht => pCl_und d t (p3 t ht)) r
  have hc : ∀ r, pL d.ms (pMe d) (encL encMe f.methods ++ r) = some (f.methods, r) := fun r => pL_und (p := pMe d) (e := encMe) f.methods c1 c2 (fun t ht => pMe_und d t (c3 t ht)) r
  unfold pFi encFi
  rw [List.append_assoc, hp, Option.bind_some, hc, Option.bind_some]
end Go.Proofs.Ytgiiapenmjollac
