/-
  No file may be on a stack and on registers, both: a plain fact.
-/
import Derived.Test.YtgiiapenmjollaaRegPlain
namespace Go.Proofs.Ytgiiapenmjollaa
open Go.RowKit

theorem forms_apart (f : Fi) (h : smayB f = true) (k : rfmayB f = true) : False := by
  unfold smayB at h; unfold rfmayB at k
  simp only [Bool.and_eq_true, decide_eq_true_eq] at h k
  have h1 : 0 < f.methods.length := by omega
  have hs := List.all_eq_true.1 h.2 _ (nth_mem (d := me0) h1)
  have hr := List.all_eq_true.1 k.2 _ (nth_mem (d := me0) h1)
  unfold smeB at hs; unfold rmeB at hr
  simp only [Bool.and_eq_true, decide_eq_true_eq] at hs hr
  omega

end Go.Proofs.Ytgiiapenmjollaa
