/-
  No cell of these rows narrows 'for every input' (looked for: loops, veiled, ifaces, maps, wideKeys, modest, calm, conditions, laid).
  DERIVED. THE GIVEN ROWS OF THIS SEAT. 9 by the template 'for every input the law returns true; each argument reads behind the call as it read before'; 0 by the template 'total and deterministic' (their statements: YtgiiapenmjollabGreatTotals.lean).
  GIVEN WITH THE SEED: the statements are not yours to turn. If you find one false, say at which input.
  Laid BY PROGRAM, IN A SANDBOX (cutbox-rows.mjs): the forced cells as the released guide's own fill.sh prints them over the translation b096e0c4ccb05eec… (all of the seat's roots in one cut). By AI agents, Wed Nov 11 2026. No macro, syntax, notation, axiom, sorry.
-/
import Derived.Test.YtgiiapenmjollabGreatChecked
import GoSem.Claim
import GoSem.ClaimJoined
import GoSem.ClaimMapViews
import Derived.JoinedTies
import Derived.KernelRfl
namespace Go.Proofs.YtgiiapenmjollabGreat
/- THE CELL 'sum', in the pinned program and in every row, IS THE sha256 OF THE DUMP (.gsa) THAT YtgiiapenmjollabGreatProg.lean LOADS. Nothing in Lean hashes anything: it is a label: what it is worth is what the hold of that sum in a sandbox is worth. -/
noncomputable def Tryz.pinned : Pinned := { name := "ytgiiapenmjollabgreat", sum := "b096e0c4ccb05eec9e0d5f4c83f479712d1b85c5fef331088cf7778661b50f42", checked := Tryz.checked }
namespace Rows
def none {H : Type} : Left H := { results := [], args := [] }

/-- 'crosswalkkeep.RrunLonger': WHATEVER THE INPUT: true; the input reads as it did. -/
def rrunLongerSpec : ChangeSpec := { name := "rrunLonger", fn := fun _ => fun
  | [d1, d2, d3, d4, d5, d6] => { results := [.lit (.bool true)], args := [d1, d2, d3, d4, d5, d6] }
  | _ => none }
def rrunLongerRow : OpenClaim := { program := "ytgiiapenmjollabgreat", sum := "b096e0c4ccb05eec9e0d5f4c83f479712d1b85c5fef331088cf7778661b50f42", func := "crosswalk/crosswalkkeep.RrunLonger", spec := "rrunLonger", unfollowed := true, recurses := true, plainKeys := false, apart := false }
def RrunLongerSaid : Prop := rrunLongerRow.holds Tryz.pinned (OpenSpec.ofChange rrunLongerSpec)

/-- ITS FALSE NEIGHBOUR: 'it returns false'. Refute it at one input. -/
def rrunLongerWrong : ChangeSpec := { name := "rrunLonger", fn := fun _ => fun
  | [d1, d2, d3, d4, d5, d6] => { results := [.lit (.bool false)], args := [d1, d2, d3, d4, d5, d6] }
  | _ => none }
def RrunLongerWrongFalsely : Prop := rrunLongerRow.holds Tryz.pinned (OpenSpec.ofChange rrunLongerWrong)

/-- 'crosswalklaw.RcheckTells': WHATEVER THE INPUT: true; the input reads as it did. -/
def rcheckTellsSpec : ChangeSpec := { name := "rcheckTells", fn := fun _ => fun
  | [d] => { results := [.lit (.bool true)], args := [d] }
  | _ => none }
def rcheckTellsRow : OpenClaim := { program := "ytgiiapenmjollabgreat", sum := "b096e0c4ccb05eec9e0d5f4c83f479712d1b85c5fef331088cf7778661b50f42", func := "crosswalk/crosswalklaw.RcheckTells", spec := "rcheckTells", inPlace := ["slices.overlaps[int]"], unfollowed := true, recurses := true, plainKeys := false, apart := false }
def RcheckTellsSaid : Prop := rcheckTellsRow.holds Tryz.pinned (OpenSpec.ofChange rcheckTellsSpec)

/-- ITS FALSE NEIGHBOUR: 'it returns false'. Refute it at one input. -/
def rcheckTellsWrong : ChangeSpec := { name := "rcheckTells", fn := fun _ => fun
  | [d] => { results := [.lit (.bool false)], args := [d] }
  | _ => none }
def RcheckTellsWrongFalsely : Prop := rcheckTellsRow.holds Tryz.pinned (OpenSpec.ofChange rcheckTellsWrong)

/-- 'crosswalklaw.RcheckSafe': WHATEVER THE INPUT: true; the input reads as it did. -/
def rcheckSafeSpec : ChangeSpec := { name := "rcheckSafe", fn := fun _ => fun
  | [d1, d2, d3, d4, d5] => { results := [.lit (.bool true)], args := [d1, d2, d3, d4, d5] }
  | _ => none }
def rcheckSafeRow : OpenClaim := { program := "ytgiiapenmjollabgreat", sum := "b096e0c4ccb05eec9e0d5f4c83f479712d1b85c5fef331088cf7778661b50f42", func := "crosswalk/crosswalklaw.RcheckSafe", spec := "rcheckSafe", inPlace := ["slices.overlaps[int]"], unfollowed := true, recurses := true, plainKeys := false, apart := false }
def RcheckSafeSaid : Prop := rcheckSafeRow.holds Tryz.pinned (OpenSpec.ofChange rcheckSafeSpec)

/-- ITS FALSE NEIGHBOUR: 'it returns false'. Refute it at one input. -/
def rcheckSafeWrong : ChangeSpec := { name := "rcheckSafe", fn := fun _ => fun
  | [d1, d2, d3, d4, d5] => { results := [.lit (.bool false)], args := [d1, d2, d3, d4, d5] }
  | _ => none }
def RcheckSafeWrongFalsely : Prop := rcheckSafeRow.holds Tryz.pinned (OpenSpec.ofChange rcheckSafeWrong)

/-- 'crosswalklaw.ToregMakes': WHATEVER THE INPUT: true; the input reads as it did. -/
def toregMakesSpec : ChangeSpec := { name := "toregMakes", fn := fun _ => fun
  | [d] => { results := [.lit (.bool true)], args := [d] }
  | _ => none }
def toregMakesRow : OpenClaim := { program := "ytgiiapenmjollabgreat", sum := "b096e0c4ccb05eec9e0d5f4c83f479712d1b85c5fef331088cf7778661b50f42", func := "crosswalk/crosswalklaw.ToregMakes", spec := "toregMakes", inPlace := ["slices.overlaps[int]"], unfollowed := true, recurses := true, plainKeys := false, apart := false }
def ToregMakesSaid : Prop := toregMakesRow.holds Tryz.pinned (OpenSpec.ofChange toregMakesSpec)

/-- ITS FALSE NEIGHBOUR: 'it returns false'. Refute it at one input. -/
def toregMakesWrong : ChangeSpec := { name := "toregMakes", fn := fun _ => fun
  | [d] => { results := [.lit (.bool false)], args := [d] }
  | _ => none }
def ToregMakesWrongFalsely : Prop := toregMakesRow.holds Tryz.pinned (OpenSpec.ofChange toregMakesWrong)

/-- 'crosswalklaw.ToregSame': WHATEVER THE INPUT: true; the input reads as it did. -/
def toregSameSpec : ChangeSpec := { name := "toregSame", fn := fun _ => fun
  | [d1, d2, d3, d4, d5] => { results := [.lit (.bool true)], args := [d1, d2, d3, d4, d5] }
  | _ => none }
def toregSameRow : OpenClaim := { program := "ytgiiapenmjollabgreat", sum := "b096e0c4ccb05eec9e0d5f4c83f479712d1b85c5fef331088cf7778661b50f42", func := "crosswalk/crosswalklaw.ToregSame", spec := "toregSame", inPlace := ["slices.overlaps[int]"], unfollowed := true, recurses := true, plainKeys := false, apart := false }
def ToregSameSaid : Prop := toregSameRow.holds Tryz.pinned (OpenSpec.ofChange toregSameSpec)

/-- ITS FALSE NEIGHBOUR: 'it returns false'. Refute it at one input. -/
def toregSameWrong : ChangeSpec := { name := "toregSame", fn := fun _ => fun
  | [d1, d2, d3, d4, d5] => { results := [.lit (.bool false)], args := [d1, d2, d3, d4, d5] }
  | _ => none }
def ToregSameWrongFalsely : Prop := toregSameRow.holds Tryz.pinned (OpenSpec.ofChange toregSameWrong)

/-- 'crosswalklaw.TostackMakes': WHATEVER THE INPUT: true; the input reads as it did. -/
def tostackMakesSpec : ChangeSpec := { name := "tostackMakes", fn := fun _ => fun
  | [d] => { results := [.lit (.bool true)], args := [d] }
  | _ => none }
def tostackMakesRow : OpenClaim := { program := "ytgiiapenmjollabgreat", sum := "b096e0c4ccb05eec9e0d5f4c83f479712d1b85c5fef331088cf7778661b50f42", func := "crosswalk/crosswalklaw.TostackMakes", spec := "tostackMakes", inPlace := ["slices.overlaps[int]"], unfollowed := true, recurses := true, plainKeys := false, apart := false }
def TostackMakesSaid : Prop := tostackMakesRow.holds Tryz.pinned (OpenSpec.ofChange tostackMakesSpec)

/-- ITS FALSE NEIGHBOUR: 'it returns false'. Refute it at one input. -/
def tostackMakesWrong : ChangeSpec := { name := "tostackMakes", fn := fun _ => fun
  | [d] => { results := [.lit (.bool false)], args := [d] }
  | _ => none }
def TostackMakesWrongFalsely : Prop := tostackMakesRow.holds Tryz.pinned (OpenSpec.ofChange tostackMakesWrong)

/-- 'crosswalklaw.TostackSame': WHATEVER THE INPUT: true; the input reads as it did. -/
def tostackSameSpec : ChangeSpec := { name := "tostackSame", fn := fun _ => fun
  | [d1, d2, d3, d4, d5] => { results := [.lit (.bool true)], args := [d1, d2, d3, d4, d5] }
  | _ => none }
def tostackSameRow : OpenClaim := { program := "ytgiiapenmjollabgreat", sum := "b096e0c4ccb05eec9e0d5f4c83f479712d1b85c5fef331088cf7778661b50f42", func := "crosswalk/crosswalklaw.TostackSame", spec := "tostackSame", inPlace := ["slices.overlaps[int]"], unfollowed := true, recurses := true, plainKeys := false, apart := false }
def TostackSameSaid : Prop := tostackSameRow.holds Tryz.pinned (OpenSpec.ofChange tostackSameSpec)

/-- ITS FALSE NEIGHBOUR: 'it returns false'. Refute it at one input. -/
def tostackSameWrong : ChangeSpec := { name := "tostackSame", fn := fun _ => fun
  | [d1, d2, d3, d4, d5] => { results := [.lit (.bool false)], args := [d1, d2, d3, d4, d5] }
  | _ => none }
def TostackSameWrongFalsely : Prop := tostackSameRow.holds Tryz.pinned (OpenSpec.ofChange tostackSameWrong)

/-- 'crosswalklaw.TidyMakes': WHATEVER THE INPUT: true; the input reads as it did. -/
def tidyMakesSpec : ChangeSpec := { name := "tidyMakes", fn := fun _ => fun
  | [d] => { results := [.lit (.bool true)], args := [d] }
  | _ => none }
def tidyMakesRow : OpenClaim := { program := "ytgiiapenmjollabgreat", sum := "b096e0c4ccb05eec9e0d5f4c83f479712d1b85c5fef331088cf7778661b50f42", func := "crosswalk/crosswalklaw.TidyMakes", spec := "tidyMakes", inPlace := ["slices.overlaps[int]"], unfollowed := true, recurses := true, plainKeys := false, apart := false }
def TidyMakesSaid : Prop := tidyMakesRow.holds Tryz.pinned (OpenSpec.ofChange tidyMakesSpec)

/-- ITS FALSE NEIGHBOUR: 'it returns false'. Refute it at one input. -/
def tidyMakesWrong : ChangeSpec := { name := "tidyMakes", fn := fun _ => fun
  | [d] => { results := [.lit (.bool false)], args := [d] }
  | _ => none }
def TidyMakesWrongFalsely : Prop := tidyMakesRow.holds Tryz.pinned (OpenSpec.ofChange tidyMakesWrong)

/-- 'crosswalklaw.TidySame': WHATEVER THE INPUT: true; the input reads as it did. -/
def tidySameSpec : ChangeSpec := { name := "tidySame", fn := fun _ => fun
  | [d1, d2, d3, d4, d5] => { results := [.lit (.bool true)], args := [d1, d2, d3, d4, d5] }
  | _ => none }
def tidySameRow : OpenClaim := { program := "ytgiiapenmjollabgreat", sum := "b096e0c4ccb05eec9e0d5f4c83f479712d1b85c5fef331088cf7778661b50f42", func := "crosswalk/crosswalklaw.TidySame", spec := "tidySame", inPlace := ["slices.overlaps[int]"], unfollowed := true, recurses := true, plainKeys := false, apart := false }
def TidySameSaid : Prop := tidySameRow.holds Tryz.pinned (OpenSpec.ofChange tidySameSpec)

/-- ITS FALSE NEIGHBOUR: 'it returns false'. Refute it at one input. -/
def tidySameWrong : ChangeSpec := { name := "tidySame", fn := fun _ => fun
  | [d1, d2, d3, d4, d5] => { results := [.lit (.bool false)], args := [d1, d2, d3, d4, d5] }
  | _ => none }
def TidySameWrongFalsely : Prop := tidySameRow.holds Tryz.pinned (OpenSpec.ofChange tidySameWrong)

/- THE SECOND FORM. 'bulk': how many values and letters a reading holds, each counted each time it is reached (what is shared counts as often as it is met; a slice's spare places count too). A statement '..UptoSaid' is the law's where the arguments, and the package variables that the reading takes, are together of bulk at most 1048576: NARROWER than '..Said'. Prove '..Said' where nothing that the law and all that it calls make is longer than what came in: it says more and counts as full. Else prove '..UptoSaid'. A law counts once. -/
mutual
def uptoBulk {H : Type} : DataW H → Nat
  | .lit (.string bytes) => bytes.length + 1
  | .lit _ => 1
  | .nil => 1
  | .ptr d => uptoBulk d + 1
  | .slice elems spare => uptoBulkAll elems + uptoBulkAll spare + 1
  | .agg parts => uptoBulkAll parts + 1
  | .iface _ d => uptoBulk d + 1
  | .map entries => uptoBulkEntries entries + 1
  | .held _ => 1
def uptoBulkAll {H : Type} : List (DataW H) → Nat
  | [] => 0
  | d :: r => uptoBulk d + uptoBulkAll r
def uptoBulkEntries {H : Type} : List (Lit × DataW H) → Nat
  | [] => 0
  | x :: r => uptoBulkEntry x + uptoBulkEntries r
def uptoBulkEntry {H : Type} : Lit × DataW H → Nat
  | (.string bytes, d) => bytes.length + uptoBulk d + 1
  | (_, d) => uptoBulk d + 1
 end
def uptoSmall : (H : Type) → List (DataW H) → Bool := fun _ ds => decide (uptoBulkAll ds ≤ 1048576)
def OpenSpec.upto (s : _root_.Go.ChangeSpec) : _root_.Go.OpenSpec := { _root_.Go.OpenSpec.ofChange s with cond := some uptoSmall }

/-- 'crosswalkkeep.RrunLonger', WHERE WHAT IT READS IS OF BULK AT MOST 1048576: true; the input reads as it did. -/
def rrunLongerUptoRow : OpenClaim := { program := "ytgiiapenmjollabgreat", sum := "b096e0c4ccb05eec9e0d5f4c83f479712d1b85c5fef331088cf7778661b50f42", func := "crosswalk/crosswalkkeep.RrunLonger", spec := "rrunLonger", unfollowed := true, recurses := true, plainKeys := false, apart := false, narrowed := true }
def RrunLongerUptoSaid : Prop := rrunLongerUptoRow.holds Tryz.pinned (OpenSpec.upto rrunLongerSpec)

/-- 'crosswalklaw.RcheckTells', WHERE WHAT IT READS IS OF BULK AT MOST 1048576: true; the input reads as it did. -/
def rcheckTellsUptoRow : OpenClaim := { program := "ytgiiapenmjollabgreat", sum := "b096e0c4ccb05eec9e0d5f4c83f479712d1b85c5fef331088cf7778661b50f42", func := "crosswalk/crosswalklaw.RcheckTells", spec := "rcheckTells", inPlace := ["slices.overlaps[int]"], unfollowed := true, recurses := true, plainKeys := false, apart := false, narrowed := true }
def RcheckTellsUptoSaid : Prop := rcheckTellsUptoRow.holds Tryz.pinned (OpenSpec.upto rcheckTellsSpec)

/-- 'crosswalklaw.RcheckSafe', WHERE WHAT IT READS IS OF BULK AT MOST 1048576: true; the input reads as it did. -/
def rcheckSafeUptoRow : OpenClaim := { program := "ytgiiapenmjollabgreat", sum := "b096e0c4ccb05eec9e0d5f4c83f479712d1b85c5fef331088cf7778661b50f42", func := "crosswalk/crosswalklaw.RcheckSafe", spec := "rcheckSafe", inPlace := ["slices.overlaps[int]"], unfollowed := true, recurses := true, plainKeys := false, apart := false, narrowed := true }
def RcheckSafeUptoSaid : Prop := rcheckSafeUptoRow.holds Tryz.pinned (OpenSpec.upto rcheckSafeSpec)

/-- 'crosswalklaw.ToregMakes', WHERE WHAT IT READS IS OF BULK AT MOST 1048576: true; the input reads as it did. -/
def toregMakesUptoRow : OpenClaim := { program := "ytgiiapenmjollabgreat", sum := "b096e0c4ccb05eec9e0d5f4c83f479712d1b85c5fef331088cf7778661b50f42", func := "crosswalk/crosswalklaw.ToregMakes", spec := "toregMakes", inPlace := ["slices.overlaps[int]"], unfollowed := true, recurses := true, plainKeys := false, apart := false, narrowed := true }
def ToregMakesUptoSaid : Prop := toregMakesUptoRow.holds Tryz.pinned (OpenSpec.upto toregMakesSpec)

/-- 'crosswalklaw.ToregSame', WHERE WHAT IT READS IS OF BULK AT MOST 1048576: true; the input reads as it did. -/
def toregSameUptoRow : OpenClaim := { program := "ytgiiapenmjollabgreat", sum := "b096e0c4ccb05eec9e0d5f4c83f479712d1b85c5fef331088cf7778661b50f42", func := "crosswalk/crosswalklaw.ToregSame", spec := "toregSame", inPlace := ["slices.overlaps[int]"], unfollowed := true, recurses := true, plainKeys := false, apart := false, narrowed := true }
def ToregSameUptoSaid : Prop := toregSameUptoRow.holds Tryz.pinned (OpenSpec.upto toregSameSpec)

/-- 'crosswalklaw.TostackMakes', WHERE WHAT IT READS IS OF BULK AT MOST 1048576: true; the input reads as it did. -/
def tostackMakesUptoRow : OpenClaim := { program := "ytgiiapenmjollabgreat", sum := "b096e0c4ccb05eec9e0d5f4c83f479712d1b85c5fef331088cf7778661b50f42", func := "crosswalk/crosswalklaw.TostackMakes", spec := "tostackMakes", inPlace := ["slices.overlaps[int]"], unfollowed := true, recurses := true, plainKeys := false, apart := false, narrowed := true }
def TostackMakesUptoSaid : Prop := tostackMakesUptoRow.holds Tryz.pinned (OpenSpec.upto tostackMakesSpec)

/-- 'crosswalklaw.TostackSame', WHERE WHAT IT READS IS OF BULK AT MOST 1048576: true; the input reads as it did. -/
def tostackSameUptoRow : OpenClaim := { program := "ytgiiapenmjollabgreat", sum := "b096e0c4ccb05eec9e0d5f4c83f479712d1b85c5fef331088cf7778661b50f42", func := "crosswalk/crosswalklaw.TostackSame", spec := "tostackSame", inPlace := ["slices.overlaps[int]"], unfollowed := true, recurses := true, plainKeys := false, apart := false, narrowed := true }
def TostackSameUptoSaid : Prop := tostackSameUptoRow.holds Tryz.pinned (OpenSpec.upto tostackSameSpec)

/-- 'crosswalklaw.TidyMakes', WHERE WHAT IT READS IS OF BULK AT MOST 1048576: true; the input reads as it did. -/
def tidyMakesUptoRow : OpenClaim := { program := "ytgiiapenmjollabgreat", sum := "b096e0c4ccb05eec9e0d5f4c83f479712d1b85c5fef331088cf7778661b50f42", func := "crosswalk/crosswalklaw.TidyMakes", spec := "tidyMakes", inPlace := ["slices.overlaps[int]"], unfollowed := true, recurses := true, plainKeys := false, apart := false, narrowed := true }
def TidyMakesUptoSaid : Prop := tidyMakesUptoRow.holds Tryz.pinned (OpenSpec.upto tidyMakesSpec)

/-- 'crosswalklaw.TidySame', WHERE WHAT IT READS IS OF BULK AT MOST 1048576: true; the input reads as it did. -/
def tidySameUptoRow : OpenClaim := { program := "ytgiiapenmjollabgreat", sum := "b096e0c4ccb05eec9e0d5f4c83f479712d1b85c5fef331088cf7778661b50f42", func := "crosswalk/crosswalklaw.TidySame", spec := "tidySame", inPlace := ["slices.overlaps[int]"], unfollowed := true, recurses := true, plainKeys := false, apart := false, narrowed := true }
def TidySameUptoSaid : Prop := tidySameUptoRow.holds Tryz.pinned (OpenSpec.upto tidySameSpec)

end Rows
end Go.Proofs.YtgiiapenmjollabGreat
