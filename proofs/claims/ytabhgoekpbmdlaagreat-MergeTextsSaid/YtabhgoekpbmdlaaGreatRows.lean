/-
  No cell of these rows narrows 'for every input' (looked for: loops, veiled, ifaces, maps, wideKeys, modest, calm, conditions, laid).
  DERIVED. THE GIVEN ROWS OF THIS SEAT. 9 by the template 'for every input the law returns true; each argument reads behind the call as it read before'; 0 by the template 'total and deterministic' (their statements: YtabhgoekpbmdlaaGreatTotals.lean).
  GIVEN WITH THE SEED: the statements are not yours to turn. If you find one false, say at which input.
  Laid BY PROGRAM, IN A SANDBOX (cutbox-rows.mjs): the forced cells as the released guide's own fill.sh prints them over the translation e3beea40535ef3ef… (all of the seat's roots in one cut). By AI agents, Wed Nov 11 2026. No macro, syntax, notation, axiom, sorry.
-/
import Derived.Test.YtabhgoekpbmdlaaGreatChecked
import GoSem.Claim
import GoSem.ClaimJoined
import GoSem.ClaimMapViews
import Derived.JoinedTies
import Derived.KernelRfl
namespace Go.Proofs.YtabhgoekpbmdlaaGreat
/- THE CELL 'sum', in the pinned program and in every row, IS THE sha256 OF THE DUMP (.gsa) THAT YtabhgoekpbmdlaaGreatProg.lean LOADS. Nothing in Lean hashes anything: it is a label: what it is worth is what the hold of that sum in a sandbox is worth. -/
noncomputable def Tryz.pinned : Pinned := { name := "ytabhgoekpbmdlaagreat", sum := "e3beea40535ef3ef673b06a5cbc9df0437ab8e5fc3db60af0ad657cd2633cb99", checked := Tryz.checked }
namespace Rows
def none {H : Type} : Left H := { results := [], args := [] }

/-- 'craquelurelaw17.ViewSteps': WHATEVER THE INPUT: true; the input reads as it did. -/
def viewStepsSpec : ChangeSpec := { name := "viewSteps", fn := fun _ => fun
  | [d1, d2, d3, d4] => { results := [.lit (.bool true)], args := [d1, d2, d3, d4] }
  | _ => none }
def viewStepsRow : OpenClaim := { program := "ytabhgoekpbmdlaagreat", sum := "e3beea40535ef3ef673b06a5cbc9df0437ab8e5fc3db60af0ad657cd2633cb99", func := "craquelure/craquelurelaw17.ViewSteps", spec := "viewSteps", inPlace := ["internal/bytealg.IndexByteString", "internal/bytealg.IndexString", "internal/abi.NoEscape", "internal/bytealg.MakeNoZero"], unfollowed := true, recurses := true, named := ["internal/bytealg.MaxLen"], plainKeys := false, apart := false }
def ViewStepsSaid : Prop := viewStepsRow.holds Tryz.pinned (OpenSpec.ofChange viewStepsSpec)

/-- ITS FALSE NEIGHBOUR: 'it returns false'. Refute it at one input. -/
def viewStepsWrong : ChangeSpec := { name := "viewSteps", fn := fun _ => fun
  | [d1, d2, d3, d4] => { results := [.lit (.bool false)], args := [d1, d2, d3, d4] }
  | _ => none }
def ViewStepsWrongFalsely : Prop := viewStepsRow.holds Tryz.pinned (OpenSpec.ofChange viewStepsWrong)

/-- 'craquelurelaw17.ViewTrees': WHATEVER THE INPUT: true; the input reads as it did. -/
def viewTreesSpec : ChangeSpec := { name := "viewTrees", fn := fun _ => fun
  | [d] => { results := [.lit (.bool true)], args := [d] }
  | _ => none }
def viewTreesRow : OpenClaim := { program := "ytabhgoekpbmdlaagreat", sum := "e3beea40535ef3ef673b06a5cbc9df0437ab8e5fc3db60af0ad657cd2633cb99", func := "craquelure/craquelurelaw17.ViewTrees", spec := "viewTrees", inPlace := ["internal/bytealg.IndexByteString", "internal/bytealg.IndexString", "internal/abi.NoEscape", "internal/bytealg.MakeNoZero"], unfollowed := true, recurses := true, named := ["internal/bytealg.MaxLen"], plainKeys := false, apart := false }
def ViewTreesSaid : Prop := viewTreesRow.holds Tryz.pinned (OpenSpec.ofChange viewTreesSpec)

/-- ITS FALSE NEIGHBOUR: 'it returns false'. Refute it at one input. -/
def viewTreesWrong : ChangeSpec := { name := "viewTrees", fn := fun _ => fun
  | [d] => { results := [.lit (.bool false)], args := [d] }
  | _ => none }
def ViewTreesWrongFalsely : Prop := viewTreesRow.holds Tryz.pinned (OpenSpec.ofChange viewTreesWrong)

/-- 'craquelurelaw17.ViewWhites': WHATEVER THE INPUT: true; the input reads as it did. -/
def viewWhitesSpec : ChangeSpec := { name := "viewWhites", fn := fun _ => fun
  | [d1, d2, d3] => { results := [.lit (.bool true)], args := [d1, d2, d3] }
  | _ => none }
def viewWhitesRow : OpenClaim := { program := "ytabhgoekpbmdlaagreat", sum := "e3beea40535ef3ef673b06a5cbc9df0437ab8e5fc3db60af0ad657cd2633cb99", func := "craquelure/craquelurelaw17.ViewWhites", spec := "viewWhites", inPlace := ["internal/bytealg.IndexByteString", "internal/bytealg.IndexString", "internal/abi.NoEscape", "internal/bytealg.MakeNoZero"], unfollowed := true, recurses := true, named := ["internal/bytealg.MaxLen"], plainKeys := false, apart := false }
def ViewWhitesSaid : Prop := viewWhitesRow.holds Tryz.pinned (OpenSpec.ofChange viewWhitesSpec)

/-- ITS FALSE NEIGHBOUR: 'it returns false'. Refute it at one input. -/
def viewWhitesWrong : ChangeSpec := { name := "viewWhites", fn := fun _ => fun
  | [d1, d2, d3] => { results := [.lit (.bool false)], args := [d1, d2, d3] }
  | _ => none }
def ViewWhitesWrongFalsely : Prop := viewWhitesRow.holds Tryz.pinned (OpenSpec.ofChange viewWhitesWrong)

/-- 'craquelurelaw18.MergeShows': WHATEVER THE INPUT: true; the input reads as it did. -/
def mergeShowsSpec : ChangeSpec := { name := "mergeShows", fn := fun _ => fun
  | [d1, d2, d3] => { results := [.lit (.bool true)], args := [d1, d2, d3] }
  | _ => none }
def mergeShowsRow : OpenClaim := { program := "ytabhgoekpbmdlaagreat", sum := "e3beea40535ef3ef673b06a5cbc9df0437ab8e5fc3db60af0ad657cd2633cb99", func := "craquelure/craquelurelaw18.MergeShows", spec := "mergeShows", inPlace := ["internal/bytealg.IndexByteString", "internal/bytealg.IndexString", "internal/abi.NoEscape", "internal/bytealg.MakeNoZero"], unfollowed := true, recurses := true, named := ["internal/bytealg.MaxLen"], plainKeys := false, apart := false }
def MergeShowsSaid : Prop := mergeShowsRow.holds Tryz.pinned (OpenSpec.ofChange mergeShowsSpec)

/-- ITS FALSE NEIGHBOUR: 'it returns false'. Refute it at one input. -/
def mergeShowsWrong : ChangeSpec := { name := "mergeShows", fn := fun _ => fun
  | [d1, d2, d3] => { results := [.lit (.bool false)], args := [d1, d2, d3] }
  | _ => none }
def MergeShowsWrongFalsely : Prop := mergeShowsRow.holds Tryz.pinned (OpenSpec.ofChange mergeShowsWrong)

/-- 'craquelurelaw18.MergeTexts': WHATEVER THE INPUT: true; the input reads as it did. -/
def mergeTextsSpec : ChangeSpec := { name := "mergeTexts", fn := fun _ => fun
  | [d1, d2, d3, d4] => { results := [.lit (.bool true)], args := [d1, d2, d3, d4] }
  | _ => none }
def mergeTextsRow : OpenClaim := { program := "ytabhgoekpbmdlaagreat", sum := "e3beea40535ef3ef673b06a5cbc9df0437ab8e5fc3db60af0ad657cd2633cb99", func := "craquelure/craquelurelaw18.MergeTexts", spec := "mergeTexts", inPlace := ["internal/bytealg.IndexByteString", "internal/bytealg.IndexString", "internal/abi.NoEscape", "internal/bytealg.MakeNoZero"], unfollowed := true, recurses := true, named := ["internal/bytealg.MaxLen"], plainKeys := false, apart := false }
def MergeTextsSaid : Prop := mergeTextsRow.holds Tryz.pinned (OpenSpec.ofChange mergeTextsSpec)

/-- ITS FALSE NEIGHBOUR: 'it returns false'. Refute it at one input. -/
def mergeTextsWrong : ChangeSpec := { name := "mergeTexts", fn := fun _ => fun
  | [d1, d2, d3, d4] => { results := [.lit (.bool false)], args := [d1, d2, d3, d4] }
  | _ => none }
def MergeTextsWrongFalsely : Prop := mergeTextsRow.holds Tryz.pinned (OpenSpec.ofChange mergeTextsWrong)

/-- 'craquelurelaw18.MergeNames': WHATEVER THE INPUT: true; the input reads as it did. -/
def mergeNamesSpec : ChangeSpec := { name := "mergeNames", fn := fun _ => fun
  | [d1, d2, d3] => { results := [.lit (.bool true)], args := [d1, d2, d3] }
  | _ => none }
def mergeNamesRow : OpenClaim := { program := "ytabhgoekpbmdlaagreat", sum := "e3beea40535ef3ef673b06a5cbc9df0437ab8e5fc3db60af0ad657cd2633cb99", func := "craquelure/craquelurelaw18.MergeNames", spec := "mergeNames", inPlace := ["internal/bytealg.IndexByteString", "internal/bytealg.IndexString", "internal/abi.NoEscape", "internal/bytealg.MakeNoZero"], unfollowed := true, recurses := true, named := ["internal/bytealg.MaxLen"], plainKeys := false, apart := false }
def MergeNamesSaid : Prop := mergeNamesRow.holds Tryz.pinned (OpenSpec.ofChange mergeNamesSpec)

/-- ITS FALSE NEIGHBOUR: 'it returns false'. Refute it at one input. -/
def mergeNamesWrong : ChangeSpec := { name := "mergeNames", fn := fun _ => fun
  | [d1, d2, d3] => { results := [.lit (.bool false)], args := [d1, d2, d3] }
  | _ => none }
def MergeNamesWrongFalsely : Prop := mergeNamesRow.holds Tryz.pinned (OpenSpec.ofChange mergeNamesWrong)

/-- 'craquelurelaw19.ShownTells': WHATEVER THE INPUT: true; the input reads as it did. -/
def shownTellsSpec : ChangeSpec := { name := "shownTells", fn := fun _ => fun
  | [d1, d2, d3] => { results := [.lit (.bool true)], args := [d1, d2, d3] }
  | _ => none }
def shownTellsRow : OpenClaim := { program := "ytabhgoekpbmdlaagreat", sum := "e3beea40535ef3ef673b06a5cbc9df0437ab8e5fc3db60af0ad657cd2633cb99", func := "craquelure/craquelurelaw19.ShownTells", spec := "shownTells", inPlace := ["internal/bytealg.IndexByteString", "internal/bytealg.IndexString", "internal/abi.NoEscape", "internal/bytealg.MakeNoZero"], unfollowed := true, recurses := true, named := ["internal/bytealg.MaxLen"], plainKeys := false, apart := false }
def ShownTellsSaid : Prop := shownTellsRow.holds Tryz.pinned (OpenSpec.ofChange shownTellsSpec)

/-- ITS FALSE NEIGHBOUR: 'it returns false'. Refute it at one input. -/
def shownTellsWrong : ChangeSpec := { name := "shownTells", fn := fun _ => fun
  | [d1, d2, d3] => { results := [.lit (.bool false)], args := [d1, d2, d3] }
  | _ => none }
def ShownTellsWrongFalsely : Prop := shownTellsRow.holds Tryz.pinned (OpenSpec.ofChange shownTellsWrong)

/-- 'craquelurelaw19.ShownOnce': WHATEVER THE INPUT: true; the input reads as it did. -/
def shownOnceSpec : ChangeSpec := { name := "shownOnce", fn := fun _ => fun
  | [d] => { results := [.lit (.bool true)], args := [d] }
  | _ => none }
def shownOnceRow : OpenClaim := { program := "ytabhgoekpbmdlaagreat", sum := "e3beea40535ef3ef673b06a5cbc9df0437ab8e5fc3db60af0ad657cd2633cb99", func := "craquelure/craquelurelaw19.ShownOnce", spec := "shownOnce", inPlace := ["internal/bytealg.IndexByteString", "internal/bytealg.IndexString", "internal/abi.NoEscape", "internal/bytealg.MakeNoZero"], unfollowed := true, recurses := true, named := ["internal/bytealg.MaxLen"], plainKeys := false, apart := false }
def ShownOnceSaid : Prop := shownOnceRow.holds Tryz.pinned (OpenSpec.ofChange shownOnceSpec)

/-- ITS FALSE NEIGHBOUR: 'it returns false'. Refute it at one input. -/
def shownOnceWrong : ChangeSpec := { name := "shownOnce", fn := fun _ => fun
  | [d] => { results := [.lit (.bool false)], args := [d] }
  | _ => none }
def ShownOnceWrongFalsely : Prop := shownOnceRow.holds Tryz.pinned (OpenSpec.ofChange shownOnceWrong)

/-- 'craquelurelaw19.ShownNames': WHATEVER THE INPUT: true; the input reads as it did. -/
def shownNamesSpec : ChangeSpec := { name := "shownNames", fn := fun _ => fun
  | [d] => { results := [.lit (.bool true)], args := [d] }
  | _ => none }
def shownNamesRow : OpenClaim := { program := "ytabhgoekpbmdlaagreat", sum := "e3beea40535ef3ef673b06a5cbc9df0437ab8e5fc3db60af0ad657cd2633cb99", func := "craquelure/craquelurelaw19.ShownNames", spec := "shownNames", inPlace := ["internal/bytealg.IndexByteString", "internal/bytealg.IndexString", "internal/abi.NoEscape", "internal/bytealg.MakeNoZero"], unfollowed := true, recurses := true, named := ["internal/bytealg.MaxLen"], plainKeys := false, apart := false }
def ShownNamesSaid : Prop := shownNamesRow.holds Tryz.pinned (OpenSpec.ofChange shownNamesSpec)

/-- ITS FALSE NEIGHBOUR: 'it returns false'. Refute it at one input. -/
def shownNamesWrong : ChangeSpec := { name := "shownNames", fn := fun _ => fun
  | [d] => { results := [.lit (.bool false)], args := [d] }
  | _ => none }
def ShownNamesWrongFalsely : Prop := shownNamesRow.holds Tryz.pinned (OpenSpec.ofChange shownNamesWrong)

/- THE SECOND FORM. 'bulk': how many values and letters a reading holds, each counted each time it is reached (what is shared counts as often as it is met; a slice's spare places count too). A statement '..UptoSaid' is the law's where the arguments, and the package variables that the reading takes, are together of bulk at most 1048576: NARROWER than '..Said'. Prove '..Said' where nothing that the law and all that it calls make is longer than what came in: it says more and counts as full. Else prove '..UptoSaid'. A law counts once. -/
mutual
def uptoBulk {H : Type} : DataW H → Nat
  | .lit (.string bytes) => bytes.length + 1
  | .lit _ => 1
  | .nil => 1
  | .ptr d => uptoBulk d + 1
  | .slice elems spare => uptoBulkAll elems + uptoBulkAll spare + 1
  | .agg parts => uptoBulkAll parts + 1
  | .iface _ d => uptoBulk d + 1
  | .map entries => uptoBulkEntries entries + 1
  | .held _ => 1
def uptoBulkAll {H : Type} : List (DataW H) → Nat
  | [] => 0
  | d :: r => uptoBulk d + uptoBulkAll r
def uptoBulkEntries {H : Type} : List (Lit × DataW H) → Nat
  | [] => 0
  | x :: r => uptoBulkEntry x + uptoBulkEntries r
def uptoBulkEntry {H : Type} : Lit × DataW H → Nat
  | (.string bytes, d) => bytes.length + uptoBulk d + 1
  | (_, d) => uptoBulk d + 1
 end
def uptoSmall : (H : Type) → List (DataW H) → Bool := fun _ ds => decide (uptoBulkAll ds ≤ 1048576)
def OpenSpec.upto (s : _root_.Go.ChangeSpec) : _root_.Go.OpenSpec := { _root_.Go.OpenSpec.ofChange s with cond := some uptoSmall }

/-- 'craquelurelaw17.ViewSteps', WHERE WHAT IT READS IS OF BULK AT MOST 1048576: true; the input reads as it did. -/
def viewStepsUptoRow : OpenClaim := { program := "ytabhgoekpbmdlaagreat", sum := "e3beea40535ef3ef673b06a5cbc9df0437ab8e5fc3db60af0ad657cd2633cb99", func := "craquelure/craquelurelaw17.ViewSteps", spec := "viewSteps", inPlace := ["internal/bytealg.IndexByteString", "internal/bytealg.IndexString", "internal/abi.NoEscape", "internal/bytealg.MakeNoZero"], unfollowed := true, recurses := true, named := ["internal/bytealg.MaxLen"], plainKeys := false, apart := false, narrowed := true }
def ViewStepsUptoSaid : Prop := viewStepsUptoRow.holds Tryz.pinned (OpenSpec.upto viewStepsSpec)

/-- 'craquelurelaw17.ViewTrees', WHERE WHAT IT READS IS OF BULK AT MOST 1048576: true; the input reads as it did. -/
def viewTreesUptoRow : OpenClaim := { program := "ytabhgoekpbmdlaagreat", sum := "e3beea40535ef3ef673b06a5cbc9df0437ab8e5fc3db60af0ad657cd2633cb99", func := "craquelure/craquelurelaw17.ViewTrees", spec := "viewTrees", inPlace := ["internal/bytealg.IndexByteString", "internal/bytealg.IndexString", "internal/abi.NoEscape", "internal/bytealg.MakeNoZero"], unfollowed := true, recurses := true, named := ["internal/bytealg.MaxLen"], plainKeys := false, apart := false, narrowed := true }
def ViewTreesUptoSaid : Prop := viewTreesUptoRow.holds Tryz.pinned (OpenSpec.upto viewTreesSpec)

/-- 'craquelurelaw17.ViewWhites', WHERE WHAT IT READS IS OF BULK AT MOST 1048576: true; the input reads as it did. -/
def viewWhitesUptoRow : OpenClaim := { program := "ytabhgoekpbmdlaagreat", sum := "e3beea40535ef3ef673b06a5cbc9df0437ab8e5fc3db60af0ad657cd2633cb99", func := "craquelure/craquelurelaw17.ViewWhites", spec := "viewWhites", inPlace := ["internal/bytealg.IndexByteString", "internal/bytealg.IndexString", "internal/abi.NoEscape", "internal/bytealg.MakeNoZero"], unfollowed := true, recurses := true, named := ["internal/bytealg.MaxLen"], plainKeys := false, apart := false, narrowed := true }
def ViewWhitesUptoSaid : Prop := viewWhitesUptoRow.holds Tryz.pinned (OpenSpec.upto viewWhitesSpec)

/-- 'craquelurelaw18.MergeShows', WHERE WHAT IT READS IS OF BULK AT MOST 1048576: true; the input reads as it did. -/
def mergeShowsUptoRow : OpenClaim := { program := "ytabhgoekpbmdlaagreat", sum := "e3beea40535ef3ef673b06a5cbc9df0437ab8e5fc3db60af0ad657cd2633cb99", func := "craquelure/craquelurelaw18.MergeShows", spec := "mergeShows", inPlace := ["internal/bytealg.IndexByteString", "internal/bytealg.IndexString", "internal/abi.NoEscape", "internal/bytealg.MakeNoZero"], unfollowed := true, recurses := true, named := ["internal/bytealg.MaxLen"], plainKeys := false, apart := false, narrowed := true }
def MergeShowsUptoSaid : Prop := mergeShowsUptoRow.holds Tryz.pinned (OpenSpec.upto mergeShowsSpec)

/-- 'craquelurelaw18.MergeTexts', WHERE WHAT IT READS IS OF BULK AT MOST 1048576: true; the input reads as it did. -/
def mergeTextsUptoRow : OpenClaim := { program := "ytabhgoekpbmdlaagreat", sum := "e3beea40535ef3ef673b06a5cbc9df0437ab8e5fc3db60af0ad657cd2633cb99", func := "craquelure/craquelurelaw18.MergeTexts", spec := "mergeTexts", inPlace := ["internal/bytealg.IndexByteString", "internal/bytealg.IndexString", "internal/abi.NoEscape", "internal/bytealg.MakeNoZero"], unfollowed := true, recurses := true, named := ["internal/bytealg.MaxLen"], plainKeys := false, apart := false, narrowed := true }
def MergeTextsUptoSaid : Prop := mergeTextsUptoRow.holds Tryz.pinned (OpenSpec.upto mergeTextsSpec)

/-- 'craquelurelaw18.MergeNames', WHERE WHAT IT READS IS OF BULK AT MOST 1048576: true; the input reads as it did. -/
def mergeNamesUptoRow : OpenClaim := { program := "ytabhgoekpbmdlaagreat", sum := "e3beea40535ef3ef673b06a5cbc9df0437ab8e5fc3db60af0ad657cd2633cb99", func := "craquelure/craquelurelaw18.MergeNames", spec := "mergeNames", inPlace := ["internal/bytealg.IndexByteString", "internal/bytealg.IndexString", "internal/abi.NoEscape", "internal/bytealg.MakeNoZero"], unfollowed := true, recurses := true, named := ["internal/bytealg.MaxLen"], plainKeys := false, apart := false, narrowed := true }
def MergeNamesUptoSaid : Prop := mergeNamesUptoRow.holds Tryz.pinned (OpenSpec.upto mergeNamesSpec)

/-- 'craquelurelaw19.ShownTells', WHERE WHAT IT READS IS OF BULK AT MOST 1048576: true; the input reads as it did. -/
def shownTellsUptoRow : OpenClaim := { program := "ytabhgoekpbmdlaagreat", sum := "e3beea40535ef3ef673b06a5cbc9df0437ab8e5fc3db60af0ad657cd2633cb99", func := "craquelure/craquelurelaw19.ShownTells", spec := "shownTells", inPlace := ["internal/bytealg.IndexByteString", "internal/bytealg.IndexString", "internal/abi.NoEscape", "internal/bytealg.MakeNoZero"], unfollowed := true, recurses := true, named := ["internal/bytealg.MaxLen"], plainKeys := false, apart := false, narrowed := true }
def ShownTellsUptoSaid : Prop := shownTellsUptoRow.holds Tryz.pinned (OpenSpec.upto shownTellsSpec)

/-- 'craquelurelaw19.ShownOnce', WHERE WHAT IT READS IS OF BULK AT MOST 1048576: true; the input reads as it did. -/
def shownOnceUptoRow : OpenClaim := { program := "ytabhgoekpbmdlaagreat", sum := "e3beea40535ef3ef673b06a5cbc9df0437ab8e5fc3db60af0ad657cd2633cb99", func := "craquelure/craquelurelaw19.ShownOnce", spec := "shownOnce", inPlace := ["internal/bytealg.IndexByteString", "internal/bytealg.IndexString", "internal/abi.NoEscape", "internal/bytealg.MakeNoZero"], unfollowed := true, recurses := true, named := ["internal/bytealg.MaxLen"], plainKeys := false, apart := false, narrowed := true }
def ShownOnceUptoSaid : Prop := shownOnceUptoRow.holds Tryz.pinned (OpenSpec.upto shownOnceSpec)

/-- 'craquelurelaw19.ShownNames', WHERE WHAT IT READS IS OF BULK AT MOST 1048576: true; the input reads as it did. -/
def shownNamesUptoRow : OpenClaim := { program := "ytabhgoekpbmdlaagreat", sum := "e3beea40535ef3ef673b06a5cbc9df0437ab8e5fc3db60af0ad657cd2633cb99", func := "craquelure/craquelurelaw19.ShownNames", spec := "shownNames", inPlace := ["internal/bytealg.IndexByteString", "internal/bytealg.IndexString", "internal/abi.NoEscape", "internal/bytealg.MakeNoZero"], unfollowed := true, recurses := true, named := ["internal/bytealg.MaxLen"], plainKeys := false, apart := false, narrowed := true }
def ShownNamesUptoSaid : Prop := shownNamesUptoRow.holds Tryz.pinned (OpenSpec.upto shownNamesSpec)

end Rows
end Go.Proofs.YtabhgoekpbmdlaaGreat
