/-
  NARROWER THAN 'FOR EVERY INPUT', by the rows' own cells (each row's printed sentence says how): OriginTells: laid · OriginNone: laid.
  DERIVED. THE GIVEN ROWS OF THIS SEAT. 2 by the template 'for every input the law returns true; each argument reads behind the call as it read before'; 0 by the template 'total and deterministic' (their statements: YtfdbhldnohaopaaDoorTotals.lean).
  GIVEN WITH THE SEED: the statements are not yours to turn. If you find one false, say at which input.
  Laid BY PROGRAM, IN A SANDBOX (cutbox-rows.mjs): the forced cells as the released guide's own fill.sh prints them over the translation a5d7b0f573614f9f… (all of the seat's roots in one cut). By AI agents, Wed Nov 11 2026. No macro, syntax, notation, axiom, sorry.
-/
import Derived.Test.YtfdbhldnohaopaaDoorChecked
import GoSem.Claim
import GoSem.ClaimJoined
import GoSem.ClaimMapViews
import Derived.JoinedTies
import Derived.KernelRfl
namespace Go.Proofs.YtfdbhldnohaopaaDoor
/- THE CELL 'sum', in the pinned program and in every row, IS THE sha256 OF THE DUMP (.gsa) THAT YtfdbhldnohaopaaDoorProg.lean LOADS. Nothing in Lean hashes anything: it is a label: what it is worth is what the hold of that sum in a sandbox is worth. -/
noncomputable def Tryd.pinned : Pinned := { name := "ytfdbhldnohaopaadoor", sum := "a5d7b0f573614f9f4c90091937e763b3a8cc4879a1ad3b3732f02b4b47aa7940", checked := Tryd.checked }
namespace Rows
def none {H : Type} : Left H := { results := [], args := [] }

/- WHAT THE LISTED PACKAGE-LEVEL VARIABLES READ AS WHEN THE CALL BEGINS. Each datum BY PROGRAM (the guide's laid-datum.mjs) off the statement by which the dump's own 'gosem.cut.vars' lays the variable. In a bare row this is a premise. The card (YtfdbhldnohaopaaDoorCards.lean) ties it to the program's text. -/
def laid_craquelure_origin_clauses {H : Type} : DataW H := .agg [.lit (.int .i64 8), .lit (.int .i64 13), .lit (.int .i64 14)]

/-- 'craquelurelaw22.OriginTells': WHATEVER THE INPUT: true; the input reads as it did. -/
def originTellsSpec : ChangeSpec := { name := "originTells", fn := fun _ => fun
  | [d1, d2] => { results := [.lit (.bool true)], args := [d1, d2] }
  | _ => none }
def originTellsRow : OpenClaim := { program := "ytfdbhldnohaopaadoor", sum := "a5d7b0f573614f9f4c90091937e763b3a8cc4879a1ad3b3732f02b4b47aa7940", func := "craquelure/craquelurelaw22.OriginTells", spec := "originTells", unfollowed := true, recurses := true, named := ["craquelure/origin.clauses"], apart := false, laid := [("craquelure/origin.clauses", laid_craquelure_origin_clauses)] }
def OriginTellsSaid : Prop := originTellsRow.holds Tryd.pinned (OpenSpec.ofChange originTellsSpec)

/-- ITS FALSE NEIGHBOUR: 'it returns false'. Refute it at one input. -/
def originTellsWrong : ChangeSpec := { name := "originTells", fn := fun _ => fun
  | [d1, d2] => { results := [.lit (.bool false)], args := [d1, d2] }
  | _ => none }
def OriginTellsWrongFalsely : Prop := originTellsRow.holds Tryd.pinned (OpenSpec.ofChange originTellsWrong)

/-- 'craquelurelaw22.OriginNone': WHATEVER THE INPUT: true; the input reads as it did. -/
def originNoneSpec : ChangeSpec := { name := "originNone", fn := fun _ => fun
  | [d] => { results := [.lit (.bool true)], args := [d] }
  | _ => none }
def originNoneRow : OpenClaim := { program := "ytfdbhldnohaopaadoor", sum := "a5d7b0f573614f9f4c90091937e763b3a8cc4879a1ad3b3732f02b4b47aa7940", func := "craquelure/craquelurelaw22.OriginNone", spec := "originNone", unfollowed := true, recurses := true, named := ["craquelure/origin.clauses"], apart := false, laid := [("craquelure/origin.clauses", laid_craquelure_origin_clauses)] }
def OriginNoneSaid : Prop := originNoneRow.holds Tryd.pinned (OpenSpec.ofChange originNoneSpec)

/-- ITS FALSE NEIGHBOUR: 'it returns false'. Refute it at one input. -/
def originNoneWrong : ChangeSpec := { name := "originNone", fn := fun _ => fun
  | [d] => { results := [.lit (.bool false)], args := [d] }
  | _ => none }
def OriginNoneWrongFalsely : Prop := originNoneRow.holds Tryd.pinned (OpenSpec.ofChange originNoneWrong)

/- THE SECOND FORM. 'bulk': how many values and letters a reading holds, each counted each time it is reached (what is shared counts as often as it is met; a slice's spare places count too). A statement '..UptoSaid' is the law's where the arguments, and the package variables that the reading takes, are together of bulk at most 1048576: NARROWER than '..Said'. Prove '..Said' where nothing that the law and all that it calls make is longer than what came in: it says more and counts as full. Else prove '..UptoSaid'. A law counts once. -/
mutual
def uptoBulk {H : Type} : DataW H → Nat
  | .lit (.string bytes) => bytes.length + 1
  | .lit _ => 1
  | .nil => 1
  | .ptr d => uptoBulk d + 1
  | .slice elems spare => uptoBulkAll elems + uptoBulkAll spare + 1
  | .agg parts => uptoBulkAll parts + 1
  | .iface _ d => uptoBulk d + 1
  | .map entries => uptoBulkEntries entries + 1
  | .held _ => 1
def uptoBulkAll {H : Type} : List (DataW H) → Nat
  | [] => 0
  | d :: r => uptoBulk d + uptoBulkAll r
def uptoBulkEntries {H : Type} : List (Lit × DataW H) → Nat
  | [] => 0
  | x :: r => uptoBulkEntry x + uptoBulkEntries r
def uptoBulkEntry {H : Type} : Lit × DataW H → Nat
  | (.string bytes, d) => bytes.length + uptoBulk d + 1
  | (_, d) => uptoBulk d + 1
 end
def uptoSmall : (H : Type) → List (DataW H) → Bool := fun _ ds => decide (uptoBulkAll ds ≤ 1048576)
def OpenSpec.upto (s : _root_.Go.ChangeSpec) : _root_.Go.OpenSpec := { _root_.Go.OpenSpec.ofChange s with cond := some uptoSmall }

/-- 'craquelurelaw22.OriginTells', WHERE WHAT IT READS IS OF BULK AT MOST 1048576: true; the input reads as it did. -/
def originTellsUptoRow : OpenClaim := { program := "ytfdbhldnohaopaadoor", sum := "a5d7b0f573614f9f4c90091937e763b3a8cc4879a1ad3b3732f02b4b47aa7940", func := "craquelure/craquelurelaw22.OriginTells", spec := "originTells", unfollowed := true, recurses := true, named := ["craquelure/origin.clauses"], apart := false, laid := [("craquelure/origin.clauses", laid_craquelure_origin_clauses)], narrowed := true }
def OriginTellsUptoSaid : Prop := originTellsUptoRow.holds Tryd.pinned (OpenSpec.upto originTellsSpec)

/-- 'craquelurelaw22.OriginNone', WHERE WHAT IT READS IS OF BULK AT MOST 1048576: true; the input reads as it did. -/
def originNoneUptoRow : OpenClaim := { program := "ytfdbhldnohaopaadoor", sum := "a5d7b0f573614f9f4c90091937e763b3a8cc4879a1ad3b3732f02b4b47aa7940", func := "craquelure/craquelurelaw22.OriginNone", spec := "originNone", unfollowed := true, recurses := true, named := ["craquelure/origin.clauses"], apart := false, laid := [("craquelure/origin.clauses", laid_craquelure_origin_clauses)], narrowed := true }
def OriginNoneUptoSaid : Prop := originNoneUptoRow.holds Tryd.pinned (OpenSpec.upto originNoneSpec)

end Rows
end Go.Proofs.YtfdbhldnohaopaaDoor
