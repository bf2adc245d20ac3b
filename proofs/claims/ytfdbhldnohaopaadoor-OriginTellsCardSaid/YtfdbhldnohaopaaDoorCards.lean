/-
  DERIVED. GIVEN WITH THE SEED: THE CARDS: each row of YtfdbhldnohaopaaDoorRows.lean that lists a variable, with what it lists TIED to the program's text (the seventh form; the later family's looks); each row that meets fmt, with fmt's text TOLD by the authors' own Lean function (tested against real Go, not proved from fmt's source: count such statements apart). THE CARD IS WHAT COUNTS. Prove the row's statement (the work); the ties are given (YtfdbhldnohaopaaDoorTie.lean); close each card by the builder's one call (the guide's Derived/Test/ToyasCard.lean, 'card_holds'). Laid BY PROGRAM, IN A SANDBOX (cutbox-door.mjs). By AI agents, Wed Nov 11 2026. No macro, syntax, notation, axiom, sorry.
-/
import Derived.Test.YtfdbhldnohaopaaDoorRows
import GoSem.ClaimSeven
namespace Go.Proofs.YtfdbhldnohaopaaDoor
namespace Rows

/-- THE TIED CARD OF 'craquelurelaw22.OriginTells'. -/
def originTellsCard : Claim7 := { stood := { row := originTellsRow, standIns := [], harness := (true, "cbdec0fa522d856d6bfeec1027710797c1fd13e9dc469fa6179a509aa1cae689"), looks := false }, kinds := [], alts := [], laidByText := true, laidKinds := [.data], laidTests := true, laidLooks := .later }
def OriginTellsCardSaid : Prop := Claim7.holds Tryd.pinned (.plain (OpenSpec.ofChange originTellsSpec)) originTellsCard

/-- THE TIED CARD OF 'craquelurelaw22.OriginNone'. -/
def originNoneCard : Claim7 := { stood := { row := originNoneRow, standIns := [], harness := (true, "cbdec0fa522d856d6bfeec1027710797c1fd13e9dc469fa6179a509aa1cae689"), looks := false }, kinds := [], alts := [], laidByText := true, laidKinds := [.data], laidTests := true, laidLooks := .later }
def OriginNoneCardSaid : Prop := Claim7.holds Tryd.pinned (.plain (OpenSpec.ofChange originNoneSpec)) originNoneCard

/-- THE SECOND FORM's CARD OF 'craquelurelaw22.OriginTells'. -/
def originTellsUptoCard : Claim7 := { stood := { row := originTellsUptoRow, standIns := [], harness := (true, "cbdec0fa522d856d6bfeec1027710797c1fd13e9dc469fa6179a509aa1cae689"), looks := false }, kinds := [], alts := [], laidByText := true, laidKinds := [.data], laidTests := true, laidLooks := .later }
def OriginTellsUptoCardSaid : Prop := Claim7.holds Tryd.pinned (.plain (OpenSpec.upto originTellsSpec)) originTellsUptoCard

/-- THE SECOND FORM's CARD OF 'craquelurelaw22.OriginNone'. -/
def originNoneUptoCard : Claim7 := { stood := { row := originNoneUptoRow, standIns := [], harness := (true, "cbdec0fa522d856d6bfeec1027710797c1fd13e9dc469fa6179a509aa1cae689"), looks := false }, kinds := [], alts := [], laidByText := true, laidKinds := [.data], laidTests := true, laidLooks := .later }
def OriginNoneUptoCardSaid : Prop := Claim7.holds Tryd.pinned (.plain (OpenSpec.upto originNoneSpec)) originNoneUptoCard
end Rows
end Go.Proofs.YtfdbhldnohaopaaDoor
