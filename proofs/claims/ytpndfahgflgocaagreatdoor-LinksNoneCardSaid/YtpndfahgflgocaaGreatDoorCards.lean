/-
  DERIVED. GIVEN WITH THE SEED: THE CARDS: each row of YtpndfahgflgocaaGreatDoorRows.lean that lists a variable, with what it lists TIED to the program's text (the seventh form; the later family's looks); each row that meets fmt, with fmt's text TOLD by the authors' own Lean function (tested against real Go, not proved from fmt's source: count such statements apart). THE CARD IS WHAT COUNTS. Prove the row's statement (the work); the ties are given (YtpndfahgflgocaaGreatDoorTie.lean); close each card by the builder's one call (the guide's Derived/Test/ToyasCard.lean, 'card_holds'). Laid BY PROGRAM, IN A SANDBOX (cutbox-door.mjs). By AI agents, Wed Nov 11 2026. No macro, syntax, notation, axiom, sorry.
-/
import Derived.Test.YtpndfahgflgocaaGreatDoorRows
import GoSem.ClaimSeven
namespace Go.Proofs.YtpndfahgflgocaaGreatDoor
namespace Rows

/-- THE TIED CARD OF 'craquelurelaw23.IndexTells'. -/
def indexTellsCard : Claim7 := { stood := { row := indexTellsRow, standIns := [], harness := (true, "342e930bb43f37733b82643b8fd03d66c0c5475bf009f4396fbe430f8d31388d"), looks := true }, kinds := [], alts := [], laidByText := true, laidKinds := [.data, .data, .data, .sentinel, .sentinel, .data], laidTests := true, laidLooks := .later }
def IndexTellsCardSaid : Prop := Claim7.holds Tryz.pinned (.plain (OpenSpec.ofChange indexTellsSpec)) indexTellsCard

/-- THE TIED CARD OF 'craquelurelaw26.LinksTell'. -/
def linksTellCard : Claim7 := { stood := { row := linksTellRow, standIns := [], harness := (true, "342e930bb43f37733b82643b8fd03d66c0c5475bf009f4396fbe430f8d31388d"), looks := true }, kinds := [], alts := [], laidByText := true, laidKinds := [.data, .data, .data, .sentinel, .sentinel, .data], laidTests := true, laidLooks := .later }
def LinksTellCardSaid : Prop := Claim7.holds Tryz.pinned (.plain (OpenSpec.ofChange linksTellSpec)) linksTellCard

/-- THE TIED CARD OF 'craquelurelaw26.LinksNone'. -/
def linksNoneCard : Claim7 := { stood := { row := linksNoneRow, standIns := [], harness := (true, "342e930bb43f37733b82643b8fd03d66c0c5475bf009f4396fbe430f8d31388d"), looks := true }, kinds := [], alts := [], laidByText := true, laidKinds := [.data, .data, .data, .sentinel, .sentinel, .data], laidTests := true, laidLooks := .later }
def LinksNoneCardSaid : Prop := Claim7.holds Tryz.pinned (.plain (OpenSpec.ofChange linksNoneSpec)) linksNoneCard

/-- THE SECOND FORM's CARD OF 'craquelurelaw23.IndexTells'. -/
def indexTellsUptoCard : Claim7 := { stood := { row := indexTellsUptoRow, standIns := [], harness := (true, "342e930bb43f37733b82643b8fd03d66c0c5475bf009f4396fbe430f8d31388d"), looks := true }, kinds := [], alts := [], laidByText := true, laidKinds := [.data, .data, .data, .sentinel, .sentinel, .data], laidTests := true, laidLooks := .later }
def IndexTellsUptoCardSaid : Prop := Claim7.holds Tryz.pinned (.plain (OpenSpec.upto indexTellsSpec)) indexTellsUptoCard

/-- THE SECOND FORM's CARD OF 'craquelurelaw26.LinksTell'. -/
def linksTellUptoCard : Claim7 := { stood := { row := linksTellUptoRow, standIns := [], harness := (true, "342e930bb43f37733b82643b8fd03d66c0c5475bf009f4396fbe430f8d31388d"), looks := true }, kinds := [], alts := [], laidByText := true, laidKinds := [.data, .data, .data, .sentinel, .sentinel, .data], laidTests := true, laidLooks := .later }
def LinksTellUptoCardSaid : Prop := Claim7.holds Tryz.pinned (.plain (OpenSpec.upto linksTellSpec)) linksTellUptoCard

/-- THE SECOND FORM's CARD OF 'craquelurelaw26.LinksNone'. -/
def linksNoneUptoCard : Claim7 := { stood := { row := linksNoneUptoRow, standIns := [], harness := (true, "342e930bb43f37733b82643b8fd03d66c0c5475bf009f4396fbe430f8d31388d"), looks := true }, kinds := [], alts := [], laidByText := true, laidKinds := [.data, .data, .data, .sentinel, .sentinel, .data], laidTests := true, laidLooks := .later }
def LinksNoneUptoCardSaid : Prop := Claim7.holds Tryz.pinned (.plain (OpenSpec.upto linksNoneSpec)) linksNoneUptoCard
end Rows
end Go.Proofs.YtpndfahgflgocaaGreatDoor
