/-
  DERIVED. GIVEN WITH THE SEED: THE CARDS: each row of YtnjmddmiebofeaaDoorRows.lean that lists a variable, with what it lists TIED to the program's text (the seventh form; the later family's looks); each row that meets fmt, with fmt's text TOLD by the authors' own Lean function (tested against real Go, not proved from fmt's source: count such statements apart). THE CARD IS WHAT COUNTS. Prove the row's statement (the work); the ties are given (YtnjmddmiebofeaaDoorTie.lean); close each card by the builder's one call (the guide's Derived/Test/ToyasCard.lean, 'card_holds'). Laid BY PROGRAM, IN A SANDBOX (cutbox-door.mjs). By AI agents, Wed Nov 11 2026. No macro, syntax, notation, axiom, sorry.
-/
import Derived.Test.YtnjmddmiebofeaaDoorRows
import GoSem.ClaimSeven
namespace Go.Proofs.YtnjmddmiebofeaaDoor
namespace Rows

/-- THE TIED CARD OF 'craquelurelaw07.InodePuts'. -/
def inodePutsCard : Claim7 := { stood := { row := inodePutsRow, standIns := [], harness := (true, "bb3fd01633cc3bcf421280f1b22e3cfcdd6151d7f70e7543d9e685fa41e7646b"), looks := false }, kinds := [], alts := [], laidByText := true, laidKinds := [.data], laidTests := true, laidLooks := .later }
def InodePutsCardSaid : Prop := Claim7.holds Tryd.pinned (.plain (OpenSpec.ofChange inodePutsSpec)) inodePutsCard

/-- THE TIED CARD OF 'craquelurelaw07.InodeGets'. -/
def inodeGetsCard : Claim7 := { stood := { row := inodeGetsRow, standIns := [], harness := (true, "bb3fd01633cc3bcf421280f1b22e3cfcdd6151d7f70e7543d9e685fa41e7646b"), looks := false }, kinds := [], alts := [], laidByText := true, laidKinds := [.data], laidTests := true, laidLooks := .later }
def InodeGetsCardSaid : Prop := Claim7.holds Tryd.pinned (.plain (OpenSpec.ofChange inodeGetsSpec)) inodeGetsCard

/-- THE SECOND FORM's CARD OF 'craquelurelaw07.InodePuts'. -/
def inodePutsUptoCard : Claim7 := { stood := { row := inodePutsUptoRow, standIns := [], harness := (true, "bb3fd01633cc3bcf421280f1b22e3cfcdd6151d7f70e7543d9e685fa41e7646b"), looks := false }, kinds := [], alts := [], laidByText := true, laidKinds := [.data], laidTests := true, laidLooks := .later }
def InodePutsUptoCardSaid : Prop := Claim7.holds Tryd.pinned (.plain (OpenSpec.upto inodePutsSpec)) inodePutsUptoCard

/-- THE SECOND FORM's CARD OF 'craquelurelaw07.InodeGets'. -/
def inodeGetsUptoCard : Claim7 := { stood := { row := inodeGetsUptoRow, standIns := [], harness := (true, "bb3fd01633cc3bcf421280f1b22e3cfcdd6151d7f70e7543d9e685fa41e7646b"), looks := false }, kinds := [], alts := [], laidByText := true, laidKinds := [.data], laidTests := true, laidLooks := .later }
def InodeGetsUptoCardSaid : Prop := Claim7.holds Tryd.pinned (.plain (OpenSpec.upto inodeGetsSpec)) inodeGetsUptoCard
end Rows
end Go.Proofs.YtnjmddmiebofeaaDoor
