/- Attributes: their values (layer 9). Nothing here speaks of a program. -/
import Derived.Test.YtnehkgbdppbhiaaGreatMemF
namespace Go.Proofs.YtnehkgbdppbhiaaGreat
open Go.RowKit Plain

/-- Attributes: what there is, the marker, the redirect, the origin's layer, inode and generation, what is shown. -/
structure AttV where
  (h o : Int)
  r : List UInt8
  (l i g s : Int)
  deriving DecidableEq
def att0 : AttV := ⟨0, 0, [], 0, 0, 0, 0⟩
theorem AttV.ext_iff' {x y : AttV} : x = y ↔ x.h = y.h ∧ x.o = y.o ∧ x.r = y.r ∧ x.l = y.l ∧ x.i = y.i ∧ x.g = y.g ∧ x.s = y.s := by
  cases x; cases y; simp [AttV.mk.injEq]
end Go.Proofs.YtnehkgbdppbhiaaGreat
