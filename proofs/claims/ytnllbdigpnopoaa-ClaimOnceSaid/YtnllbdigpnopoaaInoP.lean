/- An inode's values. Nothing here speaks of a program. -/
import Derived.Test.YtnllbdigpnopoaaPlain
namespace Go.Proofs.Ytnllbdigpnopoaa
/-- An inode's numbers. -/
structure InoV where
  (k i n g s p q r t a : Int)
  deriving DecidableEq
def ino0 : InoV := ⟨0, 0, 0, 0, 0, 0, 0, 0, 0, 0⟩
theorem InoV.ext_iff' {x y : InoV} : x = y ↔ x.k = y.k ∧ x.i = y.i ∧ x.n = y.n ∧ x.g = y.g ∧ x.s = y.s ∧ x.p = y.p ∧ x.q = y.q ∧ x.r = y.r ∧ x.t = y.t ∧ x.a = y.a := by
  cases x; cases y; simp [InoV.mk.injEq]
end Go.Proofs.Ytnllbdigpnopoaa
