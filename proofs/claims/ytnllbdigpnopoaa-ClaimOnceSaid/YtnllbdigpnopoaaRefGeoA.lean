/- Contracts of the reference's Check and Layer (layer 6). -/
import Derived.Test.YtnllbdigpnopoaaRows
import Derived.Test.YtnllbdigpnopoaaMemS
import Derived.IntWalk
namespace Go.Proofs.Ytnllbdigpnopoaa
open Go.RowKit

/-- May the layout be? -/
def geoB (a b c d : Int) : Bool := decide ((1 ≤ a ∧ a ≤ 3 ∧ 4 ≤ b ∧ b ≤ 24) ∧ (1 ≤ c ∧ c ≤ 60 ∧ 1 ≤ d ∧ d ≤ 64))
def geoE (a b c d : Int) : Int := if geoB a b c d = true then 0 else 1
/-- A layout. -/
def geoV (a b c d : Int) : Value := .agg #[.int .i64 a, .int .i64 b, .int .i64 c, .int .i64 d]
/-- It returns this, and nothing that was there has turned. -/
def VRet (w : World) (v : Value) (x : Ending) (w' : World) : Prop := x = .returned v ∧ Below w.heap.size w w'
theorem VRet.of {w w' : World} {v : Value} (h : Below w.heap.size w w') : VRet w v (.returned v) w' := ⟨rfl, h⟩
theorem VRet.eq {w w' : World} {u v : Value} (e : u = v) (h : Below w.heap.size w w') : VRet w v (.returned u) w' := ⟨by rw [e], h⟩
theorem geo_no {a b c d : Int} (h : ¬ ((1 ≤ a ∧ a ≤ 3 ∧ 4 ≤ b ∧ b ≤ 24) ∧ (1 ≤ c ∧ c ≤ 60 ∧ 1 ≤ d ∧ d ≤ 64))) : geoB a b c d = false := by simpa [geoB] using h
theorem geo_yes {a b c d : Int} (h : geoB a b c d = true) : (1 ≤ a ∧ a ≤ 3 ∧ 4 ≤ b ∧ b ≤ 24) ∧ (1 ≤ c ∧ c ≤ 60 ∧ 1 ≤ d ∧ d ≤ 64) := by simpa [geoB] using h

end Go.Proofs.Ytnllbdigpnopoaa
