/- walk: sets of names by where they stand (layer 13). -/
import Derived.Test.YtnehkgbdppbhiaaWalO
import Derived.DeepKeys4
namespace Go.Proofs.Ytnehkgbdppbhiaa
open Go.RowKit Go.Shelf Plain Go.Maps

set_option maxRecDepth 100000 in
theorem nam_laid : laidOutB Try.prog = true := by kernel_rfl
set_option maxRecDepth 100000 in
theorem nam_size1 : decide (1 ≤ Try.prog.types.size) = true := by kernel_rfl
theorem namSize : ∃ k, Try.prog.types.size + 1 = k + 1 + 1 := ⟨Try.prog.types.size - 1, by have h := of_decide_eq_true nam_size1; revert h; generalize Try.prog.types.size = z; intro h; omega⟩
set_option maxRecDepth 100000 in
theorem int_cells : Try.prog.cellsOf 3 = 1 := by kernel_rfl
section
variable {w w' : World} {b c : Nat} {f : Int × Int → Bool}
end
end Go.Proofs.Ytnehkgbdppbhiaa
