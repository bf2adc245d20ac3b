/- Ints that came in, opened as RdE. -/
import Derived.Test.YtalhkcheglbolaaPlnB
namespace Go.Proofs.Ytalhkcheglbolaa
open Go.RowKit Go.Shelf Plain Go.WideShapes Go.ChangeShapes
theorem open_intE {H : Type} {enc : TypeId × Value → H} {w : World} {spare : Nat → Bool} {held : Bool} {fuel : Nat} {cs : List Value} {x : DataW H × List MemPlace} (h : DataW.trod enc Try.prog w 0 spare held fuel 25 cs = some x) :
    ∃ A n c l, cs = [.slice A n c] ∧ n ≤ c ∧ RdE Enc.int w (Under w.heap.size) A n l :=
  open_rde (e := 3) Enc.int Try.underlying25 (by kernel_rfl) (by decide) (fun _ cs _ hl hy => by
    obtain ⟨c, rfl⟩ := one_cell hl
    obtain ⟨a, rfl⟩ := cell_i64 hy
    exact ⟨a, rfl⟩) h
end Go.Proofs.Ytalhkcheglbolaa
