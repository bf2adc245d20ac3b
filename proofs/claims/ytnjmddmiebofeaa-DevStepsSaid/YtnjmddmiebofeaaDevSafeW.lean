/- The walk of the law DevSafe. -/
import Derived.Test.YtnjmddmiebofeaaDevO
import Derived.Test.YtnjmddmiebofeaaMemO
namespace Go.Proofs.Ytnjmddmiebofeaa
open Go.RowKit Plain

theorem rd_far {α : Type} {E : Enc α} {w wr : World} {base n : Nat} {A : Option Addr} {l : List α} (h : RdE E w (Under w.heap.size) A n l) (hb : Below w.heap.size w wr) (hbase : w.heap.size ≤ base) : RdE E wr (Far wr base) A n l :=
  h.mono (Kept.of_below hb fun _ h => h) fun _ hb' => ⟨Nat.lt_of_lt_of_le hb' hb.size, .inl (Nat.lt_of_lt_of_le hb' hbase)⟩
theorem own_far {w wr : World} {base n c : Nat} {A : Option Addr} {l : List UInt8} (h : Own wr w.heap.size 5 A n c l) : RdE Enc.byte wr (Far wr base) A n l :=
  RdE.of_bs (B := wr.heap.size) h.bs fun hn a ha => by
    obtain ⟨g, cs, rfl, -, hr, -⟩ := h.row hn
    cases ha
    exact far_row hr (by decide) (by decide) (by decide)
end Go.Proofs.Ytnjmddmiebofeaa
