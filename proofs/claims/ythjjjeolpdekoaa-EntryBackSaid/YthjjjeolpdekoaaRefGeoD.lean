/- Contracts of the reference's Bytes and Put (layer 6). -/
import Derived.Test.YthjjjeolpdekoaaRefGeoC
import Derived.Test.YthjjjeolpdekoaaSumD
namespace Go.Proofs.Ythjjjeolpdekoaa
open Go.RowKit Plain

/-- The bytes that tell a layout. -/
def hdS (a b c d : Int) : List UInt8 := [82, 84, 66, 76, 1, UInt8.ofNat a.toNat, UInt8.ofNat b.toNat, UInt8.ofNat c.toNat, UInt8.ofNat d.toNat]
/-- The first sector. -/
def putG (a b c d : Int) : List UInt8 := if geoB a b c d = true then sealS (hdS a b c d) else []
/-- It returns bytes of its own, and an error, and nothing that was there has turned. -/
def BERet (w : World) (t : Nat) (l : List UInt8) (k : Int) (x : Ending) (w' : World) : Prop := ∃ A n c, x = .returned (.tuple #[.slice A n c, .int .i64 k]) ∧ Own w' w.heap.size t A n c l ∧ Below w.heap.size w w'
theorem hd_len (a b c d : Int) : (hdS a b c d).length = 9 := rfl
theorem byte_nat {x : Int} (h0 : 0 ≤ x) (h1 : x < 256) : Value.int .u8 x = bv (UInt8.ofNat x.toNat) := by
  simp only [bv]
  congr 1
  simp
  omega
theorem hd_cells {a b c d : Int} (h : geoB a b c d = true) : [Value.int .u8 82, .int .u8 84, .int .u8 66, .int .u8 76, .int .u8 1, .int .u8 a, .int .u8 b, .int .u8 c, .int .u8 d] = bvs (hdS a b c d) := by
  have hh := geo_yes h
  rw [byte_nat (x := a) (by omega) (by omega), byte_nat (x := b) (by omega) (by omega), byte_nat (x := c) (by omega) (by omega), byte_nat (x := d) (by omega) (by omega)]
  rfl

end Go.Proofs.Ythjjjeolpdekoaa
