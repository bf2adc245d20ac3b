/- The contract of bytes.Equal. -/
import Derived.Test.YthjjjeolpdekoaaRows
import Derived.Test.YthjjjeolpdekoaaMemS
namespace Go.Proofs.Ythjjjeolpdekoaa
open Go.RowKit

set_option maxHeartbeats 400000 in
theorem BEqual_any {A B : Option Addr} {n m c d : Nat} {l k : List UInt8} {W1 W2 : Nat} (w : World) (ha : Bs w W1 A n l) (hb : Bs w W2 B m k) :
    Calls Try.prog 16 #[.slice A n c, .slice B m d] w fun e w' => e = .returned (.bool (l == k)) ∧ w = w' := by
  have ra := run_string_Bs (P := Try.prog) w 24 5 9 Try.underlying24 Try.underlying5 Try.underlying9 (c := c) ha
  have rb := run_string_Bs (P := Try.prog) w 24 5 9 Try.underlying24 Try.underlying5 Try.underlying9 (c := d) hb
  clear ha hb
  go_enter Try.func16, Try.ntmps16
  go_wp2
  go_ret
  exact ⟨rfl, rfl⟩
theorem BEqual_b {A B : Option Addr} {n m c d : Nat} {l k : List UInt8} {b : Bool} {W1 W2 : Nat} (w : World) (ha : Bs w W1 A n l) (hb : Bs w W2 B m k) (h : (l == k) = b) :
    Calls Try.prog 16 #[.slice A n c, .slice B m d] w fun e w' => e = .returned (.bool b) ∧ w = w' := by
  have := BEqual_any (c := c) (d := d) w ha hb; rw [h] at this; exact this
end Go.Proofs.Ythjjjeolpdekoaa
