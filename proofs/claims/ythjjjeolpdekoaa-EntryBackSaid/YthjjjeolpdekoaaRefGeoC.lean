/- Contracts of the reference's Inode, Block, Log, Upper (layer 6). -/
import Derived.Test.YthjjjeolpdekoaaRefGeoB
namespace Go.Proofs.Ythjjjeolpdekoaa
open Go.RowKit Plain

theorem start_lt {a b c d k : Int} (h : startZ a b c d k < 0) : startZ a b c d k = -1 ∧ ¬ (geoB a b c d = true ∧ 0 ≤ k ∧ k ≤ a) := by
  by_cases hh : geoB a b c d = true ∧ 0 ≤ k ∧ k ≤ a
  · have := start_bound hh.1 hh.2.1 hh.2.2
    omega
  · exact ⟨start_no hh, hh⟩
theorem start_ge {a b c d k : Int} (h : ¬ startZ a b c d k < 0) : geoB a b c d = true ∧ 0 ≤ k ∧ k ≤ a := by
  by_cases hh : geoB a b c d = true ∧ 0 ≤ k ∧ k ≤ a
  · exact hh
  · rw [start_no hh] at h
    omega

end Go.Proofs.Ythjjjeolpdekoaa
