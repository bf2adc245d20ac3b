/- Contracts of the reference's Total, Start, Inode, Block, Log, Upper (layer 6). -/
import Derived.Test.YthjjjeolpdekoaaRefGeoA
import Derived.Deep.RegionHeld3
namespace Go.Proofs.Ythjjjeolpdekoaa
open Go.RowKit Plain

/-- How many sectors there are. -/
def totZ (a b c d : Int) : Int := if geoB a b c d = true then 1 + (a + 1) * (1 + b + c) + d else 0
/-- Where a layer begins. -/
def startZ (a b c d k : Int) : Int := if geoB a b c d = true ∧ 0 ≤ k ∧ k ≤ a then (if k = 0 then 1 + a * (1 + b + c) else 1 + (k - 1) * (1 + b + c)) else -1
def inodeZ (a b c d k i : Int) : Int := if (geoB a b c d = true ∧ 0 ≤ k ∧ k ≤ a) ∧ 1 ≤ i ∧ i ≤ b then startZ a b c d k + i else -1
def blockZ (a b c d k i : Int) : Int := if (geoB a b c d = true ∧ 0 ≤ k ∧ k ≤ a) ∧ 0 ≤ i ∧ i < c then startZ a b c d k + 1 + b + i else -1
def logZ (a b c d : Int) : Int := if geoB a b c d = true then totZ a b c d - d else -1
def upperB (a b c d i : Int) : Bool := geoB a b c d && (decide (startZ a b c d 0 ≤ i) && decide (i < logZ a b c d))
theorem lay_bound {a b c d : Int} (h : geoB a b c d = true) (k : Int) (h0 : 0 ≤ k) (h1 : k ≤ 4) : 0 ≤ k * (1 + b + c) ∧ k * (1 + b + c) ≤ 340 := by
  have hh := geo_yes h
  have hl : 6 ≤ 1 + b + c ∧ 1 + b + c ≤ 85 := by omega
  have h2 : 0 ≤ k * (1 + b + c) := Int.mul_nonneg h0 (by omega)
  have h3 : k * (1 + b + c) ≤ 4 * 85 := Int.mul_le_mul h1 hl.2 (by omega) (by omega)
  exact ⟨h2, by omega⟩
theorem geoE_yes {a b c d : Int} (h : geoB a b c d = true) : geoE a b c d = 0 := by unfold geoE; rw [if_pos h]
theorem geoE_no {a b c d : Int} (h : geoB a b c d = false) : geoE a b c d = 1 := by unfold geoE; rw [h]; rfl
theorem tot_bound {a b c d : Int} (h : geoB a b c d = true) : 1 ≤ totZ a b c d ∧ totZ a b c d ≤ 405 ∧ totZ a b c d = 1 + (a + 1) * (1 + b + c) + d := by
  have hh := geo_yes h
  obtain ⟨k1, k2⟩ := lay_bound h (a + 1) (by omega) (by omega)
  have e : totZ a b c d = 1 + (a + 1) * (1 + b + c) + d := by unfold totZ; rw [if_pos h]
  omega
theorem start_bound {a b c d k : Int} (h : geoB a b c d = true) (h0 : 0 ≤ k) (h1 : k ≤ a) : 1 ≤ startZ a b c d k ∧ startZ a b c d k ≤ 341 := by
  have hh := geo_yes h
  unfold startZ
  rw [if_pos ⟨h, h0, h1⟩]
  split
  · have := lay_bound h a (by omega) (by omega); omega
  · have := lay_bound h (k - 1) (by omega) (by omega); omega
theorem start_no {a b c d k : Int} (h : ¬ (geoB a b c d = true ∧ 0 ≤ k ∧ k ≤ a)) : startZ a b c d k = -1 := by unfold startZ; rw [if_neg h]
/-- Four cells, and all that was there ahead, behind a call that turns nothing. -/
theorem held4 {w1 W W' : World} {g : Nat} {a b c d : Value} (hbel : Below W.heap.size W W') (hg : g < w1.heap.size)
    (h : Below w1.heap.size w1 W ∧ W.cell? ⟨g, 0, none⟩ = some a ∧ W.cell? ⟨g, 1, none⟩ = some b ∧ W.cell? ⟨g, 2, none⟩ = some c ∧ W.cell? ⟨g, 3, none⟩ = some d) :
    Below w1.heap.size w1 W' ∧ W'.cell? ⟨g, 0, none⟩ = some a ∧ W'.cell? ⟨g, 1, none⟩ = some b ∧ W'.cell? ⟨g, 2, none⟩ = some c ∧ W'.cell? ⟨g, 3, none⟩ = some d := by
  obtain ⟨h0, h1, h2, h3, h4⟩ := h
  have hlt : g < W.heap.size := by have := h0.size; omega
  exact ⟨below_step h0 hbel, (hbel.cell (p := ⟨g, 0, none⟩) hlt).trans h1, (hbel.cell (p := ⟨g, 1, none⟩) hlt).trans h2, (hbel.cell (p := ⟨g, 2, none⟩) hlt).trans h3, (hbel.cell (p := ⟨g, 3, none⟩) hlt).trans h4⟩

end Go.Proofs.Ythjjjeolpdekoaa
