/- A slice of texts that came in. -/
import Derived.Test.YtnehkgbdppbhiaaRefNameA
namespace Go.Proofs.Ytnehkgbdppbhiaa
open Go.RowKit Plain

theorem Rd.cameS {w : World} {A : Option Addr} {len cap : Nat} {zs : List ByteArray}
    (h : (A = none ∧ len = 0 ∧ cap = 0 ∧ zs = []) ∨ ∃ x, A = some x ∧ len ≤ cap ∧ cap ≤ maxLen ∧ zs.length = cap ∧ (∀ i, i < zs.length → w.cell? (x.add i) = some (.string (zs.getD i ByteArray.empty))) ∧ ∀ s ∈ zs, s.size ≤ maxLen) :
    (∃ l, Rd st w w.heap.size A len l ∧ ∀ x ∈ l, x.length ≤ maxLen) ∧ len ≤ cap := by
  rcases h with ⟨rfl, rfl, rfl, rfl⟩ | ⟨x, rfl, hl, _, hz, hcell, hsz⟩
  · exact ⟨⟨[], Rd.none_ _ _ _ _, by simp⟩, Nat.le_refl _⟩
  · refine ⟨⟨(zs.take len).map (·.data.toList), ⟨by simp; omega, fun hn => ?_⟩, fun y hy => ?_⟩, hl⟩
    · obtain ⟨b, off, spot⟩ := x
      have hspot : spot = none := by simpa [Addr.add] using World.cell?_spot (hcell 0 (by omega))
      subst hspot
      have hadd : ∀ i, (⟨b, off, none⟩ : Addr).add i = ⟨b, off + i, none⟩ := by
        intro i
        unfold Addr.add
        split
        · rename_i h0; subst h0; rfl
        · rfl
      refine ⟨b, off, rfl, ?_, fun i y hy => ?_⟩
      · have := block_lt_of_cell (hcell 0 (by omega))
        rwa [hadd] at this
      · simp only [List.getElem?_map, Option.map_eq_some_iff] at hy
        obtain ⟨z, hz1, rfl⟩ := hy
        rw [List.getElem?_take] at hz1
        split at hz1
        · have hi := (List.getElem?_eq_some_iff.1 hz1).1
          rw [← hadd, hcell i hi]
          simp [List.getD, hz1, st]
        · cases hz1
    · obtain ⟨z, hz1, rfl⟩ := List.mem_map.1 hy
      have := hsz z (List.mem_of_mem_take hz1)
      rw [Array.length_toList]
      exact this
end Go.Proofs.Ytnehkgbdppbhiaa
