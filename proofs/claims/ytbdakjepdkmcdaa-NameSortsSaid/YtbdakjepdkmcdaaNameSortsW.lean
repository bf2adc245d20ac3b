/- The walk of the law NameSorts: it is true for any list of texts. -/
import Derived.Test.YtbdakjepdkmcdaaNameV
import Derived.Test.YtbdakjepdkmcdaaLibSrt
import Derived.Test.YtbdakjepdkmcdaaRefNameD
namespace Go.Proofs.Ytbdakjepdkmcdaa
open Go.RowKit Plain

set_option maxHeartbeats 400000 in
theorem law_NameSorts {A : Option Addr} {m c : Nat} {l : List (List UInt8)} (w : World) (ha : Rd st w w.heap.size A m l) :
    Calls Try.prog 5 #[.slice A m c] w (LawOk w) := by
  by_cases hm : 60 < m
  · have hd : decide ((60 : Int) < (m : Int)) = true := by simp; omega
    clear ha
    go_enter Try.func5, Try.ntmps5
    go_wp2_with fail
    refine (awake3_any _).mono ?_
    rintro e w' ⟨rfl, hbel⟩
    have HB := hide hbel
    clear hbel
    go_wp2_with fail
    go_ret
    exact LawOk.of HB.out
  · have hd : decide ((60 : Int) < (m : Int)) = false := by simp; omega
    have hm' : m ≤ 1000000 := by omega
    have hsl := sortS_length l
    rw [ha.len] at hsl
    have HS := hide hsl
    have HA := hide ha
    clear ha hsl
    go_enter Try.func5, Try.ntmps5
    go_wp2_with fail
    refine (NSort_any _ HA.out hm').mono ?_
    rintro e w1 ⟨A1, c1, rfl, hown, hbel⟩
    have HO1 := hide hown
    have HB1 := hide hbel
    clear hown hbel
    go_wp2_with fail
    refine (RSort_any _ (HA.out.on HB1.out) hm').mono ?_
    rintro e w2 ⟨A2, c2, rfl, hown, hbel⟩
    have HO2 := hide hown
    have HO12 := hide (HO1.out.below hbel)
    have HB2 := hide (below_step HB1.out hbel)
    clear hown hbel
    go_wp2_with fail
    refine (EqualS_b (b := true) (by simp) _ HO12.out.rd HO2.out.rd (by have := HS.out; omega)).mono ?_
    rintro e w3 ⟨rfl, hbel⟩
    have HO13 := hide (HO12.out.below hbel)
    have HB3 := hide (below_step HB2.out hbel)
    clear hbel
    go_wp2_with fail
    refine (IsSortedS_yes _ HO13.out.rd (by have := HS.out; omega) (rising_adj (sortS_rising l).1)).mono ?_
    rintro e w4 ⟨rfl, hbel⟩
    have HO14 := hide (HO13.out.below hbel)
    have HB4 := hide (below_step HB3.out hbel)
    clear hbel
    go_wp2_with fail
    refine (NSort_any _ HO14.out.rd (by have := HS.out; omega)).mono ?_
    rw [sortS_sortS]
    rintro e w5 ⟨A5, c5, rfl, hown, hbel⟩
    have HO5 := hide hown
    have HO15 := hide (HO14.out.below hbel)
    have HB5 := hide (below_step HB4.out hbel)
    clear hown hbel
    go_wp2_with fail
    refine (EqualS_b (b := true) (by simp) _ HO5.out.rd HO15.out.rd (by have := HS.out; omega)).mono ?_
    rintro e w6 ⟨rfl, hbel⟩
    have HB6 := hide (below_step HB5.out hbel)
    clear hbel
    go_wp2_with fail
    refine (awake3_any _).mono ?_
    rintro e w7 ⟨rfl, hbel⟩
    have HB7 := hide (below_step HB6.out hbel)
    clear hbel
    go_wp2_with fail
    go_ret
    exact LawOk.of HB7.out

/-- A slice of texts that came in, as a row's proof opens it. -/
theorem Rd.came {w : World} {A : Option Addr} {len cap : Nat} {zs : List ByteArray}
    (h : (A = none ∧ len = 0 ∧ cap = 0 ∧ zs = []) ∨ ∃ x, A = some x ∧ len ≤ cap ∧ cap ≤ maxLen ∧ zs.length = cap ∧ (∀ i, i < zs.length → w.cell? (x.add i) = some (.string (zs.getD i ByteArray.empty))) ∧ ∀ s ∈ zs, s.size ≤ maxLen) :
    (∃ l, Rd st w w.heap.size A len l ∧ ∀ x ∈ l, x.length ≤ maxLen) ∧ len ≤ cap := by
  rcases h with ⟨rfl, rfl, rfl, rfl⟩ | ⟨x, rfl, hl, _, hz, hcell, hsz⟩
  · exact ⟨⟨[], Rd.none_ _ _ _ _, by simp⟩, Nat.le_refl _⟩
  · refine ⟨⟨(zs.take len).map (·.data.toList), ⟨by simp; omega, fun hn => ?_⟩, fun y hy => ?_⟩, hl⟩
    · obtain ⟨b, off, spot⟩ := x
      have hspot : spot = none := by simpa [Addr.add] using World.cell?_spot (hcell 0 (by omega))
      subst hspot
      have hadd : ∀ i, (⟨b, off, none⟩ : Addr).add i = ⟨b, off + i, none⟩ := by
        intro i
        unfold Addr.add
        split
        · rename_i h0; subst h0; rfl
        · rfl
      refine ⟨b, off, rfl, ?_, fun i y hy => ?_⟩
      · have := block_lt_of_cell (hcell 0 (by omega))
        rwa [hadd] at this
      · simp only [List.getElem?_map, Option.map_eq_some_iff] at hy
        obtain ⟨z, hz1, rfl⟩ := hy
        rw [List.getElem?_take] at hz1
        split at hz1
        · have hi := (List.getElem?_eq_some_iff.1 hz1).1
          rw [← hadd, hcell i hi]
          simp [List.getD, hz1, st]
        · cases hz1
    · obtain ⟨z, hz1, rfl⟩ := List.mem_map.1 hy
      have := hsz z (List.mem_of_mem_take hz1)
      rw [Array.length_toList]
      exact this
end Go.Proofs.Ytbdakjepdkmcdaa
