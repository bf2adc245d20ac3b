/- The walk of the law PathSplits: it is true for any text and any lists of texts that are not too long together. -/
import Derived.Test.YtbdakjepdkmcdaaPathCleansW
namespace Go.Proofs.Ytbdakjepdkmcdaa
open Go.RowKit Plain

set_option maxHeartbeats 800000 in
theorem law_PathSplits {s : List UInt8} {A B : Option Addr} {n m c d : Nat} {l k : List (List UInt8)} (w : World) (ha : Rd st w w.heap.size A n l) (hb : Rd st w w.heap.size B m k) (hnc : n ≤ c) (hmd : m ≤ d) (ht : totL l ≤ 1048576) :
    Calls Try.prog 6 #[.string ⟨s.toArray⟩, .slice A n c, .slice B m d] w (LawOk w) := by
  by_cases hb3 : 300 < s.length ∨ 30 < n ∨ 30 < m
  · have hd3 : ∃ x y z : Bool, decide ((300 : Int) < (s.length : Int)) = x ∧ decide ((30 : Int) < (n : Int)) = y ∧ decide ((30 : Int) < (m : Int)) = z ∧ (x || y || z) = true := by
      refine ⟨_, _, _, rfl, rfl, rfl, ?_⟩
      rw [Bool.or_eq_true, Bool.or_eq_true, decide_eq_true_eq, decide_eq_true_eq, decide_eq_true_eq]
      omega
    obtain ⟨x, y, z, d1, d2, d3, hxyz⟩ := hd3
    clear hb3 ha hb ht hnc hmd
    cases x <;> cases y <;> cases z <;> first | (exfalso; revert hxyz; decide) | skip
    all_goals
      clear hxyz
      go_enter Try.func6, Try.ntmps6
      go_wp2_with fail
      refine (awake4_any _).mono ?_
      rintro e w' ⟨rfl, hbel⟩
      have HB := hide hbel
      clear hbel
      go_wp2_with fail
      go_ret
      exact LawOk.of HB.out
  have d1 : decide ((300 : Int) < (s.length : Int)) = false := by simp; omega
  have d2 : decide ((30 : Int) < (n : Int)) = false := by simp; omega
  have d3 : decide ((30 : Int) < (m : Int)) = false := by simp; omega
  have hs : s.length ≤ 100000 := by omega
  have hn : n ≤ 1000000 := by omega
  have hsl := (splitS_len s).1
  obtain ⟨x, hx⟩ : ∃ x, splitS s = x := ⟨_, rfl⟩
  obtain ⟨b, hbb⟩ : ∃ b, splitB s = b := ⟨_, rfl⟩
  obtain ⟨j, hj⟩ : ∃ j, joinS l = j := ⟨_, rfl⟩
  obtain ⟨g, hg⟩ : ∃ g, beginsS l k = g := ⟨_, rfl⟩
  rw [hx] at hsl
  have e1 : (b == b) = true := by simp
  have e2 : (j == j) = true := by simp
  have e3 : (g == g) = true := by simp
  have HA := hide ha
  have HBB := hide hb
  have HX := hide hx
  have HXB := hide hbb
  have HJ := hide hj
  have HG := hide hg
  have HT := hide ht
  have HSL := hide hsl
  clear ha hb hx hbb hj hg ht hsl hb3
  go_enter Try.func6, Try.ntmps6
  go_wp2_with fail
  refine (PSplit_of HX.out HXB.out _ hs).mono ?_
  rintro e w1 ⟨A1, n1, c1, rfl, hown, hbel⟩
  have HO1 := hide hown
  have HB1 := hide hbel
  clear hown hbel
  go_wp2_with fail
  refine (RSplit_any _ (by omega)).mono ?_
  rw [HX.out, HXB.out]
  rintro e w2 ⟨A2, n2, c2, rfl, hown, hbel⟩
  have HO2 := hide hown
  have HO12 := hide (HO1.out.below hbel)
  have HB2 := hide (below_step HB1.out hbel)
  clear hown hbel
  go_wp2_with fail
  refine (EqualS_b (b := true) (by simp) _ HO12.out.rd HO2.out.rd (by have := HO1.out.len; have := HSL.out; omega)).mono ?_
  rintro e w3 ⟨rfl, hbel⟩
  have HB3 := hide (below_step HB2.out hbel)
  clear hbel
  go_wp2_with fail
  refine (PJoin_any _ (HA.out.on HB3.out) hn hnc (by have := HT.out; omega)).mono ?_
  rw [HJ.out]
  unfold st
  rintro e w4 ⟨rfl, hbel⟩
  have HB4 := hide (below_step HB3.out hbel)
  clear hbel
  go_wp2_with fail
  refine (RJoin_any _ (HA.out.on HB4.out) hn (by have := HT.out; omega)).mono ?_
  rw [HJ.out]
  unfold st
  rintro e w' ⟨rfl, rfl⟩
  go_wp2_with fail
  refine (PBegins_b HG.out _ (HA.out.on HB4.out) (HBB.out.on HB4.out) hn hmd).mono ?_
  rintro e w5 ⟨rfl, hbel⟩
  have HB5 := hide (below_step HB4.out hbel)
  clear hbel
  go_wp2_with fail
  refine (RBegins_any _ (HA.out.on HB5.out) (HBB.out.on HB5.out) (by omega)).mono ?_
  rw [HG.out]
  rintro e w6 ⟨rfl, hbel⟩
  have HB6 := hide (below_step HB5.out hbel)
  clear hbel
  go_wp2_with fail
  refine (awake4_any _).mono ?_
  rintro e w7 ⟨rfl, hbel⟩
  have HB7 := hide (below_step HB6.out hbel)
  clear hbel
  go_wp2_with fail
  go_ret
  exact LawOk.of HB7.out

/-- How many bytes texts have, and one more each. -/
def totB (zs : List ByteArray) : Nat := (zs.map fun s => s.size + 1).sum
/-- A slice of texts that came in, as a row's proof opens it. -/
theorem Rd.came2 {w : World} {A : Option Addr} {len cap : Nat} {zs : List ByteArray}
    (h : (A = none ∧ len = 0 ∧ cap = 0 ∧ zs = []) ∨ ∃ x, A = some x ∧ len ≤ cap ∧ cap ≤ maxLen ∧ zs.length = cap ∧ (∀ i, i < zs.length → w.cell? (x.add i) = some (.string (zs.getD i ByteArray.empty))) ∧ ∀ s ∈ zs, s.size ≤ maxLen) :
    (∃ l, Rd st w w.heap.size A len l ∧ totL l = totB (zs.take len)) ∧ len ≤ cap := by
  rcases h with ⟨rfl, rfl, rfl, rfl⟩ | ⟨x, rfl, hl, _, hz, hcell, hsz⟩
  · exact ⟨⟨[], Rd.none_ _ _ _ _, rfl⟩, Nat.le_refl _⟩
  · refine ⟨⟨(zs.take len).map (·.data.toList), ⟨by simp; omega, fun hn => ?_⟩, ?_⟩, hl⟩
    · obtain ⟨b, off, spot⟩ := x
      have hspot : spot = none := by simpa [Addr.add] using World.cell?_spot (hcell 0 (by omega))
      subst hspot
      have hadd : ∀ i, (⟨b, off, none⟩ : Addr).add i = ⟨b, off + i, none⟩ := by
        intro i
        unfold Addr.add
        split
        · rename_i h0; subst h0; rfl
        · rfl
      refine ⟨b, off, rfl, ?_, fun i y hy => ?_⟩
      · have := block_lt_of_cell (hcell 0 (by omega))
        rwa [hadd] at this
      · simp only [List.getElem?_map, Option.map_eq_some_iff] at hy
        obtain ⟨z, hz1, rfl⟩ := hy
        rw [List.getElem?_take] at hz1
        split at hz1
        · have hi := (List.getElem?_eq_some_iff.1 hz1).1
          rw [← hadd, hcell i hi]
          simp [List.getD, hz1, st]
        · cases hz1
    · unfold totL totB
      rw [List.map_map]
      rfl
end Go.Proofs.Ytbdakjepdkmcdaa
