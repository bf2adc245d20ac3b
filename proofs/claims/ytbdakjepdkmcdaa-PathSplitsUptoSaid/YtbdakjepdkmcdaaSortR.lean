/- Sorted texts (layer 3): sorting by the library and striking what stands twice gives the one list in which each text stands once, rising. Nothing here speaks of a program. -/
import Derived.Test.YtbdakjepdkmcdaaSortQ
import Derived.Lib.SlicesCompact
import Derived.Sort.Row
namespace Go.Proofs.Ytbdakjepdkmcdaa.Plain
theorem less_lt {a b : List UInt8} : lessS a b = true ↔ a < b := by
  unfold lessS
  induction a generalizing b with
  | nil => cases b with
    | nil => simp [Op.bytesLess]
    | cons y s => simp [Op.bytesLess]
  | cons x r ih =>
    cases b with
    | nil => simp [Op.bytesLess]
    | cons y s => simp [Op.bytesLess, List.cons_lt_cons_iff, ih]
theorem le_not_less {a b : List UInt8} (h : a ≤ b) : lessS b a = false := by
  cases h2 : lessS b a with
  | false => rfl
  | true => exact absurd (less_lt.1 h2) h
theorem less_of_le_ne {a b : List UInt8} (h : a ≤ b) (hne : a ≠ b) : lessS a b = true := by
  cases h2 : lessS a b with
  | true => rfl
  | false => exact absurd (less_total h2 (le_not_less h)) hne
theorem compact_rising {k : List (List UInt8)} (hk : k.Pairwise fun x y => x ≤ y) : Rising (Lib.compact k) ∧ ∀ y, y ∈ Lib.compact k ↔ y ∈ k := by
  have hget : ∀ j (h : j < k.length), k.toArray[j]! = k[j] := fun j h => by simp [h]
  have hle : ∀ i j (hi : i < j) (hj : j < k.length), k[i]'(by omega) ≤ k[j] := fun i j hi hj => List.pairwise_iff_getElem.1 hk i j (by omega) hj hi
  have main : ∀ m, m ≤ k.length → Rising (Lib.compactUpTo k.toArray m) ∧ ∀ y, y ∈ Lib.compactUpTo k.toArray m ↔ ∃ j, ∃ h : j < k.length, j < m ∧ k[j] = y := by
    intro m
    induction m with
    | zero => intro _; exact ⟨by simp [Lib.compactUpTo, Rising], fun y => by simp [Lib.compactUpTo]⟩
    | succ m ih =>
      intro hm
      obtain ⟨h1, h2⟩ := ih (by omega)
      have hmk : m < k.length := by omega
      rw [Lib.compactUpTo_succ, hget m hmk]
      cases hkp : Lib.keeps k.toArray m with
      | true =>
        rw [if_pos rfl]
        refine ⟨List.pairwise_append.2 ⟨h1, List.pairwise_singleton _ _, fun a ha b hb => ?_⟩, fun y => ?_⟩
        · rw [List.mem_singleton] at hb
          subst hb
          obtain ⟨j, hj, hjm, rfl⟩ := (h2 a).1 ha
          simp only [Lib.keeps, decide_eq_true_eq] at hkp
          have hne : k[m] ≠ k[m - 1] := by
            rcases hkp with h0 | h0
            · omega
            · rwa [hget m hmk, hget (m - 1) (by omega)] at h0
          have hb1 : lessS k[m - 1] k[m] = true := less_of_le_ne (hle (m - 1) m (by omega) hmk) (fun e => hne e.symm)
          by_cases hjm1 : j = m - 1
          · subst hjm1; exact hb1
          · by_cases he : k[j] = k[m - 1]
            · rw [he]; exact hb1
            · exact less_trans (less_of_le_ne (hle j (m - 1) (by omega) (by omega)) he) hb1
        · rw [List.mem_append, List.mem_singleton, h2]
          constructor
          · rintro (⟨j, hj, hjm, rfl⟩ | rfl)
            · exact ⟨j, hj, by omega, rfl⟩
            · exact ⟨m, hmk, by omega, rfl⟩
          · rintro ⟨j, hj, hjm, rfl⟩
            by_cases hjm1 : j = m
            · subst hjm1; exact .inr rfl
            · exact .inl ⟨j, hj, by omega, rfl⟩
      | false =>
        rw [if_neg (by simp), List.append_nil]
        refine ⟨h1, fun y => ?_⟩
        rw [h2]
        simp only [Lib.keeps, decide_eq_false_iff_not, not_or, ne_eq, Decidable.not_not] at hkp
        obtain ⟨hm0, he⟩ := hkp
        rw [hget m hmk, hget (m - 1) (by omega)] at he
        constructor
        · rintro ⟨j, hj, hjm, rfl⟩
          exact ⟨j, hj, by omega, rfl⟩
        · rintro ⟨j, hj, hjm, rfl⟩
          by_cases hjm1 : j = m
          · subst hjm1; exact ⟨j - 1, by omega, by omega, he.symm⟩
          · exact ⟨j, hj, by omega, rfl⟩
  obtain ⟨a, b⟩ := main k.length (Nat.le_refl _)
  refine ⟨a, fun y => (b y).trans ⟨fun ⟨j, hj, _, e⟩ => e ▸ List.getElem_mem hj, fun h => ?_⟩⟩
  obtain ⟨j, hj, e⟩ := List.mem_iff_getElem.1 h
  exact ⟨j, hj, hj, e⟩
theorem sortS_lib (l : List (List UInt8)) : Lib.compact (l.mergeSort fun x y => decide (x ≤ y)) = sortS l := by
  have hs : (l.mergeSort fun x y => decide (x ≤ y)).Pairwise fun x y => x ≤ y := by
    have := List.pairwise_mergeSort (le := fun x y : List UInt8 => decide (x ≤ y)) (fun a b c h1 h2 => by simp only [decide_eq_true_eq] at *; exact List.le_trans h1 h2) (fun a b => by simp only [Bool.or_eq_true, decide_eq_true_eq]; exact List.le_total a b) l
    simpa using this
  obtain ⟨a, b⟩ := compact_rising hs
  exact sortS_unique a fun y => (b y).trans (List.mem_mergeSort)
end Go.Proofs.Ytbdakjepdkmcdaa.Plain
