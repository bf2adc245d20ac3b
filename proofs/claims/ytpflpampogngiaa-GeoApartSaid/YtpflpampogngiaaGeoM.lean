/- The plain mathematics of the law GeoApart: where the layers lie, and which sectors have been seen. -/
import Derived.Test.YtpflpampogngiaaGeoE
namespace Go.Proofs.Ytpflpampogngiaa
open Go.RowKit Plain

def sN (a b c k : Nat) : Nat := if k = 0 then 1 + a * (1 + b + c) else 1 + (k - 1) * (1 + b + c)
def inL (s m x : Nat) : Bool := decide (s ≤ x) && decide (x < s + m)
/-- Has it been seen: all of the layers ahead of k, and the first i of that one? -/
def seenB (a b c k i x : Nat) : Bool := (List.range k).any (fun j => inL (sN a b c j) (1 + b + c) x) || inL (sN a b c k) i x
def seenV (a b c k i x : Nat) : Value := if seenB a b c k i x = true then .int .i64 1 else .int .i64 0
def seenC (a b c n k i : Nat) : List Value := (List.range n).map (seenV a b c k i)
def seqL (s m : Nat) : List Int := (List.range m).map fun j => ((s + j : Nat) : Int)

section
variable {a b c d k i x : Nat}
theorem geoN (h : geoB a b c d = true) : 1 ≤ a ∧ a ≤ 3 ∧ 4 ≤ b ∧ b ≤ 24 ∧ 1 ≤ c ∧ c ≤ 60 ∧ 1 ≤ d ∧ d ≤ 64 := by
  have := geo_yes h
  omega
theorem sN_start (h : geoB a b c d = true) (hk : k ≤ a) : startZ a b c d k = (sN a b c k : Nat) := by
  unfold startZ sN
  rw [if_pos ⟨h, by omega, by omega⟩]
  by_cases h0 : k = 0
  · rw [if_pos (by omega), if_pos h0]
    push_cast
    rfl
  · rw [if_neg (by omega), if_neg h0]
    push_cast
    congr 2
    omega
def logN (a b c : Nat) : Nat := 1 + (a + 1) * (1 + b + c)
theorem logN_eq (h : geoB a b c d = true) : logZ a b c d = (logN a b c : Nat) := by
  have h2 := tot_bound h
  unfold logZ logN
  rw [if_pos h, h2.2.2]
  push_cast
  omega
theorem totN_eq (h : geoB a b c d = true) : totZ a b c d = ((logN a b c + d : Nat) : Int) := by
  have h2 := (log_bound h).2.2
  rw [h2, logN_eq h]
  push_cast
  rfl
theorem sN_bound (h : geoB a b c d = true) (hk : k ≤ a) : 1 ≤ sN a b c k ∧ sN a b c k + (1 + b + c) ≤ logN a b c ∧ logN a b c ≤ 341 := by
  obtain ⟨h1, h2, h3, h4, h5, h6, _⟩ := geoN h
  have ha : a = 1 ∨ a = 2 ∨ a = 3 := by omega
  have hk' : k = 0 ∨ k = 1 ∨ k = 2 ∨ k = 3 := by omega
  rcases ha with rfl | rfl | rfl <;> rcases hk' with rfl | rfl | rfl | rfl <;> simp [sN, logN] <;> omega
theorem sN_apart (h : geoB a b c d = true) (hk : k ≤ a) {j : Nat} (hj : j < k) (hi : i < 1 + b + c) : inL (sN a b c j) (1 + b + c) (sN a b c k + i) = false := by
  obtain ⟨h1, h2, h3, h4, h5, h6, _⟩ := geoN h
  have ha : a = 1 ∨ a = 2 ∨ a = 3 := by omega
  have hk' : k = 1 ∨ k = 2 ∨ k = 3 := by omega
  have hj' : j = 0 ∨ j = 1 ∨ j = 2 := by omega
  rcases ha with rfl | rfl | rfl <;> rcases hk' with rfl | rfl | rfl <;> rcases hj' with rfl | rfl | rfl <;> simp [sN, inL] <;> omega
theorem seen_no (h : geoB a b c d = true) (hk : k ≤ a) (hi : i < 1 + b + c) : seenB a b c k i (sN a b c k + i) = false := by
  unfold seenB
  rw [Bool.or_eq_false_iff]
  constructor
  · rw [List.any_eq_false]
    intro j hj
    rw [sN_apart h hk (by simpa using hj) hi]
    simp
  · simp [inL]
theorem seen_succ : seenB a b c k (i + 1) x = (seenB a b c k i x || x == sN a b c k + i) := by
  unfold seenB
  rw [Bool.or_assoc]
  congr 1
  rw [Bool.eq_iff_iff]
  simp [inL]
  omega
theorem seen_next : seenB a b c k (1 + b + c) x = seenB a b c (k + 1) 0 x := by
  unfold seenB
  rw [List.range_succ, List.any_append]
  simp [inL]
  intro h1 h2
  omega
theorem seen_all (h : geoB a b c d = true) (hx : 1 ≤ x) (hl : x < logN a b c) : seenB a b c (a + 1) 0 x = true := by
  obtain ⟨h1, h2, h3, h4, h5, h6, _⟩ := geoN h
  have ha : a = 1 ∨ a = 2 ∨ a = 3 := by omega
  unfold seenB
  rcases ha with rfl | rfl | rfl <;> simp [List.range_succ, sN, inL, logN] at hl ⊢ <;> omega
theorem seenC_length (n : Nat) : (seenC a b c n k i).length = n := by simp [seenC]
theorem seenC_get {n : Nat} (hx : x < n) : (seenC a b c n k i)[x]? = some (seenV a b c k i x) := by simp [seenC, hx]
theorem seenC_set {n : Nat} : (seenC a b c n k i).set (sN a b c k + i) (.int .i64 1) = seenC a b c n k (i + 1) := by
  apply List.ext_getElem?
  intro j
  rw [List.getElem?_set]
  by_cases hj : j < n
  · rw [seenC_get hj]
    by_cases e : sN a b c k + i = j
    · subst e
      rw [if_pos rfl, if_pos (by rw [seenC_length]; exact hj), seenC_get hj]
      unfold seenV
      rw [seen_succ]
      simp
    · rw [if_neg e, seenC_get hj]
      unfold seenV
      rw [seen_succ]
      have : (j == sN a b c k + i) = false := by simp; omega
      rw [this, Bool.or_false]
  · have e1 : (seenC a b c n k (i + 1))[j]? = none := List.getElem?_eq_none (by rw [seenC_length]; omega)
    have e2 : (seenC a b c n k i)[j]? = none := List.getElem?_eq_none (by rw [seenC_length]; omega)
    rw [e1, e2]
    split
    · split
      · rename_i e hlt
        rw [seenC_length] at hlt
        omega
      · rfl
    · rfl
theorem seenC_next {n : Nat} : seenC a b c n k (1 + b + c) = seenC a b c n (k + 1) 0 := by
  unfold seenC
  congr 1
  funext x
  unfold seenV
  rw [seen_next]
theorem seenC_zero {n : Nat} : seenC a b c n 0 0 = List.replicate n (.int .i64 0) := by
  apply List.ext_getElem?
  intro j
  by_cases hj : j < n
  · rw [seenC_get hj]
    simp [hj, seenV, seenB, inL]
    try omega
  · rw [List.getElem?_eq_none (by rw [seenC_length]; omega), List.getElem?_eq_none (by simp; omega)]
theorem seqL_length (s m : Nat) : (seqL s m).length = m := by simp [seqL]
theorem seqL_succ (s m : Nat) : seqL s (m + 1) = seqL s m ++ [((s + m : Nat) : Int)] := by simp [seqL, List.range_succ]
theorem seqL_get {s m j : Nat} (h : j < m) : (seqL s m)[j]? = some ((s + j : Nat) : Int) := by simp [seqL, h]
theorem inode_at (h : geoB a b c d = true) (hk : k ≤ a) (h1 : 1 ≤ i) (h2 : i ≤ b) : inodeZ a b c d k i = ((sN a b c k + i : Nat) : Int) := by
  unfold inodeZ
  rw [if_pos ⟨⟨h, by omega, by omega⟩, by omega, by omega⟩, sN_start h hk]
  push_cast
  rfl
theorem block_at (h : geoB a b c d = true) (hk : k ≤ a) (h2 : i < c) : blockZ a b c d k i = ((sN a b c k + (1 + b + i) : Nat) : Int) := by
  unfold blockZ
  rw [if_pos ⟨⟨h, by omega, by omega⟩, by omega, by omega⟩, sN_start h hk]
  push_cast
  omega
theorem upper_at (h : geoB a b c d = true) (hk : k ≤ a) (hi : i < 1 + b + c) : upperB a b c d ((sN a b c k + i : Nat) : Int) = decide (k = 0) := by
  have hz := sN_start (k := 0) h (by omega)
  have hl := logN_eq h
  unfold upperB
  rw [h, Bool.true_and]
  have e0 : ((0 : Nat) : Int) = 0 := rfl
  rw [e0] at hz
  rw [hz, hl, Bool.eq_iff_iff]
  obtain ⟨h1, h2, h3, h4, h5, h6, _⟩ := geoN h
  have ha : a = 1 ∨ a = 2 ∨ a = 3 := by omega
  have hk' : k = 0 ∨ k = 1 ∨ k = 2 ∨ k = 3 := by omega
  rcases ha with rfl | rfl | rfl <;> rcases hk' with rfl | rfl | rfl | rfl <;> simp [sN, logN] <;> omega
end
end Go.Proofs.Ytpflpampogngiaa
