/- claim: the mathematics of pointers (layer 11): of those that name one block the first one counts. Nothing here speaks of a program. -/
import Derived.Test.YtnllbdigpnopoaaInoP
namespace Go.Proofs.Ytnllbdigpnopoaa
open Plain

/-- The five pointers of an inode. -/
def ptrs (x : InoV) : List Int := [x.p, x.q, x.r, x.t, x.a]
/-- All pointers, inode by inode. -/
def flatP : List InoV → List Int
  | [] => []
  | x :: r => ptrs x ++ flatP r
theorem ptrs_len (x : InoV) : (ptrs x).length = 5 := rfl
theorem flatP_len (l : List InoV) : (flatP l).length = 5 * l.length := by
  induction l with
  | nil => rfl
  | cons x r ih => rw [flatP, List.length_append, ih, ptrs_len, List.length_cons]; omega
theorem flatP_get {l : List InoV} {i k : Nat} {x : InoV} (h : l[i]? = some x) (hk : k < 5) : (flatP l)[5 * i + k]? = (ptrs x)[k]? := by
  induction l generalizing i with
  | nil => simp at h
  | cons y r ih =>
    cases i with
    | zero =>
      simp at h
      subst h
      rw [flatP, List.getElem?_append_left (by rw [ptrs_len]; omega)]
      congr 1
      omega
    | succ i =>
      rw [flatP, List.getElem?_append_right (by rw [ptrs_len]; omega), ptrs_len, show 5 * (i + 1) + k - 5 = 5 * i + k from by omega]
      exact ih (by simpa using h)
/-- One pointer. -/
def ptr (x : InoV) (k : Nat) : Int := (ptrs x).getD k 0
theorem ptr_get (x : InoV) {k : Nat} (hk : k < 5) : (ptrs x)[k]? = some (ptr x k) := by
  unfold ptr
  rw [List.getD_eq_getElem?_getD, List.getElem?_eq_getElem (by rw [ptrs_len]; omega)]
  rfl
theorem flatP_ptr {l : List InoV} {i k : Nat} {x : InoV} (h : l[i]? = some x) (hk : k < 5) : (flatP l)[5 * i + k]? = some (ptr x k) := (flatP_get h hk).trans (ptr_get x hk)
/-- Where a number stands first. -/
def fst1 (n : Int) (ps : List Int) : Option Nat := ps.findIdx? (· == n)
theorem fst1_some {n : Int} {ps : List Int} {q : Nat} : fst1 n ps = some q ↔ ps[q]? = some n ∧ ∀ j, j < q → ps[j]? ≠ some n := by
  unfold fst1
  rw [List.findIdx?_eq_some_iff_getElem]
  constructor
  · rintro ⟨h, h1, h2⟩
    refine ⟨by rw [List.getElem?_eq_getElem h]; simpa using h1, fun j hj e => ?_⟩
    have hjl : j < ps.length := by omega
    rw [List.getElem?_eq_getElem hjl] at e
    have := h2 j hj
    simp at this e
    exact this e
  · rintro ⟨h1, h2⟩
    obtain ⟨h, h1⟩ := List.getElem?_eq_some_iff.1 h1
    refine ⟨h, by simpa using h1, fun j hj => ?_⟩
    have := h2 j hj
    rw [List.getElem?_eq_getElem (by omega)] at this
    simpa using this
theorem fst1_none {n : Int} {ps : List Int} : fst1 n ps = none ↔ ∀ j : Nat, ps[j]? ≠ some n := by
  unfold fst1
  rw [List.findIdx?_eq_none_iff]
  constructor
  · intro h j e
    have := h n (List.mem_of_getElem? e)
    simp at this
  · intro h x hx
    obtain ⟨j, hj, rfl⟩ := List.mem_iff_getElem.1 hx
    have := h j
    rw [List.getElem?_eq_getElem hj] at this
    simpa using this
/-- Does the pointer at place q count? -/
def cntQ (ps : List Int) (m : Int) (q : Nat) : Bool := match ps[q]? with
  | some p => decide (1 ≤ p) && decide (p ≤ m) && decide (fst1 p ps = some q)
  | none => false
theorem cntQ_true {ps : List Int} {m : Int} {q : Nat} {p : Int} (h : ps[q]? = some p) : cntQ ps m q = true ↔ 1 ≤ p ∧ p ≤ m ∧ ∀ j, j < q → ps[j]? ≠ some p := by
  unfold cntQ
  rw [h]
  simp only [Bool.and_eq_true, decide_eq_true_eq, fst1_some, h, true_and, and_assoc]
/-- Which pointer counts and names the block. -/
def ownQ (ps : List Int) (m b : Int) : Option Nat := if 0 ≤ b ∧ b < m then fst1 (b + 1) ps else none
def ownI : Option Nat → Int
  | some q => ((q / 5 + 1 : Nat) : Int)
  | none => 0
def ownK : Option Nat → Int
  | some q => ((q % 5 : Nat) : Int)
  | none => 0
theorem ownQ_some {ps : List Int} {m b : Int} {q : Nat} : ownQ ps m b = some q ↔ (0 ≤ b ∧ b < m) ∧ ps[q]? = some (b + 1) ∧ ∀ j, j < q → ps[j]? ≠ some (b + 1) := by
  unfold ownQ
  by_cases h : 0 ≤ b ∧ b < m
  · rw [if_pos h, fst1_some]; simp [h]
  · rw [if_neg h]; simp [h]
theorem ownQ_none {ps : List Int} {m b : Int} : ownQ ps m b = none ↔ (0 ≤ b ∧ b < m → ∀ j : Nat, ps[j]? ≠ some (b + 1)) := by
  unfold ownQ
  by_cases h : 0 ≤ b ∧ b < m
  · rw [if_pos h, fst1_none]; simp [h]
  · rw [if_neg h]; simp [h]
/-- It counts, just if it is the owner of its block. -/
theorem cntQ_own {ps : List Int} {m : Int} {q : Nat} {p : Int} (h : ps[q]? = some p) : cntQ ps m q = true ↔ ownQ ps m (p - 1) = some q := by
  rw [cntQ_true h, ownQ_some, show p - 1 + 1 = p from by omega]
  constructor
  · rintro ⟨h1, h2, h3⟩; exact ⟨by omega, h, h3⟩
  · rintro ⟨h1, _, h3⟩; exact ⟨by omega, by omega, h3⟩
/-- A place of all: its inode, and its pointer. -/
theorem q_parts {i k : Nat} (hk : k < 5) : (5 * i + k) / 5 = i ∧ (5 * i + k) % 5 = k := by omega
/-- Does pointer k of inode ino count? -/
def validS (l : List InoV) (m ino k : Int) : Bool := decide (1 ≤ ino) && decide (ino ≤ l.length) && decide (0 ≤ k) && decide (k ≤ 4) && cntQ (flatP l) m (5 * (ino - 1) + k).toNat
theorem validS_no {l : List InoV} {m ino k : Int} (h : ¬ (1 ≤ ino ∧ ino ≤ l.length ∧ 0 ≤ k ∧ k ≤ 4)) : validS l m ino k = false := by
  unfold validS
  rw [Bool.and_eq_false_iff]
  left
  simp only [Bool.and_eq_false_iff, decide_eq_false_iff_not]
  omega
theorem validS_in {l : List InoV} {m : Int} {i k : Nat} (hi : i < l.length) (hk : k < 5) : validS l m (((i : Nat) : Int) + 1) k = cntQ (flatP l) m (5 * i + k) := by
  unfold validS
  rw [show (5 * (((i : Nat) : Int) + 1 - 1) + (k : Int)).toNat = 5 * i + k from by omega]
  rw [show decide (1 ≤ ((i : Nat) : Int) + 1) = true from by simp; omega, show decide (((i : Nat) : Int) + 1 ≤ l.length) = true from by simp; omega, show decide (0 ≤ (k : Int)) = true from by simp, show decide ((k : Int) ≤ 4) = true from by simp; omega]
  simp
/-- The places that are not 0 and do not count, of the first j. -/
def badQ (ps : List Int) (m : Int) (j : Nat) : List Nat := (List.range j).filter (fun q => decide (ps.getD q 0 ≠ 0) && !cntQ ps m q)
theorem badQ_zero (ps : List Int) (m : Int) : badQ ps m 0 = [] := rfl
theorem badQ_succ (ps : List Int) (m : Int) (j : Nat) : badQ ps m (j + 1) = if (decide (ps.getD j 0 ≠ 0) && !cntQ ps m j) = true then badQ ps m j ++ [j] else badQ ps m j := by
  unfold badQ
  rw [List.range_succ, List.filter_append]
  simp only [List.filter_cons, List.filter_nil]
  split <;> simp
theorem badQ_len (ps : List Int) (m : Int) (j : Nat) : (badQ ps m j).length ≤ j := by
  have := List.length_filter_le (fun q => decide (ps.getD q 0 ≠ 0) && !cntQ ps m q) (List.range j)
  rw [List.length_range] at this
  exact this
/-- Which blocks are used, of the first j. -/
def usedQ (ps : List Int) (j : Nat) : List Bool := (List.range j).map (fun b : Nat => (fst1 ((b : Int) + 1) ps).isSome)
theorem usedQ_len (ps : List Int) (j : Nat) : (usedQ ps j).length = j := by simp [usedQ]
theorem usedQ_succ (ps : List Int) (j : Nat) : usedQ ps (j + 1) = usedQ ps j ++ [(fst1 ((j : Int) + 1) ps).isSome] := by simp [usedQ, List.range_succ]
def usedS (ps : List Int) (m : Int) : List Bool := if 1 ≤ m ∧ m ≤ 512 then usedQ ps m.toNat else []
theorem usedQ_get (ps : List Int) {j b : Nat} (h : b < j) : (usedQ ps j)[b]? = some (fst1 ((b : Int) + 1) ps).isSome := by
  simp [usedQ, h]
/-! As many count as are used. -/
def nCnt (ps : List Int) (m : Int) (j : Nat) : Nat := (List.range j).countP (cntQ ps m)
def nUsed (ps : List Int) (j : Nat) : Nat := (usedQ ps j).countP id
theorem nCnt_succ (ps : List Int) (m : Int) (j : Nat) : nCnt ps m (j + 1) = nCnt ps m j + if cntQ ps m j = true then 1 else 0 := by
  unfold nCnt
  rw [List.range_succ, List.countP_append]
  simp only [List.countP_cons, List.countP_nil]
  omega
theorem nUsed_succ (ps : List Int) (j : Nat) : nUsed ps (j + 1) = nUsed ps j + if (fst1 ((j : Int) + 1) ps).isSome = true then 1 else 0 := by
  unfold nUsed
  rw [usedQ_succ, List.countP_append]
  simp only [List.countP_cons, List.countP_nil, id]
  omega
theorem fst1_take {ps : List Int} {n : Int} {j : Nat} : (fst1 n (ps.take j)).isSome = true ↔ ∃ i, i < j ∧ ps[i]? = some n := by
  rw [Option.isSome_iff_ne_none, ne_eq, fst1_none]
  simp only [List.getElem?_take, Classical.not_forall, ne_eq, Classical.not_not]
  constructor
  · rintro ⟨i, h⟩
    split at h
    · exact ⟨i, by assumption, h⟩
    · cases h
  · rintro ⟨i, h1, h2⟩
    exact ⟨i, by rw [if_pos h1]; exact h2⟩
/-- One pointer more. -/
theorem nUsed_take {ps : List Int} {j : Nat} {p : Int} (hp : ps[j]? = some p) (m : Nat) : nUsed (ps.take (j + 1)) m = nUsed (ps.take j) m + if 1 ≤ p ∧ p ≤ m ∧ (∀ i, i < j → ps[i]? ≠ some p) then 1 else 0 := by
  induction m with
  | zero =>
    rw [if_neg (by omega)]
    rfl
  | succ m ih =>
    rw [nUsed_succ, nUsed_succ, ih]
    have h1 : (fst1 ((m : Int) + 1) (ps.take (j + 1))).isSome = true ↔ (p = (m : Int) + 1 ∨ (fst1 ((m : Int) + 1) (ps.take j)).isSome = true) := by
      rw [fst1_take, fst1_take]
      constructor
      · rintro ⟨i, hi, e⟩
        rcases Nat.lt_or_ge i j with h | h
        · exact .inr ⟨i, h, e⟩
        · obtain rfl : i = j := by omega
          rw [hp] at e
          exact .inl (Option.some.inj e)
      · rintro (e | ⟨i, hi, e⟩)
        · exact ⟨j, by omega, by rw [hp, e]⟩
        · exact ⟨i, by omega, e⟩
    by_cases e : p = (m : Int) + 1
    · subst e
      rw [if_pos (h1.2 (.inl rfl)), if_neg (by omega)]
      by_cases hs : (fst1 ((m : Int) + 1) (ps.take j)).isSome = true
      · rw [if_pos hs, if_neg]
        rintro ⟨-, -, h⟩
        obtain ⟨i, hi, e⟩ := fst1_take.1 hs
        exact h i hi e
      · rw [if_neg hs, if_pos]
        refine ⟨by omega, by push_cast; omega, fun i hi e => hs (fst1_take.2 ⟨i, hi, e⟩)⟩
    · have h2 : (fst1 ((m : Int) + 1) (ps.take (j + 1))).isSome = (fst1 ((m : Int) + 1) (ps.take j)).isSome := by
        rw [Bool.eq_iff_iff, h1]
        simp [e]
      rw [h2]
      have h3 : (1 ≤ p ∧ p ≤ ((m + 1 : Nat) : Int) ∧ ∀ i, i < j → ps[i]? ≠ some p) ↔ (1 ≤ p ∧ p ≤ (m : Int) ∧ ∀ i, i < j → ps[i]? ≠ some p) := by
        constructor
        · rintro ⟨a, b, c⟩; exact ⟨a, by push_cast at b; omega, c⟩
        · rintro ⟨a, b, c⟩; exact ⟨a, by push_cast; omega, c⟩
      simp only [h3]
      omega
theorem nCnt_used (ps : List Int) (m j : Nat) (hj : j ≤ ps.length) : nCnt ps m j = nUsed (ps.take j) m := by
  induction j with
  | zero =>
    rw [List.take_zero]
    unfold nCnt nUsed usedQ fst1
    simp [List.countP_map]
  | succ j ih =>
    have hp := List.getElem?_eq_getElem (l := ps) (i := j) (by omega)
    rw [nCnt_succ, ih (by omega), nUsed_take hp]
    congr 1
    simp only [cntQ_true hp]
theorem nCnt_all (ps : List Int) (m : Nat) : nCnt ps m ps.length = nUsed ps m := by
  rw [nCnt_used ps m _ (Nat.le_refl _), List.take_length]
end Go.Proofs.Ytnllbdigpnopoaa
