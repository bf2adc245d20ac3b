/- The plain mathematics of sorted texts (layer 3): each once, rising byte by byte. Nothing here speaks of a program. -/
import Derived.Test.YtnehkgbdppbhiaaPlain
namespace Go.Proofs.Ytnehkgbdppbhiaa.Plain
/-- Is a text ahead of another one? -/
def lessS (a b : List UInt8) : Bool := Op.bytesLess a b
/-- How many texts are ahead of x. -/
def posS (x : List UInt8) (o : List (List UInt8)) : Nat := (o.takeWhile fun y => lessS y x).length
/-- x, laid at its place among sorted texts, if it is not there. -/
def insS (x : List UInt8) (o : List (List UInt8)) : List (List UInt8) := if o[posS x o]? = some x then o else o.take (posS x o) ++ x :: o.drop (posS x o)
def sortS (l : List (List UInt8)) : List (List UInt8) := l.foldl (fun o x => insS x o) []
theorem sortS_snoc (l : List (List UInt8)) (x : List UInt8) : sortS (l ++ [x]) = insS x (sortS l) := by simp [sortS, List.foldl_append]
theorem insS_length (x : List UInt8) (o : List (List UInt8)) : (insS x o).length ≤ o.length + 1 := by
  unfold insS
  split
  · omega
  · simp; omega
theorem sortS_length (l : List (List UInt8)) : (sortS l).length ≤ l.length := by
  suffices h : ∀ (l o : List (List UInt8)), (l.foldl (fun o x => insS x o) o).length ≤ o.length + l.length from by simpa [sortS] using h l []
  intro l
  induction l with
  | nil => intro o; simp
  | cons x r ih =>
    intro o
    rw [List.foldl_cons, List.length_cons]
    have := ih (insS x o)
    have := insS_length x o
    omega
theorem posS_of {x : List UInt8} {o : List (List UInt8)} {k : Nat} (hk : k ≤ o.length) (h1 : ∀ j, j < k → lessS (o.getD j []) x = true) (h2 : k < o.length → lessS (o.getD k []) x = false) : posS x o = k := by
  unfold posS
  induction o generalizing k with
  | nil => simp at hk; simp [hk]
  | cons y r ih =>
    cases k with
    | zero =>
      have h : lessS y x = false := h2 (by simp)
      rw [List.takeWhile_cons, h]
      rfl
    | succ k =>
      have h0 : lessS y x = true := h1 0 (by omega)
      rw [List.takeWhile_cons, h0]
      simp only [if_true, List.length_cons]
      congr 1
      exact ih (by simpa using hk) (fun j hj => h1 (j + 1) (by omega)) (fun h => h2 (by simpa using h))
/-- What stands in the row while it is moved: j places are as they were, and all behind them one further. -/
def gapS (o : List (List UInt8)) (j : Nat) : List (List UInt8) := o.take j ++ (o.getD j []) :: o.drop j
theorem gapS_end (o : List (List UInt8)) : gapS o o.length = o ++ [[]] := by simp [gapS, List.getD]
theorem gapS_length {o : List (List UInt8)} {j : Nat} (h : j ≤ o.length) : (gapS o j).length = o.length + 1 := by simp [gapS]; omega
theorem gapS_get {o : List (List UInt8)} {j i : Nat} (hi : i < j) (h : j ≤ o.length) : (gapS o j)[i]? = some (o[i]'(by omega)) := by
  unfold gapS
  rw [List.getElem?_append_left (by simp; omega), List.getElem?_take_of_lt hi, List.getElem?_eq_getElem (by omega)]
theorem gapS_step {o : List (List UInt8)} {j : Nat} (h : j < o.length) : (gapS o (j + 1)).set (j + 1) o[j] = gapS o j := by
  unfold gapS
  have hl : (o.take (j + 1)).length = j + 1 := by simp; omega
  rw [List.set_append_right _ _ (by omega), hl, Nat.sub_self, List.set_cons_zero, List.take_succ_eq_append_getElem h]
  have hg : o.getD j [] = o[j] := by simp [List.getD, h]
  rw [hg, List.append_assoc]
  congr 1
  rw [List.drop_eq_getElem_cons h]
  rfl
theorem gapS_set {o : List (List UInt8)} {j : Nat} (h : j ≤ o.length) (x : List UInt8) : (gapS o j).set j x = o.take j ++ x :: o.drop j := by
  unfold gapS
  have hl : (o.take j).length = j := by simp; omega
  rw [List.set_append_right _ _ (by omega), hl, Nat.sub_self, List.set_cons_zero]
end Go.Proofs.Ytnehkgbdppbhiaa.Plain
