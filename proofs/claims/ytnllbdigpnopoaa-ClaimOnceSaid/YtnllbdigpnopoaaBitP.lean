/- The plain mathematics of bitmaps (layer 10): the bits of bytes, the bytes of bits, how many there are. Nothing here speaks of a program. -/
import Derived.Test.YtnllbdigpnopoaaPlain
namespace Go.Proofs.Ytnllbdigpnopoaa.Plain

/-- The number of bits, the lowest first. -/
def bn : List Bool → Nat
  | [] => 0
  | b :: r => b.toNat + 2 * bn r
theorem bn_snoc (l : List Bool) (b : Bool) : bn (l ++ [b]) = bn l + 2 ^ l.length * b.toNat := by
  induction l with
  | nil => simp [bn]
  | cons a r ih =>
    simp only [List.cons_append, bn, ih, List.length_cons, Nat.pow_succ, Nat.mul_add]
    rw [← Nat.mul_assoc, Nat.mul_comm 2 (2 ^ r.length)]
    omega
theorem bn_lt (l : List Bool) : bn l < 2 ^ l.length := by
  induction l with
  | nil => simp [bn]
  | cons b r ih =>
    have : b.toNat ≤ 1 := Bool.toNat_le b
    simp only [bn, List.length_cons, Nat.pow_succ]
    omega
theorem bn_bit (l : List Bool) (k : Nat) : (bn l).testBit k = l.getD k false := by
  induction l generalizing k with
  | nil => simp [bn]
  | cons b r ih =>
    cases k with
    | zero => cases b <;> simp [bn, Nat.testBit_zero] <;> omega
    | succ k =>
      rw [Nat.testBit_succ]
      have : bn (b :: r) / 2 = bn r := by
        have : b.toNat ≤ 1 := Bool.toNat_le b
        simp only [bn]; omega
      rw [this, ih]; simp
/-- Byte j of bits. -/
def byteN (u : List Bool) (j : Nat) : Nat := bn ((u.drop (8 * j)).take 8)
theorem byteN_lt (u : List Bool) (j : Nat) : byteN u j < 256 := by
  have h := bn_lt ((u.drop (8 * j)).take 8)
  have : ((u.drop (8 * j)).take 8).length ≤ 8 := List.length_take_le _ _
  have : 2 ^ ((u.drop (8 * j)).take 8).length ≤ 2 ^ 8 := Nat.pow_le_pow_right (by omega) this
  unfold byteN; omega
/-- The bitmap of bits. -/
def bmS (u : List Bool) : List UInt8 := (List.range 64).map fun j => UInt8.ofNat (byteN u j)
theorem bmS_length (u : List Bool) : (bmS u).length = 64 := by simp [bmS]
theorem bmS_get (u : List Bool) {j : Nat} (h : j < 64) : (bmS u)[j]? = some (UInt8.ofNat (byteN u j)) := by
  simp [bmS, h]
theorem bmS_nil : bmS [] = List.replicate 64 0 := by decide
theorem byteN_same {u : List Bool} {n j : Nat} (h : j ≠ n / 8) : byteN (u.take (n + 1)) j = byteN (u.take n) j := by
  unfold byteN
  congr 1
  apply List.ext_getElem?
  intro i
  by_cases hi : i < 8
  · simp only [List.getElem?_take, List.getElem?_drop, hi, if_true]
    have h1 : (8 * j + i < n + 1) ↔ (8 * j + i < n) := by omega
    simp [h1]
  · simp [List.getElem?_take, hi]
theorem byteN_step {u : List Bool} {n : Nat} (hn : n < u.length) : byteN (u.take (n + 1)) (n / 8) = byteN (u.take n) (n / 8) + 2 ^ (n % 8) * u[n].toNat ∧ byteN (u.take n) (n / 8) < 2 ^ (n % 8) := by
  have e : (((u.take (n + 1)).drop (8 * (n / 8))).take 8) = ((u.take n).drop (8 * (n / 8))).take 8 ++ [u[n]] := by
    have hA : ((u.take n).drop (8 * (n / 8))).length = n % 8 := by simp; omega
    have e1 : (((u.take n).drop (8 * (n / 8))) ++ [u[n]]).take 8 = ((u.take n).drop (8 * (n / 8))) ++ [u[n]] := List.take_of_length_le (by rw [List.length_append, hA, List.length_singleton]; omega)
    have e2 : ((u.take n).drop (8 * (n / 8))).take 8 = (u.take n).drop (8 * (n / 8)) := List.take_of_length_le (by rw [hA]; omega)
    rw [List.take_succ_eq_append_getElem hn, List.drop_append_of_le_length (by simp; omega), e1, e2]
  have hl : (((u.take n).drop (8 * (n / 8))).take 8).length = n % 8 := by simp; omega
  unfold byteN
  rw [e, bn_snoc, hl]
  refine ⟨rfl, ?_⟩
  have := bn_lt (((u.take n).drop (8 * (n / 8))).take 8)
  rwa [hl] at this
theorem bmS_step {u : List Bool} {n : Nat} (hn : n < u.length) : bmS (u.take (n + 1)) = (bmS (u.take n)).set (n / 8) (UInt8.ofNat (byteN (u.take n) (n / 8) + 2 ^ (n % 8) * u[n].toNat)) := by
  apply List.ext_getElem?
  intro j
  by_cases hj : j < 64
  · rw [bmS_get _ hj, List.getElem?_set]
    by_cases e : n / 8 = j
    · subst e
      rw [if_pos rfl, if_pos (by rw [bmS_length]; exact hj), (byteN_step hn).1]
    · rw [if_neg e, bmS_get _ hj, byteN_same (fun h => e h.symm)]
  · rw [List.getElem?_eq_none (by rw [bmS_length]; omega), List.getElem?_eq_none (by rw [List.length_set, bmS_length]; omega)]
theorem bmS_no {u : List Bool} {n : Nat} (hn : n < u.length) (h5 : n < 512) (hu : u[n] = false) : bmS (u.take (n + 1)) = bmS (u.take n) := by
  rw [bmS_step hn, hu]
  apply List.ext_getElem?
  intro j
  rw [List.getElem?_set]
  split
  · next e =>
    subst e
    rw [if_pos (by rw [bmS_length]; omega), bmS_get _ (by omega)]
    simp
  · rfl
theorem bmS_512 (u : List Bool) : bmS (u.take 512) = bmS u := by
  apply List.map_congr_left
  intro j hj
  have hj : j < 64 := List.mem_range.1 hj
  congr 1
  unfold byteN
  congr 1
  apply List.ext_getElem?
  intro i
  by_cases hi : i < 8
  · simp only [List.getElem?_take, List.getElem?_drop, hi, if_true]
    rw [if_pos (by omega)]
  · simp [List.getElem?_take, hi]
/-- Bit i of bytes. -/
def bitB (l : List UInt8) (i : Nat) : Bool := (l.getD (i / 8) 0).toNat.testBit (i % 8)
/-- The first n bits. -/
def bitsOf (l : List UInt8) (n : Nat) : List Bool := (List.range n).map (bitB l)
theorem bitsOf_length (l : List UInt8) (n : Nat) : (bitsOf l n).length = n := by simp [bitsOf]
theorem bitsOf_get (l : List UInt8) {n i : Nat} (h : i < n) : (bitsOf l n)[i]? = some (bitB l i) := by simp [bitsOf, h]
theorem bitsOf_succ (l : List UInt8) (n : Nat) : bitsOf l (n + 1) = bitsOf l n ++ [bitB l n] := by simp [bitsOf, List.range_succ]
theorem bitB_bmS (u : List Bool) {i : Nat} (h : i < 512) : bitB (bmS u) i = u.getD i false := by
  unfold bitB
  have e : (bmS u).getD (i / 8) 0 = UInt8.ofNat (byteN u (i / 8)) := by
    simp only [List.getD, bmS_get u (show i / 8 < 64 by omega), Option.getD_some]
  have e2 : (UInt8.ofNat (byteN u (i / 8))).toNat = byteN u (i / 8) := by
    simp; exact byteN_lt _ _
  rw [e, e2]
  unfold byteN
  rw [bn_bit]
  simp only [List.getD]
  congr 1
  rw [List.getElem?_take, if_pos (by omega), List.getElem?_drop]
  congr 1
  omega
theorem bytes_ext {a b : List UInt8} (ha : a.length = 64) (hb : b.length = 64) (h : ∀ i, i < 512 → bitB a i = bitB b i) : a = b := by
  apply List.ext_getElem (by omega)
  intro j h1 h2
  apply UInt8.toNat_inj.1
  apply Nat.eq_of_testBit_eq
  intro k
  by_cases hk : k < 8
  · have := h (8 * j + k) (by omega)
    unfold bitB at this
    have e1 : (8 * j + k) / 8 = j := by omega
    have e2 : (8 * j + k) % 8 = k := by omega
    rw [e1, e2] at this
    simpa [List.getD, List.getElem?_eq_getElem h1, List.getElem?_eq_getElem h2] using this
  · rw [Nat.testBit_lt_two_pow, Nat.testBit_lt_two_pow]
    · have := b[j].toNat_lt; have : 2 ^ 8 ≤ 2 ^ k := Nat.pow_le_pow_right (by omega) (by omega); omega
    · have := a[j].toNat_lt; have : 2 ^ 8 ≤ 2 ^ k := Nat.pow_le_pow_right (by omega) (by omega); omega
/-- Are they a bitmap of so many blocks? -/
def bmOk (l : List UInt8) (n : Int) : Bool := decide (l.length = 64) && (decide (0 ≤ n) && (decide (n ≤ 512) && (bmS (bitsOf l n.toNat) == l)))
theorem bm_back {l : List UInt8} {n : Nat} (hl : l.length = 64) (h : ∀ i, n ≤ i → i < 512 → bitB l i = false) : bmS (bitsOf l n) = l := by
  refine bytes_ext (bmS_length _) hl fun i hi => ?_
  rw [bitB_bmS _ hi]
  by_cases hin : i < n
  · simp [List.getD, bitsOf_get l hin]
  · rw [h i (by omega) hi]
    simp only [List.getD]
    rw [List.getElem?_eq_none (by rw [bitsOf_length]; omega)]
    rfl
theorem bm_not {l : List UInt8} {n i : Nat} (h1 : n ≤ i) (h2 : i < 512) (h : bitB l i = true) : (bmS (bitsOf l n) == l) = false := by
  simp only [beq_eq_false_iff_ne, ne_eq]
  intro e
  rw [← e, bitB_bmS _ h2] at h
  simp only [List.getD] at h
  rw [List.getElem?_eq_none (by rw [bitsOf_length]; omega)] at h
  cases h
theorem bits_bm {u : List Bool} {n : Nat} (h : u.length ≤ 512) (hn : u.length = n) : bitsOf (bmS u) n = u := by
  subst hn
  apply List.ext_getElem?
  intro i
  by_cases hi : i < u.length
  · rw [bitsOf_get _ hi, bitB_bmS _ (by omega)]
    simp [List.getD, List.getElem?_eq_getElem hi]
  · rw [List.getElem?_eq_none (by rw [bitsOf_length]; omega), List.getElem?_eq_none (by omega)]
/-- How many bits of a byte are 1. -/
def pop (x : UInt8) : Nat := (List.range 8).countP x.toNat.testBit
/-- How many of the first n bits are 1. -/
def cnt (l : List UInt8) (n : Nat) : Nat := (List.range n).countP (bitB l)
theorem cnt_succ (l : List UInt8) (n : Nat) : cnt l (n + 1) = cnt l n + (bitB l n).toNat := by
  unfold cnt
  rw [List.range_succ, List.countP_append, List.countP_singleton]
  cases bitB l n <;> rfl
theorem cnt_le (l : List UInt8) (n : Nat) : cnt l n ≤ n := by
  have := List.countP_le_length (p := bitB l) (l := List.range n)
  simpa [cnt] using this
def sumP (l : List UInt8) (k : Nat) : Nat := ((l.take k).map pop).sum
theorem pop_le (x : UInt8) : pop x ≤ 8 := by
  have := List.countP_le_length (p := x.toNat.testBit) (l := List.range 8)
  simpa [pop] using this
theorem sumP_succ {l : List UInt8} {k : Nat} (h : k < l.length) : sumP l (k + 1) = sumP l k + pop l[k] := by
  unfold sumP
  rw [List.take_succ_eq_append_getElem h, List.map_append, List.sum_append, List.map_singleton, List.sum_singleton]
theorem cnt_sum (l : List UInt8) (k : Nat) (h : k ≤ l.length) : cnt l (8 * k) = sumP l k := by
  induction k with
  | zero => simp [cnt, sumP]
  | succ k ih =>
    rw [sumP_succ (by omega), ← ih (by omega)]
    unfold cnt
    rw [show 8 * (k + 1) = 8 * k + 8 by omega, List.range_add, List.countP_append, List.countP_map]
    congr 1
    unfold pop
    apply List.countP_congr
    intro i hi
    have hi : i < 8 := List.mem_range.1 hi
    have e1 : (8 * k + i) / 8 = k := by omega
    have e2 : (8 * k + i) % 8 = i := by omega
    simp only [Function.comp, bitB, e1, e2, List.getD, List.getElem?_eq_getElem (show k < l.length by omega), Option.getD_some]
theorem sumP_le (l : List UInt8) (k : Nat) (h : k ≤ l.length) : sumP l k ≤ 8 * k := by rw [← cnt_sum l k h]; exact cnt_le _ _
theorem cnt_bits (l : List UInt8) (n : Nat) : cnt l n = (bitsOf l n).countP id := by
  unfold cnt bitsOf
  rw [List.countP_map]
  rfl
theorem many_bm {u : List Bool} (h : u.length ≤ 512) : sumP (bmS u) 64 = u.countP id := by
  rw [← cnt_sum _ _ (by rw [bmS_length]; exact Nat.le_refl _), show 8 * 64 = u.length + (512 - u.length) by omega]
  unfold cnt
  rw [List.range_add, List.countP_append, List.countP_map]
  have h1 : (List.range u.length).countP (bitB (bmS u)) = u.countP id := by
    have := cnt_bits (bmS u) u.length
    rw [bits_bm h rfl] at this
    exact this
  rw [h1]
  have h2 : List.countP (bitB (bmS u) ∘ fun x => u.length + x) (List.range (512 - u.length)) = 0 := by
    rw [List.countP_eq_zero]
    intro i hi
    have hi : i < 512 - u.length := List.mem_range.1 hi
    simp only [Function.comp]
    rw [bitB_bmS _ (by omega)]
    simp [List.getD]
  omega
theorem countP_snoc {u : List Bool} {k : Nat} (h : k < u.length) : (u.take (k + 1)).countP id = (u.take k).countP id + u[k].toNat := by
  rw [List.take_succ_eq_append_getElem h, List.countP_append, List.countP_singleton]
  cases u[k] <;> rfl
theorem countP_le (u : List Bool) (k : Nat) : (u.take k).countP id ≤ k := Nat.le_trans (List.countP_le_length) (List.length_take_le _ _)
end Go.Proofs.Ytnllbdigpnopoaa.Plain
