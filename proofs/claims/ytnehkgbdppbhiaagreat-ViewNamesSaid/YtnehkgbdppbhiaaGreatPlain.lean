/- The plain mathematics of numbers as bytes (layer 1): which sizes there are, which numbers fit, a number's bytes, and the number of bytes; nothing here speaks of a program. -/
import Derived.Below
namespace Go.Proofs.YtnehkgbdppbhiaaGreat.Plain

open Go.RowKit in
/-- A fact kept from the walk. -/
theorem hide {p : Prop} (h : p) : Hid p := h

/-- Is it a size? -/
def isz (s : Int) : Bool := s == 1 || s == 2 || s == 4
/-- Does the number fit? -/
def fits (n s : Int) : Bool := isz s && (decide (0 ≤ n) && decide (n < 256 ^ s.toNat))

theorem isz_cases {s : Int} (h : isz s = true) : s = 1 ∨ s = 2 ∨ s = 4 := by
  simp [isz] at h; omega
theorem isz_no {s : Int} (h : isz s = false) : ¬ s = 1 ∧ ¬ s = 2 ∧ ¬ s = 4 := by
  simp [isz] at h; omega

/-- The lowest k bytes of n, the lowest first. -/
def nb : Nat → Nat → List UInt8
  | 0, _ => []
  | k + 1, n => UInt8.ofNat (n % 256) :: nb k (n / 256)
theorem nb_length (k n : Nat) : (nb k n).length = k := by
  induction k generalizing n with
  | zero => rfl
  | succ k ih => simp [nb, ih]
/-- The number of bytes, the lowest first. -/
def val : List UInt8 → Nat
  | [] => 0
  | b :: r => b.toNat + 256 * val r
theorem val_nb (k n : Nat) (h : n < 256 ^ k) : val (nb k n) = n := by
  induction k generalizing n with
  | zero => simp at h; simp [nb, val, h]
  | succ k ih =>
    have h2 : n / 256 < 256 ^ k := by
      rw [Nat.div_lt_iff_lt_mul (by omega)]; rw [Nat.pow_succ] at h; exact h
    simp only [nb, val, ih _ h2]
    have : (UInt8.ofNat (n % 256)).toNat = n % 256 := by simp
    omega
theorem val_lt (l : List UInt8) : val l < 256 ^ l.length := by
  induction l with
  | nil => simp [val]
  | cons b r ih =>
    have := b.toNat_lt
    simp only [val, List.length_cons, Nat.pow_succ]
    omega
theorem nb_get (k n i : Nat) (h : i < k) : (nb k n)[i]? = some (UInt8.ofNat (n / 256 ^ i % 256)) := by
  induction k generalizing n i with
  | zero => omega
  | succ k ih =>
    cases i with
    | zero => simp [nb]
    | succ i =>
      simp only [nb, List.getElem?_cons_succ]
      rw [ih _ _ (by omega), Nat.div_div_eq_div_mul, Nat.pow_succ, Nat.mul_comm]
theorem nb_snoc (k n : Nat) : nb (k + 1) n = nb k n ++ [UInt8.ofNat (n / 256 ^ k % 256)] := by
  induction k generalizing n with
  | zero => simp [nb]
  | succ k ih =>
    rw [show nb (k + 1 + 1) n = UInt8.ofNat (n % 256) :: nb (k + 1) (n / 256) from rfl, ih, show nb (k + 1) n = UInt8.ofNat (n % 256) :: nb k (n / 256) from rfl, Nat.div_div_eq_div_mul,
      show 256 * 256 ^ k = 256 ^ (k + 1) from by rw [Nat.pow_succ, Nat.mul_comm]]
    rfl
/-- Are the bytes of a number of this size, from p on, all there, of m bytes? -/
def hold (m : Nat) (p s : Int) : Bool := isz s && (decide (0 ≤ p) && decide (p ≤ m - s))
theorem hold_parts {m : Nat} {p s : Int} (h : hold m p s = true) : isz s = true ∧ 0 ≤ p ∧ p ≤ m - s := by
  simp only [hold, Bool.and_eq_true, decide_eq_true_eq] at h
  exact h
/-- The number of the bytes from p on. -/
def getS (l : List UInt8) (p s : Int) : Nat := val ((l.drop p.toNat).take s.toNat)
theorem val_snoc (l : List UInt8) (x : UInt8) : val (l ++ [x]) = val l + 256 ^ l.length * x.toNat := by
  induction l with
  | nil => simp [val]
  | cons b r ih =>
    simp only [List.cons_append, val, ih, List.length_cons, Nat.pow_succ, Nat.mul_add]
    rw [← Nat.mul_assoc, Nat.mul_comm 256 (256 ^ r.length)]
    omega
theorem val_take_succ (l : List UInt8) (k : Nat) (h : k < l.length) : val (l.take (k + 1)) = val (l.take k) + 256 ^ k * l[k].toNat := by
  rw [List.take_succ_eq_append_getElem h, val_snoc, List.length_take, Nat.min_eq_left (by omega)]
theorem val_drop (l : List UInt8) (k : Nat) (h : k < l.length) : val (l.drop k) = l[k].toNat + 256 * val (l.drop (k + 1)) := by
  rw [List.drop_eq_getElem_cons h]; rfl
theorem or_shift (v x k : Nat) (hv : v < 2 ^ k) : v ||| (x * 2 ^ k) = v + 2 ^ k * x := by
  rw [Nat.mul_comm x, Nat.or_comm, ← Nat.two_pow_add_eq_or_of_lt hv, Nat.add_comm]
end Go.Proofs.YtnehkgbdppbhiaaGreat.Plain
