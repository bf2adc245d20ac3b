/- Contracts of sum.reduce and sum.Sums: the two sums, as whole numbers. -/
import Derived.Test.YthjjjeolpdekoaaRows
import Derived.Test.YthjjjeolpdekoaaMem
import Derived.Test.YthjjjeolpdekoaaFloat
namespace Go.Proofs.Ythjjjeolpdekoaa
open Go.RowKit Plain

theorem F_65521 : F 65521 = 4679237951253643264 := by decide
theorem F_one : F 1 = 4607182418800017408 := by decide
theorem c_add {a b c d : Nat} (h1 : a + c < 2 ^ 53) (h2 : b + d < 2 ^ 53) : cSumBits .add .f64 (F a) (F b) (F c) (F d) = some (F (a + c), F (b + d)) := by
  have e1 : floatBits .add .f64 (F a) (F c) = some (F (a + c)) := F_add h1
  have e2 : floatBits .add .f64 (F b) (F d) = some (F (b + d)) := F_add h2
  unfold cSumBits
  rw [e1, e2]
  rfl
theorem c_sub {a b c d : Nat} (h1 : c ≤ a) (h2 : d ≤ b) (h3 : a < 2 ^ 53) (h4 : b < 2 ^ 53) : cSumBits .sub .f64 (F a) (F b) (F c) (F d) = some (F (a - c), F (b - d)) := by
  have e1 : floatBits .sub .f64 (F a) (F c) = some (F (a - c)) := F_sub h1 h3
  have e2 : floatBits .sub .f64 (F b) (F d) = some (F (b - d)) := F_sub h2 h4
  unfold cSumBits
  rw [e1, e2]
  rfl
theorem f_order {a : Nat} (h : a < 2 ^ 53) : FloatKind.f64.format.order (F a) 4679237951253643264 = some (compare a 65521) := by
  rw [← F_65521]; exact F_order h (by omega)

section
variable {P : Program}
theorem run_sub_re {a b : Nat} (t : TypeId) (ha : 65521 ≤ a) (ha2 : a < 131042) (hb : b < 131042) (W : World) :
    (binOp .sub t (.complex .f64 (F a) (F b)) (.complex .f64 4679237951253643264 0)).run P W = .ok (.complex .f64 (F (a - 65521)) (F b)) W := by
  have h := c_sub (a := a) (b := b) (c := 65521) (d := 0) ha (by omega) (by omega) (by omega)
  rw [F_65521, F_zero] at h
  exact run_complex_sum W .sub (.inr rfl) t .f64 _ _ _ _ _ _ h
theorem run_sub_im {a b : Nat} (t : TypeId) (hb : 65521 ≤ b) (ha : a < 131042) (hb2 : b < 131042) (W : World) :
    (binOp .sub t (.complex .f64 (F a) (F b)) (.complex .f64 0 4679237951253643264)).run P W = .ok (.complex .f64 (F a) (F (b - 65521))) W := by
  have h := c_sub (a := a) (b := b) (c := 0) (d := 65521) (by omega) hb (by omega) (by omega)
  rw [F_65521, F_zero] at h
  exact run_complex_sum W .sub (.inr rfl) t .f64 _ _ _ _ _ _ h
theorem run_add_re {a b c : Nat} (t : TypeId) (h1 : a + c < 131042) (hb : b < 131042) (W : World) :
    (binOp .add t (.complex .f64 (F a) (F b)) (.complex .f64 (F c) 0)).run P W = .ok (.complex .f64 (F (a + c)) (F b)) W := by
  have h := c_add (a := a) (b := b) (c := c) (d := 0) (by omega) (by omega)
  rw [F_zero] at h
  exact run_complex_sum W .add (.inl rfl) t .f64 _ _ _ _ _ _ h
theorem run_add_im {a b c : Nat} (t : TypeId) (h1 : b + c < 131042) (ha : a < 131042) (W : World) :
    (binOp .add t (.complex .f64 (F a) (F b)) (.complex .f64 0 (F c))).run P W = .ok (.complex .f64 (F a) (F (b + c))) W := by
  have h := c_add (a := a) (b := b) (c := 0) (d := c) (by omega) (by omega)
  rw [F_zero] at h
  exact run_complex_sum W .add (.inl rfl) t .f64 _ _ _ _ _ _ h
end
theorem f_ofInt (x : Nat) : floatOfInt .f64 (x : Int) = F x := by
  have h : decide ((x : Int) < 0) = false := decide_eq_false (Int.not_lt.2 (Int.natCast_nonneg _))
  show Ieee.Format.nearest _ (decide ((x : Int) < 0)) ((x : Int).natAbs) 0 = _
  rw [h, Int.natAbs_natCast]
  rfl

set_option maxHeartbeats 400000 in
theorem reduce_any {a b a' b' : Nat} (w : World) (ha : a < 131042) (hb : b < 131042) (ha' : a % 65521 = a') (hb' : b % 65521 = b') :
    Calls Try.prog 91 #[.complex .f64 (F a) (F b)] w fun e w' => e = .returned (.complex .f64 (F a') (F b')) ∧ w = w' := by
  have ob := f_order (a := b) (by omega)
  have oa := f_order (a := a) (by omega)
  rcases Nat.lt_trichotomy a 65521 with h | h | h <;> rcases Nat.lt_trichotomy b 65521 with k | k | k
  all_goals
    first
      | (have ea : a' = a := by omega)
      | (have ea : a' = a - 65521 := by omega)
    first
      | (have eb : b' = b := by omega)
      | (have eb : b' = b - 65521 := by omega)
    have s1 := fun (h : 65521 ≤ a) => run_sub_re (P := Try.prog) (a := a) (b := b) 105 h ha hb
    have s2 := fun (h : 65521 ≤ b) => run_sub_im (P := Try.prog) (a := a) (b := b) 105 h ha hb
    have s3 := fun (h : 65521 ≤ b) => run_sub_im (P := Try.prog) (a := a - 65521) (b := b) 105 h (by omega) hb
    rw [ea, eb]
    clear ha' hb' ea eb
    first | rw [Nat.compare_eq_lt.2 h] at oa | rw [Nat.compare_eq_eq.2 h] at oa | rw [Nat.compare_eq_gt.2 h] at oa
    first | rw [Nat.compare_eq_lt.2 k] at ob | rw [Nat.compare_eq_eq.2 k] at ob | rw [Nat.compare_eq_gt.2 k] at ob
    first | (have ha3 : 65521 ≤ a := by omega) | skip
    first | (have hb3 : 65521 ≤ b := by omega) | skip
    clear h k
    go_enter Try.func91, Try.ntmps91
    go_wp2_with fail
    go_ret
    exact ⟨rfl, rfl⟩
end Go.Proofs.Ythjjjeolpdekoaa
