/- Contracts of num.Right and the reference's Right, in one form each: they return whether the number fits. -/
import Derived.Test.YthjjjeolpdekoaaNumA
namespace Go.Proofs.Ythjjjeolpdekoaa
open Go.RowKit Plain

theorem fits_no {n s : Int} (h : isz s = false) : fits n s = false := by simp [fits, h]
theorem fits_neg {n s : Int} (hn : n < 0) : fits n s = false := by
  have : decide (0 ≤ n) = false := by simp; omega
  simp [fits, this]
theorem fits_dec {n s : Int} (h : isz s = true) (hn : 0 ≤ n) : fits n s = decide (n < 256 ^ s.toNat) := by
  have : decide (0 ≤ n) = true := by simp; omega
  simp [fits, h, this]

theorem Right_any (n s : Int) (w : World) :
    Calls Try.prog 66 #[.int .i64 n, .int .i64 s] w fun e w' => e = .returned (.bool (fits n s)) ∧ w = w' := by
  cases h : isz s with
  | false => rw [fits_no h]; exact Right_no h w
  | true =>
    by_cases hn : n < 0
    · rw [fits_neg hn]; exact Right_neg h hn w
    · rw [fits_dec h (by omega)]; exact Right_dec h (by omega) w
theorem Right_true {n s : Int} (h : fits n s = true) (w : World) :
    Calls Try.prog 66 #[.int .i64 n, .int .i64 s] w fun e w' => e = .returned (.bool true) ∧ w = w' := by
  have := Right_any n s w; rw [h] at this; exact this
theorem Right_false {n s : Int} (h : fits n s = false) (w : World) :
    Calls Try.prog 66 #[.int .i64 n, .int .i64 s] w fun e w' => e = .returned (.bool false) ∧ w = w' := by
  have := Right_any n s w; rw [h] at this; exact this

set_option maxHeartbeats 400000 in
theorem RRight_no {n s : Int} (h : isz s = false) (w : World) :
    Calls Try.prog 92 #[.int .i64 n, .int .i64 s] w fun e w' => e = .returned (.bool false) ∧ w = w' := by
  have H := hide h
  clear h
  go_enter Try.func92, Try.ntmps92
  go_wp2_with (go_at_call 73; refine (right1_no H.out _).mono ?_; rintro e w' ⟨rfl, rfl⟩)
  go_ret
  exact ⟨rfl, rfl⟩

set_option maxHeartbeats 400000 in
theorem RRight_neg {n s : Int} (h : isz s = true) (hn : n < 0) (w : World) :
    Calls Try.prog 92 #[.int .i64 n, .int .i64 s] w fun e w' => e = .returned (.bool false) ∧ w = w' := by
  have H := hide h
  clear h
  have hd : decide (n < 0) = true := by simp; omega
  go_enter Try.func92, Try.ntmps92
  go_wp2_with (go_at_call 73; refine (right1_yes H.out _).mono ?_; rintro e w' ⟨rfl, rfl⟩)
  go_ret
  exact ⟨rfl, rfl⟩

set_option maxHeartbeats 800000 in
theorem RRight_dec {n s : Int} (h : isz s = true) (hn : 0 ≤ n) (w : World) :
    Calls Try.prog 92 #[.int .i64 n, .int .i64 s] w fun e w' => e = .returned (.bool (decide (n < 256 ^ s.toNat))) ∧ w = w' := by
  have hd : decide (n < 0) = false := by simp; omega
  have hs : 1 ≤ s ∧ s ≤ 4 := by rcases isz_cases h with rfl | rfl | rfl <;> omega
  obtain ⟨hs1, hs4⟩ := hs
  have H := hide h
  clear h
  go_enter Try.func92, Try.ntmps92
  go_wp2_with (go_at_call 73; refine (right1_yes H.out _).mono ?_; rintro e w' ⟨rfl, rfl⟩)
  go_loop [5, 6] (fun t i => ∃ k : Nat, (k : Int) ≤ s ∧ i = .int .i64 k ∧ t = .int .i64 (256 ^ k)) (fun _ i => (s - intOf i).toNat)
  case atStart => exact ⟨0, by omega, rfl, rfl⟩
  case round =>
    obtain ⟨k, hk, rfl, rfl⟩ := hrel
    by_cases hlt : (k : Int) < s
    · have hk4 : k = 0 ∨ k = 1 ∨ k = 2 ∨ k = 3 := by omega
      rcases hk4 with rfl | rfl | rfl | rfl
      · go_wp2
        go_round
        case rel => exact ⟨1, by omega, rfl, rfl⟩
        case measure => simp [intOf]; omega
      · go_wp2
        go_round
        case rel => exact ⟨2, by omega, rfl, rfl⟩
        case measure => simp [intOf]; omega
      · go_wp2
        go_round
        case rel => exact ⟨3, by omega, rfl, rfl⟩
        case measure => simp [intOf]; omega
      · go_wp2
        go_round
        case rel => exact ⟨4, by omega, rfl, rfl⟩
        case measure => simp [intOf]; omega
    · have hks : s = k := by omega
      subst hks
      go_wp2
      go_ret
      exact ⟨rfl, rfl⟩

theorem RRight_any (n s : Int) (w : World) :
    Calls Try.prog 92 #[.int .i64 n, .int .i64 s] w fun e w' => e = .returned (.bool (fits n s)) ∧ w = w' := by
  cases h : isz s with
  | false => rw [fits_no h]; exact RRight_no h w
  | true =>
    by_cases hn : n < 0
    · rw [fits_neg hn]; exact RRight_neg h hn w
    · rw [fits_dec h (by omega)]; exact RRight_dec h (by omega) w
theorem RRight_true {n s : Int} (h : fits n s = true) (w : World) :
    Calls Try.prog 92 #[.int .i64 n, .int .i64 s] w fun e w' => e = .returned (.bool true) ∧ w = w' := by
  have := RRight_any n s w; rw [h] at this; exact this
theorem RRight_false {n s : Int} (h : fits n s = false) (w : World) :
    Calls Try.prog 92 #[.int .i64 n, .int .i64 s] w fun e w' => e = .returned (.bool false) ∧ w = w' := by
  have := RRight_any n s w; rw [h] at this; exact this

end Go.Proofs.Ythjjjeolpdekoaa
