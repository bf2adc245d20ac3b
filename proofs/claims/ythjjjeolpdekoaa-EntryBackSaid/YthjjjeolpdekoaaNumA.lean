/- Contracts of isSize, right, num.Right and the reference's Right: what they return for all arguments. -/
import Derived.Test.YthjjjeolpdekoaaRows
import Derived.Test.YthjjjeolpdekoaaPlain
import Derived.WalkKit
import Derived.WalkSpells
import Derived.WalkLawsBesides
namespace Go.Proofs.Ythjjjeolpdekoaa
open Go.RowKit Plain

set_option maxHeartbeats 400000 in
theorem isSize_any (s : Int) (w : World) :
    Calls Try.prog 83 #[.int .i64 s] w fun e w' => e = .returned (.bool (isz s)) ∧ w = w' := by
  by_cases h1 : s = 1
  · subst h1
    go_enter Try.func83, Try.ntmps83
    go_wp2
    go_ret
    exact ⟨rfl, rfl⟩
  by_cases h2 : s = 2
  · subst h2
    go_enter Try.func83, Try.ntmps83
    go_wp2
    go_ret
    exact ⟨rfl, rfl⟩
  by_cases h4 : s = 4
  · subst h4
    go_enter Try.func83, Try.ntmps83
    go_wp2
    go_ret
    exact ⟨rfl, rfl⟩
  have hz : isz s = false := by simp [isz, h1, h2, h4]
  rw [hz]
  have g1 : (s == 1) = false := by simp [h1]
  have g2 : (s == 2) = false := by simp [h2]
  have g4 : (s == 4) = false := by simp [h4]
  clear h1 h2 h4 hz
  go_enter Try.func83, Try.ntmps83
  go_wp2
  go_ret
  exact ⟨rfl, rfl⟩

set_option maxHeartbeats 400000 in
theorem right1_any (s : Int) (w : World) :
    Calls Try.prog 73 #[.int .i64 s] w fun e w' => e = .returned (.bool (isz s)) ∧ w = w' := by
  by_cases h1 : s = 1
  · subst h1
    go_enter Try.func73, Try.ntmps73
    go_wp2
    go_ret
    exact ⟨rfl, rfl⟩
  by_cases h2 : s = 2
  · subst h2
    go_enter Try.func73, Try.ntmps73
    go_wp2
    go_ret
    exact ⟨rfl, rfl⟩
  by_cases h4 : s = 4
  · subst h4
    go_enter Try.func73, Try.ntmps73
    go_wp2
    go_ret
    exact ⟨rfl, rfl⟩
  have hz : isz s = false := by simp [isz, h1, h2, h4]
  rw [hz]
  have g1 : (s == 1) = false := by simp [h1]
  have g2 : (s == 2) = false := by simp [h2]
  have g4 : (s == 4) = false := by simp [h4]
  clear h1 h2 h4 hz
  go_enter Try.func73, Try.ntmps73
  go_wp2
  go_ret
  exact ⟨rfl, rfl⟩

theorem isSize_yes {s : Int} (h : isz s = true) (w : World) : Calls Try.prog 83 #[.int .i64 s] w fun e w' => e = .returned (.bool true) ∧ w = w' := by
  have := isSize_any s w; rw [h] at this; exact this
theorem isSize_no {s : Int} (h : isz s = false) (w : World) : Calls Try.prog 83 #[.int .i64 s] w fun e w' => e = .returned (.bool false) ∧ w = w' := by
  have := isSize_any s w; rw [h] at this; exact this
theorem right1_yes {s : Int} (h : isz s = true) (w : World) : Calls Try.prog 73 #[.int .i64 s] w fun e w' => e = .returned (.bool true) ∧ w = w' := by
  have := right1_any s w; rw [h] at this; exact this
theorem right1_no {s : Int} (h : isz s = false) (w : World) : Calls Try.prog 73 #[.int .i64 s] w fun e w' => e = .returned (.bool false) ∧ w = w' := by
  have := right1_any s w; rw [h] at this; exact this

set_option maxHeartbeats 400000 in
theorem Right_no {n s : Int} (h : isz s = false) (w : World) :
    Calls Try.prog 66 #[.int .i64 n, .int .i64 s] w fun e w' => e = .returned (.bool false) ∧ w = w' := by
  have H := hide h
  clear h
  go_enter Try.func66, Try.ntmps66
  go_wp2_with (go_at_call 83; refine (isSize_no H.out _).mono ?_; rintro e w' ⟨rfl, rfl⟩)
  go_ret
  exact ⟨rfl, rfl⟩

set_option maxHeartbeats 400000 in
theorem Right_neg {n s : Int} (h : isz s = true) (hn : n < 0) (w : World) :
    Calls Try.prog 66 #[.int .i64 n, .int .i64 s] w fun e w' => e = .returned (.bool false) ∧ w = w' := by
  have H := hide h
  clear h
  have hd : decide (0 ≤ n) = false := by simp; omega
  go_enter Try.func66, Try.ntmps66
  go_wp2_with (go_at_call 83; refine (isSize_yes H.out _).mono ?_; rintro e w' ⟨rfl, rfl⟩)
  go_ret
  exact ⟨rfl, rfl⟩

set_option maxHeartbeats 400000 in
theorem Right_dec {n s : Int} (h : isz s = true) (hn : 0 ≤ n) (w : World) :
    Calls Try.prog 66 #[.int .i64 n, .int .i64 s] w fun e w' => e = .returned (.bool (decide (n < 256 ^ s.toNat))) ∧ w = w' := by
  have hd : decide (0 ≤ n) = true := by simp; omega
  rcases isz_cases h with rfl | rfl | rfl
  all_goals
    have H := hide h
    clear h
    go_enter Try.func66, Try.ntmps66
    go_wp2_with (go_at_call 83; refine (isSize_yes H.out _).mono ?_; rintro e w' ⟨rfl, rfl⟩)
    go_ret
    exact ⟨rfl, rfl⟩

end Go.Proofs.Ythjjjeolpdekoaa
