/- Contracts of the program's name.Right and Pack. -/
import Derived.Test.YthjjjeolpdekoaaNameR
import Derived.Test.YthjjjeolpdekoaaMemS
namespace Go.Proofs.Ythjjjeolpdekoaa
open Go.RowKit Plain

set_option maxHeartbeats 400000 in
theorem NRight_any (l : List UInt8) (w : World) (hl : l.length ≤ 140737488355328) :
    Calls Try.prog 49 #[st l] w (BoolB w (nameB l)) := by
  unfold st
  by_cases h1 : l = []
  · subst h1
    go_enter Try.func49, Try.ntmps49
    go_wp2_with fail
    go_ret
    exact BoolB.of (below_self w)
  by_cases h2 : 12 < l.length
  · have hr : nameB l = false := by
      have : decide (1 ≤ l.length ∧ l.length ≤ 12) = false := by simp; omega
      simp [nameB, this]
    rw [hr]
    clear hr
    have e1 : ¬ l = [] := h1
    have d1 : (l == []) = false := by simpa using h1
    have d2 : decide ((12 : Int) < (l.length : Int)) = true := by simp; omega
    clear h1
    go_enter Try.func49, Try.ntmps49
    go_wp2_with fail
    go_ret
    exact BoolB.of (below_self w)
  by_cases h3 : l = [46]
  · subst h3
    go_enter Try.func49, Try.ntmps49
    go_wp2_with fail
    go_ret
    exact BoolB.of (below_self w)
  by_cases h4 : l = [46, 46]
  · subst h4
    go_enter Try.func49, Try.ntmps49
    go_wp2_with fail
    go_ret
    exact BoolB.of (below_self w)
  have d2 : decide ((12 : Int) < (l.length : Int)) = false := by simp; omega
  have d1 : (l == []) = false := by simpa using h1
  have d3 : (l == [46]) = false := by simpa using h3
  have d4 : (l == [46, 46]) = false := by simpa using h4
  have hr : nameB l = l.all fun x => letB x.toNat := by
    have hpos : 0 < l.length := List.length_pos_iff.2 h1
    have : decide (1 ≤ l.length ∧ l.length ≤ 12) = true := by simp; omega
    simp [nameB, this, d3, d4]
  obtain ⟨b, hb⟩ : ∃ b, nameB l = b := ⟨_, rfl⟩
  rw [hb]
  rw [hr] at hb
  have HB := hide hb
  clear hr hb h1 h3 h4 h2
  have kc := Lib.run_convert_string_bytes (P := Try.prog) w 9 24 5 ⟨l.toArray⟩ Try.underlying9 Try.underlying24 Try.underlying5
  go_enter Try.func49, Try.ntmps49
  go_wp2_with fail
  clear kc
  refine (ContainsFunc_b _ (Bs.bytesWorld w 5 l) hl HB.out).mono ?_
  rintro e w' ⟨rfl, rfl⟩
  go_wp2_with fail
  go_ret
  exact BoolB.eq (by simp) (below_bytesWorld _ _ _)
theorem NRight_b {l : List UInt8} {b : Bool} (h : nameB l = b) (w : World) (hl : l.length ≤ 140737488355328) :
    Calls Try.prog 49 #[st l] w (BoolB w b) := by
  have := NRight_any l w hl; rw [h] at this; exact this
end Go.Proofs.Ythjjjeolpdekoaa
