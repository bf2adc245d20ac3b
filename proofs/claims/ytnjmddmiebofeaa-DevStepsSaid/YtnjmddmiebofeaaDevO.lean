/- What any calls keep: the invariant of the laws DevSafe and DevSteps. -/
import Derived.Test.YtnjmddmiebofeaaDevN
namespace Go.Proofs.Ytnjmddmiebofeaa
open Go.RowKit Plain

structure DOkB (s : DSt) (k : Nat) : Prop where
  n : s.safe.length ≤ 1000
  m : s.wait.length ≤ k
  at_ : ∀ p ∈ s.wait, 0 ≤ p.1 ∧ p.1 < s.safe.length ∧ p.2.length = 64
  left0 : s.armed = true → 0 ≤ s.left
  left1 : s.left ≤ 9223372036854775807
  wr : 0 ≤ s.wr ∧ s.wr ≤ k
  fl : 0 ≤ s.fl ∧ s.fl ≤ k
  last : s.last = flushTo s.safe s.wait s.wait.length
theorem DOkB.ok {s : DSt} {k : Nat} (h : DOkB s k) (hk : k ≤ 1000) : DOk s :=
  ⟨by have := h.n; omega, by have := h.m; omega, h.at_, h.left0, h.left1, ⟨h.wr.1, by have := h.wr.2; omega⟩, ⟨h.fl.1, by have := h.fl.2; omega⟩⟩
theorem DOkB.more {s : DSt} {k j : Nat} (h : DOkB s k) (hk : k ≤ j) : DOkB s j :=
  ⟨h.n, by have := h.m; omega, h.at_, h.left0, h.left1, ⟨h.wr.1, by have := h.wr.2; omega⟩, ⟨h.fl.1, by have := h.fl.2; omega⟩, h.last⟩
theorem flushTo_app (safe : List (List UInt8)) (wait : List (Int × List UInt8)) (p : Int × List UInt8) (k : Nat) (hk : k ≤ wait.length) : flushTo safe (wait ++ [p]) k = flushTo safe wait k := by
  induction k with
  | zero => rfl
  | succ k ih =>
    rw [flushTo_succ, flushTo_succ, ih (by omega)]
    unfold layS
    rw [show (wait ++ [p]).getD k (0, []) = wait.getD k (0, []) from by rw [List.getD_eq_getElem?_getD, List.getD_eq_getElem?_getD, List.getElem?_append_left (by omega)]]
theorem flushTo_snoc (safe : List (List UInt8)) (wait : List (Int × List UInt8)) (i : Nat) (x : List UInt8) : flushTo safe (wait ++ [((i : Int), x)]) (wait ++ [((i : Int), x)]).length = (flushTo safe wait wait.length).set i x := by
  rw [show (wait ++ [((i : Int), x)]).length = wait.length + 1 from by simp, flushTo_succ, flushTo_app _ _ _ _ (Nat.le_refl _)]
  unfold layS
  rw [show (wait ++ [((i : Int), x)]).getD wait.length (0, []) = ((i : Int), x) from by rw [List.getD_eq_getElem?_getD, List.getElem?_append_right (Nat.le_refl _)]; simp]
  rfl
theorem DOkB.dark {s : DSt} {k : Nat} (h : DOkB s k) : DOkB (dark s) (k + 1) :=
  ⟨h.n, by have := h.m; show s.wait.length ≤ _; omega, h.at_, h.left0, h.left1, ⟨h.wr.1, by have := h.wr.2; show s.wr ≤ _; omega⟩, ⟨h.fl.1, by have := h.fl.2; show s.fl ≤ _; omega⟩, h.last⟩
theorem leftD_ok {armed off : Bool} {left : Int} (hf : fails armed off left = false) (h0 : armed = true → 0 ≤ left) (h1 : left ≤ 9223372036854775807) : (armed = true → 0 ≤ leftD armed left) ∧ leftD armed left ≤ 9223372036854775807 := by
  unfold fails at hf
  unfold leftD
  cases armed with
  | false => exact ⟨fun h => (by cases h), by simpa using h1⟩
  | true =>
    have h2 := h0 rfl
    have h3 : left ≠ 0 := by
      intro e
      subst e
      simp at hf
    simp only [if_true]
    exact ⟨fun _ => by omega, by omega⟩
theorem DOkB.flush {s : DSt} {k : Nat} (h : DOkB s k) (hf : fails s.armed s.off s.left = false) : DOkB (flushD s) (k + 1) := by
  obtain ⟨l0, l1⟩ := leftD_ok hf h.left0 h.left1
  refine ⟨?_, Nat.zero_le _, fun p hp => (by cases hp), l0, l1, ⟨h.wr.1, by have := h.wr.2; show s.wr ≤ _; omega⟩, ⟨?_, ?_⟩, ?_⟩
  · show (flushTo s.safe s.wait s.wait.length).length ≤ 1000
    rw [flushTo_len]
    exact h.n
  · show 0 ≤ s.fl + 1
    have := h.fl.1
    omega
  · show s.fl + 1 ≤ _
    have := h.fl.2
    omega
  · exact h.last
theorem DOkB.crash {s : DSt} {k : Nat} (h : DOkB s k) (kept : List Bool) : DOkB (crashD s kept) (k + 1) := by
  refine ⟨?_, Nat.zero_le _, fun p hp => (by cases hp), fun e => (by cases e), h.left1, ⟨h.wr.1, by have := h.wr.2; show s.wr ≤ _; omega⟩, ⟨h.fl.1, by have := h.fl.2; show s.fl ≤ _; omega⟩, rfl⟩
  show (crashTo s.safe s.wait kept s.wait.length).length ≤ 1000
  rw [crashTo_len]
  exact h.n
theorem DOkB.write {s : DSt} {k i : Nat} {x : List UInt8} (h : DOkB s k) (hf : fails s.armed s.off s.left = false) (hi : i < s.safe.length) (hx : x.length = 64) : DOkB (writeD s i x) (k + 1) := by
  obtain ⟨l0, l1⟩ := leftD_ok hf h.left0 h.left1
  refine ⟨h.n, ?_, ?_, l0, l1, ⟨?_, ?_⟩, ⟨h.fl.1, by have := h.fl.2; show s.fl ≤ _; omega⟩, ?_⟩
  · show (s.wait ++ [((i : Int), x)]).length ≤ k + 1
    have := h.m
    simp
    omega
  · intro p hp
    rcases List.mem_append.1 (show p ∈ s.wait ++ [((i : Int), x)] from hp) with hp | hp
    · exact h.at_ p hp
    · obtain rfl : p = ((i : Int), x) := by simpa using hp
      exact ⟨by simp, by show (i : Int) < (s.safe.length : Int); omega, hx⟩
  · show 0 ≤ s.wr + 1
    have := h.wr.1
    omega
  · show s.wr + 1 ≤ _
    have := h.wr.2
    omega
  · show s.last.set i x = flushTo s.safe (s.wait ++ [((i : Int), x)]) (s.wait ++ [((i : Int), x)]).length
    rw [flushTo_snoc, ← h.last]
theorem DOkB.step {s : DSt} {k : Nat} {t : StepV} (h : DOkB s k) (ht : t.at_ ≤ 9223372036854775807) : DOkB (stepD s t) (k + 1) := by
  have hm := h.more (Nat.le_succ k)
  unfold stepD
  split
  · split
    · exact hm
    · next hb =>
      split
      · exact hm
      · next h64 =>
        split
        · exact h.dark
        · next hf =>
          obtain ⟨h0, h1⟩ := badAt_no (by simpa using hb)
          exact h.write (by simpa using hf) (by omega) (by simpa using h64)
  · split
    · split
      · exact h.dark
      · next hf => exact h.flush (by simpa using hf)
    · split
      · refine ⟨h.n, hm.m, h.at_, fun e => ?_, ht, hm.wr, hm.fl, h.last⟩
        have e : decide (0 ≤ t.at_) = true := e
        exact of_decide_eq_true e
      · split
        · exact h.crash _
        · exact hm
theorem cutS_len (b : List UInt8) (n : Nat) : (cutS b n).length = n := by simp [cutS]
theorem DOkB.new (b : List UInt8) {n : Nat} (hn : n ≤ 1000) : DOkB (newD b n) 0 :=
  ⟨by show (cutS b n).length ≤ _; rw [cutS_len]; exact hn, Nat.le_refl _, fun p hp => (by cases hp), fun e => (by cases e), by show (0 : Int) ≤ _; omega, ⟨Int.le_refl _, Int.le_refl _⟩, ⟨Int.le_refl _, Int.le_refl _⟩, rfl⟩
theorem DOff_dk {w : World} {base dp : Nat} {s : DSt} {b : Bool} (h : DK w base dp s) (hb : s.off = b) : Calls Try.prog 13 #[dptr dp] w (fun e w' => e = .returned (.bool b) ∧ w = w') := by
  obtain ⟨gs, cs, gl, cl, A, c, hne, hbd, hr, hs, hl, hw⟩ := h
  subst hb
  exact DOff_any hr
/-- Behind a flush or a failure nothing waits, and what is read is safe. -/
theorem crash_same (s : DSt) (kept : List Bool) : (crashD s kept).last = (crashD s kept).safe := rfl
theorem crash_clean {s : DSt} (hw : s.wait = []) (kept : List Bool) : (crashD s kept).last = s.safe := by
  show crashTo s.safe s.wait kept s.wait.length = s.safe
  rw [hw]
  rfl
theorem flush_same {s : DSt} {k : Nat} (h : DOkB s k) : (flushD s).last = (flushD s).safe := h.last
end Go.Proofs.Ytnjmddmiebofeaa
