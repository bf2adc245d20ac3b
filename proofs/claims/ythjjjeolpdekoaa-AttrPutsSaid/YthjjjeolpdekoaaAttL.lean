/- Attributes: what their bits are (layer 9). -/
import Derived.Test.YthjjjeolpdekoaaAttD
namespace Go.Proofs.Ythjjjeolpdekoaa
open Go.RowKit Plain

theorem bits_h : ∀ h : Fin 32, (∀ k : Fin 4, bitI (bits .xor .i64 (-1) h.1) k.1 = !bitI h.1 k.1) ∧ bits .andNot .i64 h.1 (bits .xor .i64 (-1) h.1) = h.1 := by decide +kernel
theorem bits_hn : ∀ h : Fin 32, ∀ n : Fin 256, (∀ k : Fin 4, bitI (bits .andNot .i64 h.1 n.1) k.1 = (bitI h.1 k.1 && !bitI n.1 k.1)) ∧ (0 ≤ bits .andNot .i64 h.1 n.1 ∧ bits .andNot .i64 h.1 n.1 ≤ 31) ∧ bits .andNot .i64 (bits .andNot .i64 h.1 n.1) n.1 = bits .andNot .i64 h.1 n.1 := by decide +kernel
theorem fin_h {h : Int} (h0 : 0 ≤ h) (h1 : h ≤ 31) : ∃ k : Fin 32, h = (k.1 : Int) := ⟨⟨h.toNat, by omega⟩, by simp; omega⟩
/-- What there is not says nothing. -/
def quietA (x : AttV) : Prop := (bitI x.h 0 = false → x.o = 0) ∧ (bitI x.h 1 = false → x.r = []) ∧ (bitI x.h 2 = false → x.l = 0 ∧ x.i = 0 ∧ x.g = 0) ∧ (bitI x.h 3 = false → x.s = 0)
theorem ite_q {α : Type} (c : Bool) (z a : α) : ((if (!c) = true then z else a) = a) ↔ (c = false → a = z) := by
  cases c
  · simp only [Bool.not_false, if_true, forall_const]
    exact ⟨fun h => h.symm, fun h => h.symm⟩
  · simp
theorem bitsA_iff {x : AttV} (h0 : 0 ≤ x.h) (h1 : x.h ≤ 31) : bitsA x = true ↔ quietA x := by
  obtain ⟨k, hk⟩ := fin_h h0 h1
  obtain ⟨hb, ha⟩ := bits_h k
  rw [← hk] at hb ha
  have b0 : bitI (bits .xor .i64 (-1) x.h) 0 = !bitI x.h 0 := hb 0
  have b1 : bitI (bits .xor .i64 (-1) x.h) 1 = !bitI x.h 1 := hb 1
  have b2 : bitI (bits .xor .i64 (-1) x.h) 2 = !bitI x.h 2 := hb 2
  have b3 : bitI (bits .xor .i64 (-1) x.h) 3 = !bitI x.h 3 := hb 3
  unfold bitsA quietA dropA
  rw [decide_eq_true_eq, AttV.ext_iff', b0, b1, b2, b3, ha]
  simp only [ite_q]
  constructor
  · rintro ⟨_, q0, q1, q2, q3, q4, q5⟩
    exact ⟨q0, q1, fun h => ⟨q2 h, q3 h, q4 h⟩, q5⟩
  · rintro ⟨q0, q1, q2, q3⟩
    exact ⟨trivial, q0, q1, fun h => (q2 h).1, fun h => (q2 h).2.1, fun h => (q2 h).2.2, q3⟩
theorem rightA_iff (x : AttV) : rightA x = true ↔ inB x.h 31 = true ∧ quietA x ∧ (bitI x.h 1 = true → x.r ≠ []) ∧ inB x.o 255 = true ∧ inB x.r.length 24 = true ∧ oriB x.l x.i x.g = true ∧ inB x.s 65535 = true := by
  unfold rightA
  simp only [Bool.and_eq_true]
  constructor
  · rintro ⟨h1, h2, h3, h4⟩
    obtain ⟨a, b⟩ := inB_yes h1
    refine ⟨h1, (bitsA_iff a b).1 h2, fun hb e => ?_, h4⟩
    rw [hb, e] at h3
    cases h3
  · rintro ⟨h1, h2, h3, h4⟩
    obtain ⟨a, b⟩ := inB_yes h1
    refine ⟨h1, (bitsA_iff a b).2 h2, ?_, h4⟩
    cases hb : bitI x.h 1
    · rfl
    · have := h3 hb
      cases hr : x.r
      · exact absurd hr this
      · rfl
theorem drop_h {x : AttV} (h0 : 0 ≤ x.h) (h1 : x.h ≤ 31) {n : Nat} (hn : n < 256) : 0 ≤ (dropA x n).h ∧ (dropA x n).h ≤ 31 := by
  obtain ⟨k, hk⟩ := fin_h h0 h1
  have := (bits_hn k ⟨n, hn⟩).2.1
  rw [← hk] at this
  exact this
theorem drop_drop {x : AttV} (h0 : 0 ≤ x.h) (h1 : x.h ≤ 31) {n : Nat} (hn : n < 256) : dropA (dropA x n) n = dropA x n := by
  obtain ⟨k, hk⟩ := fin_h h0 h1
  have := (bits_hn k ⟨n, hn⟩).2.2
  rw [← hk] at this
  unfold dropA
  rw [AttV.ext_iff']
  refine ⟨this, ?_⟩
  simp only
  cases bitI n 0 <;> cases bitI n 1 <;> cases bitI n 2 <;> cases bitI n 3 <;> simp
theorem drop_right {x : AttV} (h : rightA x = true) {n : Nat} (hn : n < 256) : rightA (dropA x n) = true := by
  rw [rightA_iff] at h ⊢
  obtain ⟨hh, hq, hr, ho, hl, hg, hs⟩ := h
  obtain ⟨h0, h1⟩ := inB_yes hh
  obtain ⟨k, hk⟩ := fin_h h0 h1
  have hb := (bits_hn k ⟨n, hn⟩).1
  rw [← hk] at hb
  have b0 : bitI (dropA x n).h 0 = (bitI x.h 0 && !bitI n 0) := hb 0
  have b1 : bitI (dropA x n).h 1 = (bitI x.h 1 && !bitI n 1) := hb 1
  have b2 : bitI (dropA x n).h 2 = (bitI x.h 2 && !bitI n 2) := hb 2
  have b3 : bitI (dropA x n).h 3 = (bitI x.h 3 && !bitI n 3) := hb 3
  obtain ⟨q0, q1, q2, q3⟩ := hq
  have hd := drop_h h0 h1 hn
  refine ⟨by simp [inB, hd.1, hd.2], ⟨?_, ?_, ?_, ?_⟩, ?_, ?_, ?_, ?_, ?_⟩
  · rw [b0]; unfold dropA; simp only
    cases hx : bitI n 0 <;> simp
    exact q0
  · rw [b1]; unfold dropA; simp only
    cases hx : bitI n 1 <;> simp
    exact q1
  · rw [b2]; unfold dropA; simp only
    cases hx : bitI n 2 <;> simp
    exact q2
  · rw [b3]; unfold dropA; simp only
    cases hx : bitI n 3 <;> simp
    exact q3
  · rw [b1]; unfold dropA; simp only
    cases hx : bitI n 1 <;> simp
    exact hr
  · unfold dropA; simp only
    cases hx : bitI n 0 <;> simp [ho]
    rfl
  · unfold dropA; simp only
    cases hx : bitI n 1 <;> simp [hl]
    rfl
  · unfold dropA; simp only
    cases hx : bitI n 2 <;> simp [hg]
    rfl
  · unfold dropA; simp only
    cases hx : bitI n 3 <;> simp [hs]
    rfl
end Go.Proofs.Ythjjjeolpdekoaa
