/- The reference's Go (layer 5) as one theorem: what the program's disk does, it does. -/
import Derived.Test.YtnjmddmiebofeaaRefDevJ
import Derived.Test.YtnjmddmiebofeaaDevO
namespace Go.Proofs.Ytnjmddmiebofeaa
open Go.RowKit Plain

/-- How many more come through, in the reference's words. -/
def leftR (s : DSt) : Int := if s.armed = true then s.left else -1
/-- The value is the reference's disk, of the same state. -/
def RD (w : World) (s : DSt) (v : Value) : Prop := ∃ A n c A2 m c2, v = dV (.slice A n c) (.slice A2 m c2) (leftR s) s.wr s.fl s.off ∧ n ≤ c ∧ m ≤ c2 ∧ RdE Enc.bytes w (Und w) A n s.safe ∧ RdE penE w (Und w) A2 m s.wait
def GoRet (w : World) (s : DSt) (l : List UInt8) (k : Int) (x : Ending) (w' : World) : Prop := ∃ v A n c, x = .returned (.tuple #[v, .slice A n c, .int .i64 k]) ∧ RD w' s v ∧ Bs w' w'.heap.size A n l ∧ Below w.heap.size w w'
def All64 (s : DSt) : Prop := ∀ x ∈ s.safe, x.length = 64
theorem flushTo_get {safe : List (List UInt8)} {wait : List (Int × List UInt8)} {i : Nat} (hi : i < safe.length) (hat : ∀ p ∈ wait, 0 ≤ p.1 ∧ p.1 < safe.length) : ∀ k, k ≤ wait.length → (flushTo safe wait k)[i]? = some (lastS safe (wait.take k) i) := by
  intro k
  induction k with
  | zero => intro _; simp [flushTo, lastS, List.getD, List.getElem?_eq_getElem hi]
  | succ k ih =>
    intro hk
    have hlt : k < wait.length := by omega
    rw [flushTo_succ, take_snoc hlt, lastS_snoc]
    unfold layS
    have hg : wait.getD k (0, []) = wait[k] := by simp [List.getD, List.getElem?_eq_getElem hlt]
    rw [hg]
    obtain ⟨h0, h1⟩ := hat wait[k] (List.getElem_mem hlt)
    by_cases he : wait[k].1 = (i : Int)
    · rw [if_pos he, show wait[k].1.toNat = i by omega, List.getElem?_set_self (by rw [flushTo_len]; exact hi)]
    · rw [if_neg he, List.getElem?_set_ne (by omega), ih (by omega)]
theorem mem64_set {l : List (List UInt8)} {i : Nat} {x : List UInt8} (h : ∀ y ∈ l, y.length = 64) (hx : x.length = 64) : ∀ y ∈ l.set i x, y.length = 64 := by
  intro y hy
  rcases List.mem_or_eq_of_mem_set hy with hy | rfl
  · exact h y hy
  · exact hx
theorem flushTo_64 {safe : List (List UInt8)} {wait : List (Int × List UInt8)} (h : ∀ y ∈ safe, y.length = 64) (hw : ∀ p ∈ wait, p.2.length = 64) : ∀ k, k ≤ wait.length → ∀ y ∈ flushTo safe wait k, y.length = 64 := by
  intro k
  induction k with
  | zero => intro _; exact h
  | succ k ih =>
    intro hk
    have hlt : k < wait.length := by omega
    rw [flushTo_succ]
    refine mem64_set (ih (by omega)) ?_
    rw [show wait.getD k (0, []) = wait[k] from by simp [List.getD, List.getElem?_eq_getElem hlt]]
    exact hw _ (List.getElem_mem hlt)
theorem crashTo_64 {safe : List (List UInt8)} {wait : List (Int × List UInt8)} {kept : List Bool} (h : ∀ y ∈ safe, y.length = 64) (hw : ∀ p ∈ wait, p.2.length = 64) : ∀ k, k ≤ wait.length → ∀ y ∈ crashTo safe wait kept k, y.length = 64 := by
  intro k
  induction k with
  | zero => intro _; exact h
  | succ k ih =>
    intro hk
    have hlt : k < wait.length := by omega
    rw [crashTo_succ]
    split
    · refine mem64_set (ih (by omega)) ?_
      rw [show wait.getD k (0, []) = wait[k] from by simp [List.getD, List.getElem?_eq_getElem hlt]]
      exact hw _ (List.getElem_mem hlt)
    · exact ih (by omega)
theorem All64.step {s : DSt} {k : Nat} {t : StepV} (h : All64 s) (ok : DOkB s k) : All64 (stepD s t) := by
  have hw : ∀ p ∈ s.wait, p.2.length = 64 := fun p hp => (ok.at_ p hp).2.2
  unfold stepD
  split
  · split
    · exact h
    · split
      · exact h
      · split
        · exact h
        · exact h
  · split
    · split
      · exact h
      · exact flushTo_64 h hw _ (Nat.le_refl _)
    · split
      · exact h
      · split
        · exact crashTo_64 h hw _ (Nat.le_refl _)
        · exact h
theorem goRet_of {w w' : World} {n : Nat} {s : DSt} {lf wn fl : Int} {off : Bool} {safe : List (List UInt8)} {wait : List (Int × List UInt8)} {out : List UInt8} {err : Int} {x : Ending} (h : GRet w n safe wait lf wn fl off out err x w') (h1 : s.safe = safe) (h2 : s.wait = wait) (h3 : leftR s = lf) (h4 : s.wr = wn) (h5 : s.fl = fl) (h6 : s.off = off) : GoRet w s out err x w' := by
  obtain ⟨A, c, A2, m, c2, A3, n3, c3, rfl, hnc, hmc, hs, hw, hb, hbel⟩ := h
  exact ⟨_, A3, n3, c3, rfl, ⟨A, n, c, A2, m, c2, by rw [h3, h4, h5, h6], hnc, hmc, by rw [h1]; exact hs, by rw [h2]; exact hw⟩, hb, hbel⟩
theorem fails_yes {armed off : Bool} {left : Int} (h : fails armed off left = true) : off = true ∨ (if armed = true then left else -1) = 0 := by
  unfold fails at h
  cases off with
  | true => exact .inl rfl
  | false =>
    cases armed with
    | true => right; simpa using h
    | false => simp at h
theorem fails_no {armed off : Bool} {left : Int} (h : fails armed off left = false) : off = false ∧ (if armed = true then left else -1) ≠ 0 := by
  unfold fails at h
  cases off with
  | true => simp at h
  | false =>
    refine ⟨rfl, ?_⟩
    cases armed with
    | true => simpa using h
    | false => simp
theorem left_step {armed : Bool} {left : Int} (h0 : armed = true → 0 ≤ left) (h : (if armed = true then left else -1) ≠ 0) : (if armed = true then leftD armed left else -1) = leftS (if armed = true then left else -1) := by
  unfold leftD leftS
  cases armed with
  | false => simp
  | true =>
    simp only [if_true] at h ⊢
    have := h0 rfl
    rw [if_pos (by omega)]
set_option maxHeartbeats 1600000 in
theorem go_any {w : World} {A A2 A1 AK : Option Addr} {n c m c2 n1 k1 nk ck k : Nat} {s : DSt} {dd at_ : Int} {bytes : List UInt8} {kept : List Bool} (hs : RdE Enc.bytes w (Und w) A n s.safe) (hnc : n ≤ c) (hw : RdE penE w (Und w) A2 m s.wait) (hmc : m ≤ c2) (ok : DOkB s k) (hk : k ≤ 1000) (h64 : All64 s) (hb : Bs w w.heap.size A1 n1 bytes) (hkp : RdE Enc.bool w (Under w.heap.size) AK nk kept) :
    Calls Try.prog 11 #[.agg #[.slice A n c, .slice A2 m c2, .int .i64 (leftR s), .int .i64 s.wr, .int .i64 s.fl, .bool s.off], .agg #[.int .i64 dd, .int .i64 at_, .slice A1 n1 k1, .slice AK nk ck]] w (GoRet w (stepD s ⟨dd, at_, bytes, kept⟩) (stepO s ⟨dd, at_, bytes, kept⟩) (stepK s ⟨dd, at_, bytes, kept⟩)) := by
  have hsl := hs.len
  have hwl := hw.len
  have hbl := hb.len
  have hn := ok.n
  have hm := ok.m
  have hat : ∀ p ∈ s.wait, 0 ≤ p.1 ∧ p.1 < s.safe.length := fun p hp => ⟨(ok.at_ p hp).1, (ok.at_ p hp).2.1⟩
  have hat2 : ∀ p ∈ s.wait, 0 ≤ p.1 ∧ p.1 < n := fun p hp => by rw [← hsl]; exact hat p hp
  have hl1 : leftR s ≤ 9223372036854775807 := by
    unfold leftR
    split
    · exact ok.left1
    · omega
  by_cases h1 : dd = 1
  · subst h1
    cases hi : badAt s at_ with
    | true =>
      have hr := badAt_yes hi
      rw [hsl] at hr
      refine (RDGo_range (dd := 1) _ _ hs hnc hw hmc _ (by decide) (by decide) (by decide) hr).mono fun e w' h => ?_
      simp only [stepD, stepO, stepK, hi, if_true, true_or]
      exact goRet_of h rfl rfl rfl rfl rfl rfl
    | false =>
      obtain ⟨h0, h5⟩ := badAt_no hi
      rw [hsl] at h5
      by_cases hx : n1 = 64
      · subst hx
        cases hf : fails s.armed s.off s.left with
        | true =>
          refine (RDGo_wpower _ _ hs hnc hw hmc (fails_yes hf) h0 h5 rfl).mono fun e w' h => ?_
          simp only [stepD, stepO, stepK, hi, hf, hbl, if_true, true_or, ne_eq, not_true_eq_false, Bool.false_eq_true, if_false]
          exact goRet_of h rfl rfl rfl rfl rfl rfl
        | false =>
          obtain ⟨ho, hl⟩ := fails_no hf
          obtain ⟨q, rfl⟩ := Int.eq_ofNat_of_zero_le h0
          have hlf := left_step ok.left0 hl
          rw [ho]
          refine (RDGo_write _ _ hs hnc hw hmc hl hl1 (by have := ok.wr; omega) (by have := ok.wr; omega) (by omega) (by omega) hb).mono fun e w' h => ?_
          simp only [stepD, stepO, stepK, hi, hf, hbl, if_true, true_or, ne_eq, not_true_eq_false, Bool.false_eq_true, if_false]
          exact goRet_of h rfl rfl hlf rfl rfl ho
      · refine (RDGo_arg _ _ hs hnc hw hmc _ h0 h5 hx).mono fun e w' h => ?_
        rw [← hbl] at hx
        simp only [stepD, stepO, stepK, hi, hx, if_true, true_or, ne_eq, not_false_eq_true, Bool.false_eq_true, if_false]
        exact goRet_of h rfl rfl rfl rfl rfl rfl
  by_cases h2 : dd = 2
  · subst h2
    cases hf : fails s.armed s.off s.left with
    | true =>
      refine (RDGo_fpower _ _ hs hnc hw hmc (fails_yes hf)).mono fun e w' h => ?_
      simp only [stepD, stepO, stepK, hf, if_true, true_or, or_true, h1, if_false]
      exact goRet_of h rfl rfl rfl rfl rfl rfl
    | false =>
      obtain ⟨ho, hl⟩ := fails_no hf
      have hlf := left_step ok.left0 hl
      rw [ho]
      refine (RDGo_flush _ _ hs hnc hw hmc hl hl1 (by have := ok.fl; omega) (by have := ok.fl; omega) (by omega) (by omega) hat2).mono fun e w' h => ?_
      simp only [stepD, stepO, stepK, hf, if_true, true_or, or_true, h1, if_false, Bool.false_eq_true]
      exact goRet_of h (by rw [← hwl]; rfl) rfl hlf rfl rfl ho
  by_cases h3 : dd = 3
  · subst h3
    refine (RDGo_arm _ _ hs hnc hw hmc _).mono fun e w' h => ?_
    simp only [stepD, stepO, stepK, if_true, true_or, or_true, h1, h2, if_false]
    refine goRet_of h rfl rfl ?_ rfl rfl rfl
    show (if decide (0 ≤ at_) = true then at_ else -1) = max at_ (-1)
    by_cases h0 : 0 ≤ at_
    · rw [if_pos (by simpa using h0)]; omega
    · rw [if_neg (by simpa using h0)]; omega
  by_cases h4 : dd = 4
  · subst h4
    refine (RDGo_crash _ _ hs hnc hw hmc _ hkp (by omega) (by omega) hat2).mono fun e w' h => ?_
    simp only [stepD, stepO, stepK, if_true, or_true, h1, h2, h3, if_false]
    exact goRet_of h (by rw [← hwl]; rfl) rfl rfl rfl rfl rfl
  have d1 : (dd == 1) = false := by simpa using h1
  have d1' : (dd != 1) = true := by simpa using h1
  have d2 : (dd != 2) = true := by simpa using h2
  have d3 : (dd == 3) = false := by simpa using h3
  have d4 : (dd == 4) = false := by simpa using h4
  simp only [stepD, stepO, stepK, h1, h2, h3, h4, if_false, or_self]
  cases hi : badAt s at_ with
  | true =>
    have hr := badAt_yes hi
    rw [hsl] at hr
    refine (RDGo_range _ _ hs hnc hw hmc _ d3 d4 d2 hr).mono fun e w' h => ?_
    simp only [if_true]
    exact goRet_of h rfl rfl rfl rfl rfl rfl
  | false =>
    obtain ⟨h0, h5⟩ := badAt_no hi
    have h5' := h5
    rw [hsl] at h5
    cases ho : s.off with
    | true =>
      refine (RDGo_dark _ _ hs hnc hw hmc _ d3 d4 d2 d1 d1' h0 h5).mono fun e w' h => ?_
      simp only [if_true, Bool.false_eq_true, if_false]
      exact goRet_of h rfl rfl rfl rfl rfl ho
    | false =>
      obtain ⟨q, rfl⟩ := Int.eq_ofNat_of_zero_le h0
      have hq : q < s.safe.length := by omega
      have hlx : s.last.getD q [] = lastS s.safe s.wait q := by
        have := flushTo_get hq hat s.wait.length (Nat.le_refl _)
        rw [List.take_of_length_le (Nat.le_refl _)] at this
        rw [ok.last, List.getD_eq_getElem?_getD, this]
        rfl
      refine (RDGo_read _ _ hs hnc hw hmc d3 d4 d2 d1 d1' (by omega) (by omega) rfl (lastS_len h64 (fun p hp => (ok.at_ p hp).2.2) hq)).mono fun e w' h => ?_
      simp only [Bool.false_eq_true, if_false, Int.toNat_natCast, hlx]
      exact goRet_of h rfl rfl rfl rfl rfl ho
end Go.Proofs.Ytnjmddmiebofeaa
