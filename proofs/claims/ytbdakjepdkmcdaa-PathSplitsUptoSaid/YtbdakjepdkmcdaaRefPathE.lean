/- The contract of the reference's Redirect (layer 4). -/
import Derived.Test.YtbdakjepdkmcdaaRefPathC
namespace Go.Proofs.Ytbdakjepdkmcdaa
open Go.RowKit Plain

/-- It returns a row of its own with the texts, and two bools; nothing that was there has turned. -/
def LRet2 (w : World) (e : Nat) (l : List (List UInt8)) (a b : Bool) (x : Ending) (w' : World) : Prop :=
  ∃ A n c, x = .returned (.tuple #[.slice A n c, .bool a, .bool b]) ∧ Ow st w' w.heap.size e A n c l ∧ Below w.heap.size w w'
theorem LRet2.nil {w w' : World} {e : Nat} {a b : Bool} (h : Below w.heap.size w w') : LRet2 w e [] a b (.returned (.tuple #[.slice none 0 0, .bool a, .bool b])) w' := ⟨none, 0, 0, rfl, Ow.nil_ _ _ _ _, h⟩

set_option maxHeartbeats 800000 in
theorem RRed_long {s : List UInt8} (w : World) (h : 24 < s.length) : Calls Try.prog 31 #[st s] w (LRet2 w 9 [] false false) := by
  show Calls _ _ #[.string ⟨s.toArray⟩] _ _
  go_enter Try.func31, Try.ntmps31
  go_wp2
  go_ret3
  exact LRet2.nil (below_self w)

set_option maxHeartbeats 800000 in
theorem RRed_abs {s : List UInt8} (w : World) (h : ¬ 24 < s.length) (hh : headB s = true) : Calls Try.prog 31 #[st s] w (LRet2 w 9 (splitS s) (splitB s) (splitB s)) := by
  show Calls _ _ #[.string ⟨s.toArray⟩] _ _
  obtain ⟨hj, hbj⟩ := headB_get hh
  have hl0 : 0 < s.length := by cases s with | nil => simp [headB] at hh | cons c r => simp
  have hl2 : s.length ≤ 24 := by omega
  obtain ⟨l, hl⟩ : ∃ l, splitS s = l := ⟨_, rfl⟩
  obtain ⟨b, hb⟩ : ∃ b, splitB s = b := ⟨_, rfl⟩
  rw [hl, hb]
  have HL := hide hl
  have HB := hide hb
  clear hh h hl hb
  go_enter Try.func31, Try.ntmps31
  go_wp2_with fail
  refine (RSplit_any _ (by omega)).mono ?_
  rw [HL.out, HB.out]
  rintro e w1 ⟨A1, n1, c1, rfl, hown, hbel⟩
  have HO := hide hown
  have HBE := hide hbel
  clear hown hbel
  go_wp2_with fail
  go_ret3
  exact ⟨_, _, _, rfl, HO.out, HBE.out⟩

set_option maxHeartbeats 800000 in
theorem RRed_one {s : List UInt8} (w : World) (h : ¬ 24 < s.length) (hh : headB s = false) : Calls Try.prog 31 #[st s] w (LRet2 w 9 (if nameB s = true then [s] else []) false (nameB s)) := by
  show Calls _ _ #[.string ⟨s.toArray⟩] _ _
  cases hn : nameB s with
  | true =>
    have hl := nameB_len hn
    have hl0 : 0 < s.length := by omega
    obtain ⟨c, r, hs⟩ : ∃ c r, s = c :: r := by cases s with | nil => simp at hl0 | cons c r => exact ⟨c, r, rfl⟩
    have hj : 0 < ByteArray.size ⟨s.toArray⟩ := hl0
    have hbj : (⟨s.toArray⟩ : ByteArray)[0]'hj = c := by subst hs; rfl
    have hc : c ≠ 47 := by subst hs; simpa [headB] using hh
    have htest : ((c.toNat : Int) == 47) = false := by
      simp only [beq_eq_false_iff_ne, ne_eq]
      intro e
      apply hc
      apply UInt8.toNat_inj.1
      have : c.toNat = 47 := by omega
      rw [this]
      rfl
    have hl2 : s.length ≤ 24 := by omega
    have HN := hide hn
    rw [if_pos rfl]
    clear hh h hn hl hs hc
    go_enter Try.func31, Try.ntmps31
    go_wp2_with fail
    refine (RNRight_b HN.out _ (by omega)).mono ?_
    rintro e w' ⟨rfl, rfl⟩
    go_wp2_with fail
    go_ret3
    exact ⟨_, _, _, rfl, Ow.lit w 9 (cs := [.string ⟨s.toArray⟩]) rfl rfl (by omega), below_new (below_self w) _⟩
  | false =>
    have hl2 : s.length ≤ 24 := by omega
    have HN := hide hn
    rw [if_neg (by simp)]
    cases s with
    | nil =>
      clear hh h hn
      go_enter Try.func31, Try.ntmps31
      go_wp2_with fail
      refine (RNRight_b (l := []) HN.out _ (by simp)).mono ?_
      rintro e w' ⟨rfl, rfl⟩
      go_wp2_with fail
      go_ret3
      exact LRet2.nil (below_self w)
    | cons c r =>
      have hj : 0 < ByteArray.size ⟨(c :: r).toArray⟩ := by simp [ByteArray.size]
      have hbj : (⟨(c :: r).toArray⟩ : ByteArray)[0]'hj = c := rfl
      have hc : c ≠ 47 := by simpa [headB] using hh
      have htest : ((c.toNat : Int) == 47) = false := by
        simp only [beq_eq_false_iff_ne, ne_eq]
        intro e
        apply hc
        apply UInt8.toNat_inj.1
        have : c.toNat = 47 := by omega
        rw [this]
        rfl
      obtain ⟨s, hs⟩ : ∃ s, s = c :: r := ⟨_, rfl⟩
      rw [← hs] at hl2 HN hj ⊢
      have hbj2 : (⟨s.toArray⟩ : ByteArray)[0]'hj = c := by subst hs; rfl
      have hl0 : 0 < s.length := by rw [hs]; simp
      clear hh h hn hc hs hbj
      go_enter Try.func31, Try.ntmps31
      go_wp2_with fail
      refine (RNRight_b HN.out _ (by omega)).mono ?_
      rintro e w' ⟨rfl, rfl⟩
      go_wp2_with fail
      go_ret3
      exact LRet2.nil (below_self w)

theorem RRed_any {s : List UInt8} (w : World) : Calls Try.prog 31 #[st s] w (LRet2 w 9 (redL s) (redA s) (redB s)) := by
  by_cases h : 24 < s.length
  · rw [show redL s = [] from by simp [redL, h], show redA s = false from by simp [redA, h], show redB s = false from by simp [redB, h]]
    exact RRed_long w h
  · cases hh : headB s with
    | true =>
      rw [show redL s = splitS s from by simp [redL, h, hh], show redA s = splitB s from by simp [redA, h, hh], show redB s = splitB s from by simp [redB, h, hh]]
      exact RRed_abs w h hh
    | false =>
      rw [show redL s = (if nameB s = true then [s] else []) from by simp [redL, h, hh], show redA s = false from by simp [redA, hh], show redB s = nameB s from by simp [redB, h, hh]]
      exact RRed_one w h hh
end Go.Proofs.Ytbdakjepdkmcdaa
