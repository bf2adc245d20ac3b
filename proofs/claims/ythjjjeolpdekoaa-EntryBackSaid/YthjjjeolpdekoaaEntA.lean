/- entry.Right, Put; the reference's Right, Bytes, Put (layer 8). -/
import Derived.Test.YthjjjeolpdekoaaNameU
import Derived.Test.YthjjjeolpdekoaaNameT
import Derived.Test.YthjjjeolpdekoaaRefNameC
import Derived.Test.YthjjjeolpdekoaaMemI
import Derived.Test.YthjjjeolpdekoaaPlanG
import Derived.Test.YthjjjeolpdekoaaRefGeoD
namespace Go.Proofs.Ythjjjeolpdekoaa
open Go.RowKit Plain

/-- An entry. -/
structure EntV where
  (slot ino : Int)
  name : List UInt8
  deriving DecidableEq
def ent0 : EntV := ⟨0, 0, []⟩
/-- May the entry be? -/
def rightE (x : EntV) : Bool := (decide (0 ≤ x.slot ∧ x.slot < 16) && decide (1 ≤ x.ino ∧ x.ino ≤ 65535)) && nameB x.name
/-- Its bytes, and the error. -/
def putE (x : EntV) : List UInt8 := if rightE x = true then nb 2 x.ino.toNat ++ packS x.name else []
def errE (x : EntV) : Int := if rightE x = true then 0 else 1
theorem rightE_parts {x : EntV} (h : rightE x = true) : (0 ≤ x.slot ∧ x.slot < 16) ∧ (1 ≤ x.ino ∧ x.ino ≤ 65535) ∧ nameB x.name = true := by
  unfold rightE at h
  rw [Bool.and_eq_true, Bool.and_eq_true, decide_eq_true_eq, decide_eq_true_eq] at h
  exact ⟨h.1.1, h.1.2, h.2⟩
theorem putE_len {x : EntV} (h : rightE x = true) : (putE x).length = 16 := by
  unfold putE
  rw [if_pos h, List.length_append, nb_length, packS_length (rightE_parts h).2.2]

set_option maxRecDepth 100000 in
set_option maxHeartbeats 800000 in
theorem ERight_any (x : EntV) (w : World) (hl : x.name.length ≤ 140737488355328) : Calls Try.prog 14 #[.agg #[.int .i64 x.slot, .int .i64 x.ino, st x.name]] w (BoolB w (rightE x)) := by
  have HB := hide (below_new (below_self w) (.cells #[.int .i64 x.slot, .int .i64 x.ino, st x.name] 23))
  unfold rightE
  by_cases h0 : 0 ≤ x.slot
  rotate_left
  · have e : (decide (0 ≤ x.slot ∧ x.slot < 16) && decide (1 ≤ x.ino ∧ x.ino ≤ 65535)) = false := by simp; omega
    have h0' : x.slot < 0 := by omega
    rw [e, Bool.false_and]
    clear e h0
    go_enter Try.func14, Try.ntmps14
    go_wp2_with fail
    go_ret
    exact ⟨rfl, HB.out⟩
  by_cases h1 : x.slot < 16
  rotate_left
  · have e : (decide (0 ≤ x.slot ∧ x.slot < 16) && decide (1 ≤ x.ino ∧ x.ino ≤ 65535)) = false := by simp; omega
    have h1' : 16 ≤ x.slot := by omega
    rw [e, Bool.false_and]
    clear e h1
    go_enter Try.func14, Try.ntmps14
    go_wp2_with fail
    go_ret
    exact ⟨rfl, HB.out⟩
  by_cases h2 : 1 ≤ x.ino
  rotate_left
  · have e : (decide (0 ≤ x.slot ∧ x.slot < 16) && decide (1 ≤ x.ino ∧ x.ino ≤ 65535)) = false := by simp; omega
    have h2' : x.ino < 1 := by omega
    rw [e, Bool.false_and]
    clear e h2
    go_enter Try.func14, Try.ntmps14
    go_wp2_with fail
    go_ret
    exact ⟨rfl, HB.out⟩
  by_cases h3 : x.ino ≤ 65535
  rotate_left
  · have e : (decide (0 ≤ x.slot ∧ x.slot < 16) && decide (1 ≤ x.ino ∧ x.ino ≤ 65535)) = false := by simp; omega
    have h3' : 65535 < x.ino := by omega
    rw [e, Bool.false_and]
    clear e h3
    go_enter Try.func14, Try.ntmps14
    go_wp2_with fail
    go_ret
    exact ⟨rfl, HB.out⟩
  · have e : (decide (0 ≤ x.slot ∧ x.slot < 16) && decide (1 ≤ x.ino ∧ x.ino ≤ 65535)) = true := by simp; omega
    rw [e]
    clear e
    cases hn : nameB x.name with
    | false =>
      rw [Bool.and_false]
      go_enter Try.func14, Try.ntmps14
      go_wp2_with fail
      refine (NRight_b hn _ hl).mono ?_
      rintro e w2 ⟨rfl, hbel⟩
      have HB2 := hide (below_step HB.out hbel)
      go_wp2_with fail
      go_ret
      exact ⟨rfl, HB2.out⟩
    | true =>
      rw [Bool.and_true]
      go_enter Try.func14, Try.ntmps14
      go_wp2_with fail
      refine (NRight_b hn _ hl).mono ?_
      rintro e w2 ⟨rfl, hbel⟩
      have HB2 := hide (below_step HB.out hbel)
      go_wp2_with fail
      go_ret
      exact ⟨rfl, HB2.out⟩
set_option maxRecDepth 100000 in
set_option maxHeartbeats 800000 in
theorem RERight_any (x : EntV) (w : World) (hl : x.name.length ≤ 140737488355328) : Calls Try.prog 15 #[.agg #[.int .i64 x.slot, .int .i64 x.ino, st x.name]] w (BoolB w (rightE x)) := by
  have HB := hide (below_new (below_self w) (.cells #[.int .i64 x.slot, .int .i64 x.ino, st x.name] 23))
  unfold rightE
  by_cases h0 : 0 ≤ x.slot
  rotate_left
  · have e : (decide (0 ≤ x.slot ∧ x.slot < 16) && decide (1 ≤ x.ino ∧ x.ino ≤ 65535)) = false := by simp; omega
    have h0' : x.slot < 0 := by omega
    rw [e, Bool.false_and]
    clear e h0
    go_enter Try.func15, Try.ntmps15
    go_wp2_with fail
    go_ret
    exact ⟨rfl, HB.out⟩
  by_cases h1 : x.slot < 16
  rotate_left
  · have e : (decide (0 ≤ x.slot ∧ x.slot < 16) && decide (1 ≤ x.ino ∧ x.ino ≤ 65535)) = false := by simp; omega
    have h1' : 16 ≤ x.slot := by omega
    rw [e, Bool.false_and]
    clear e h1
    go_enter Try.func15, Try.ntmps15
    go_wp2_with fail
    go_ret
    exact ⟨rfl, HB.out⟩
  by_cases h2 : 1 ≤ x.ino
  rotate_left
  · have e : (decide (0 ≤ x.slot ∧ x.slot < 16) && decide (1 ≤ x.ino ∧ x.ino ≤ 65535)) = false := by simp; omega
    have h2' : x.ino < 1 := by omega
    rw [e, Bool.false_and]
    clear e h2
    go_enter Try.func15, Try.ntmps15
    go_wp2_with fail
    go_ret
    exact ⟨rfl, HB.out⟩
  by_cases h3 : x.ino ≤ 65535
  rotate_left
  · have e : (decide (0 ≤ x.slot ∧ x.slot < 16) && decide (1 ≤ x.ino ∧ x.ino ≤ 65535)) = false := by simp; omega
    have h3' : 65535 < x.ino := by omega
    rw [e, Bool.false_and]
    clear e h3
    go_enter Try.func15, Try.ntmps15
    go_wp2_with fail
    go_ret
    exact ⟨rfl, HB.out⟩
  · have e : (decide (0 ≤ x.slot ∧ x.slot < 16) && decide (1 ≤ x.ino ∧ x.ino ≤ 65535)) = true := by simp; omega
    rw [e]
    clear e
    cases hn : nameB x.name with
    | false =>
      rw [Bool.and_false]
      go_enter Try.func15, Try.ntmps15
      go_wp2_with fail
      refine (RNRight_b hn _ hl).mono ?_
      rintro e w2 ⟨rfl, rfl⟩
      have HB2 := HB
      go_wp2_with fail
      go_ret
      exact ⟨rfl, HB2.out⟩
    | true =>
      rw [Bool.and_true]
      go_enter Try.func15, Try.ntmps15
      go_wp2_with fail
      refine (RNRight_b hn _ hl).mono ?_
      rintro e w2 ⟨rfl, rfl⟩
      have HB2 := HB
      go_wp2_with fail
      go_ret
      exact ⟨rfl, HB2.out⟩
end Go.Proofs.Ythjjjeolpdekoaa
