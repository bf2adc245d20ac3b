/- Contracts of slices.Equal, slices.IsSorted and cmp.Less at strings. -/
import Derived.Test.YtnehkgbdppbhiaaRefNameA
import Derived.Test.YtnehkgbdppbhiaaSortP
import Derived.BigQuiet
import Derived.Deep.QuietTactic
namespace Go.Proofs.Ytnehkgbdppbhiaa
open Go.RowKit Plain

/-- It returns this bool, and nothing that was there has turned. -/
def BRt (w : World) (b : Bool) (x : Ending) (w' : World) : Prop := x = .returned (.bool b) ∧ Below w.heap.size w w'
theorem BRt.of {w w' : World} {b c : Bool} (h : Below w.heap.size w w') (hb : b = c) : BRt w c (.returned (.bool b)) w' := by subst hb; exact ⟨rfl, h⟩

set_option maxHeartbeats 800000 in
theorem EqualS_any {A B : Option Addr} {n m c d : Nat} {l k : List (List UInt8)} {W1 W2 : Nat} (w : World) (ha : Rd st w W1 A n l) (hb : Rd st w W2 B m k) (hn : n ≤ 140737488355328) :
    Calls Try.prog 14 #[.slice A n c, .slice B m d] w (BRt w (l == k)) := by
  by_cases hnm : n = m
  case neg =>
    have hne : (l == k) = false := by
      simp only [beq_eq_false_iff_ne, ne_eq]
      intro e
      apply hnm
      rw [← ha.len, ← hb.len, e]
    have HNE := hide hne
    have hd : ((n : Int) != (m : Int)) = true := by simp; omega
    clear ha hb hne
    go_enter Try.func14, Try.ntmps14
    go_wp2
    go_ret
    exact BRt.of (below_self w) HNE.out.symm
  subst hnm
  obtain ⟨r, hr⟩ : ∃ r, (l == k) = r := ⟨_, rfl⟩
  rw [hr]
  have HR := hide hr
  have HA := hide ha
  have HB := hide hb
  clear hr ha hb
  have hd : ((n : Int) != (n : Int)) = false := by simp
  go_enter Try.func14, Try.ntmps14
  go_wp2
  go_loopw [13] (fun i wr => ∃ j q : Nat, j ≤ n ∧ i = .int .i64 j ∧ l.take j = k.take j ∧ wr = w.drewN q) (fun i _ => n - (intOf i).toNat)
  case atStart => exact ⟨0, 0, by omega, rfl, rfl, rfl⟩
  case round =>
    obtain ⟨j, q, hj, rfl, htake, rfl⟩ := hrel
    have HT := hide htake
    clear htake
    by_cases hlt : j < n
    · obtain ⟨b1, o1, rfl, _, hc1⟩ := HA.out.2 (by omega)
      obtain ⟨b2, o2, rfl, _, hc2⟩ := HB.out.2 (by omega)
      have hl1 : j < l.length := by rw [HA.out.len]; exact hlt
      have hl2 : j < k.length := by rw [HB.out.len]; exact hlt
      have hx1 := hc1 j l[j] (List.getElem?_eq_getElem hl1)
      have hx2 := hc2 j k[j] (List.getElem?_eq_getElem hl2)
      clear hc1 hc2
      obtain ⟨x, hx⟩ : ∃ x, x = l[j] := ⟨_, rfl⟩
      obtain ⟨y, hy⟩ : ∃ y, y = k[j] := ⟨_, rfl⟩
      rw [← hx] at hx1
      rw [← hy] at hx2
      unfold st at hx1 hx2
      by_cases hxy : x = y
      · have ht2 : l.take (j + 1) = k.take (j + 1) := by
          rw [List.take_succ_eq_append_getElem hl1, List.take_succ_eq_append_getElem hl2, HT.out, ← hx, ← hy, hxy]
        have HT2 := hide ht2
        have hne : (x == y) = true := by simp [hxy]
        clear hx hy ht2 hxy hl1 hl2
        go_wp2
        go_quiet (fail)
        go_wp2
        go_roundw
        case rel => exact ⟨j + 1, _, by omega, by go_num, HT2.out, rfl⟩
        case measure => simp [intOf]; omega
      · have hre : r = false := by
          rw [← HR.out]
          simp only [beq_eq_false_iff_ne, ne_eq]
          intro e
          apply hxy
          subst e
          rw [hx, hy]
        have hne : (x == y) = false := by simp [hxy]
        have HRE := hide hre
        clear hx hy hre hxy hl1 hl2
        go_wp2
        go_quiet (fail)
        go_wp2
        go_ret
        exact BRt.of (below_drewN (below_drewN (below_self w) _) _) HRE.out.symm
    · obtain rfl : j = n := by omega
      have hre : r = true := by
        rw [← HR.out]
        have e := HT.out
        rw [List.take_of_length_le (by rw [HA.out.len]; exact Nat.le_refl _), List.take_of_length_le (by rw [HB.out.len]; exact Nat.le_refl _)] at e
        simp [e]
      have HRE := hide hre
      clear hre
      go_wp2
      go_ret
      exact BRt.of (below_drewN (below_self w) _) HRE.out.symm
end Go.Proofs.Ytnehkgbdppbhiaa
