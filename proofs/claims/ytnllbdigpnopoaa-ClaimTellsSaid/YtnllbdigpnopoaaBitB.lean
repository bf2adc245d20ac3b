/- bitmap (layer 10): Put; slices.Equal of bools. -/
import Derived.Test.YtnllbdigpnopoaaBitA
import Derived.Test.YtnllbdigpnopoaaMemS
import Derived.BigQuiet
import Derived.BigRegion
import Derived.Deep.QuietTactic
import Derived.StillTailTactics
namespace Go.Proofs.Ytnllbdigpnopoaa
open Go.RowKit Plain

set_option maxHeartbeats 800000 in
theorem EqualB_any {A B : Option Addr} {n m c d W1 W2 : Nat} {l k : List Bool} (w : World) (ha : Rd Value.bool w W1 A n l) (hb : Rd Value.bool w W2 B m k) (hn : n ≤ 140737488355328) :
    Calls Try.prog 14 #[.slice A n c, .slice B m d] w (BoolB w (l == k)) := by
  by_cases hnm : n = m
  case neg =>
    have hne : (l == k) = false := by
      simp only [beq_eq_false_iff_ne, ne_eq]
      intro e
      apply hnm
      rw [← ha.len, ← hb.len, e]
    have HNE := hide hne
    have hd : ((n : Int) != (m : Int)) = true := by simp; omega
    clear ha hb hne
    go_enter Try.func14, Try.ntmps14
    go_wp2
    go_ret
    exact BoolB.eq HNE.out.symm (below_self w)
  subst hnm
  obtain ⟨r, hr⟩ : ∃ r, (l == k) = r := ⟨_, rfl⟩
  rw [hr]
  have HR := hide hr
  have HA := hide ha
  have HB := hide hb
  clear hr ha hb
  have hd : ((n : Int) != (n : Int)) = false := by simp
  go_enter Try.func14, Try.ntmps14
  go_wp2
  go_loopw [13] (fun i wr => ∃ j q : Nat, j ≤ n ∧ i = .int .i64 j ∧ l.take j = k.take j ∧ wr = w.drewN q) (fun i _ => n - (intOf i).toNat)
  case atStart => exact ⟨0, 0, by omega, rfl, rfl, rfl⟩
  case round =>
    obtain ⟨j, q, hj, rfl, htake, rfl⟩ := hrel
    have HT := hide htake
    clear htake
    by_cases hlt : j < n
    · have hl1 : j < l.length := by rw [HA.out.len]; exact hlt
      have hl2 : j < k.length := by rw [HB.out.len]; exact hlt
      obtain ⟨b1, o1, rfl, _, hd1⟩ := HA.out.2 (by omega)
      obtain ⟨b2, o2, rfl, _, hd2⟩ := HB.out.2 (by omega)
      have hc1 := hd1 _ _ (List.getElem?_eq_getElem hl1)
      have hc2 := hd2 _ _ (List.getElem?_eq_getElem hl2)
      obtain ⟨x, hx⟩ : ∃ x, x = l[j] := ⟨_, rfl⟩
      obtain ⟨y, hy⟩ : ∃ y, y = k[j] := ⟨_, rfl⟩
      rw [← hx] at hc1
      rw [← hy] at hc2
      clear hd1 hd2
      by_cases hxy : x = y
      · have ht2 : l.take (j + 1) = k.take (j + 1) := by
          rw [List.take_succ_eq_append_getElem hl1, List.take_succ_eq_append_getElem hl2, HT.out, ← hx, ← hy, hxy]
        have HT2 := hide ht2
        have hne : (!x == y) = false := by simp [hxy]
        clear hx hy ht2 hxy hl1 hl2
        go_wp2
        go_quiet (fail)
        go_wp2
        go_roundw
        case rel => exact ⟨j + 1, _, by omega, by go_num, HT2.out, rfl⟩
        case measure => simp [intOf]; omega
      · have hre : r = false := by
          rw [← HR.out]
          simp only [beq_eq_false_iff_ne, ne_eq]
          intro e
          apply hxy
          subst e
          rw [hx, hy]
        have hne : (!x == y) = true := by simp [hxy]
        have HRE := hide hre
        clear hx hy hre hxy hl1 hl2
        go_wp2
        go_quiet (fail)
        go_wp2
        go_ret
        exact BoolB.eq HRE.out.symm (below_drewN (below_drewN (below_self w) _) _)
    · obtain rfl : j = n := by omega
      have hre : r = true := by
        rw [← HR.out]
        have e := HT.out
        rw [List.take_of_length_le (by rw [HA.out.len]; exact Nat.le_refl _), List.take_of_length_le (by rw [HB.out.len]; exact Nat.le_refl _)] at e
        simp [e]
      have HRE := hide hre
      clear hre
      go_wp2
      go_ret
      exact BoolB.eq HRE.out.symm (below_drewN (below_self w) _)
end Go.Proofs.Ytnllbdigpnopoaa
