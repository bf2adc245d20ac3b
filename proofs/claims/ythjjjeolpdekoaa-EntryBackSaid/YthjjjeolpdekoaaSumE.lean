/- Contracts of the reference's Same and Sealed. -/
import Derived.Test.YthjjjeolpdekoaaSumD
namespace Go.Proofs.Ythjjjeolpdekoaa
open Go.RowKit Plain


set_option maxHeartbeats 400000 in
theorem Same_len {A B : Option Addr} {n m c d : Nat} (w : World) (h : n ≠ m) :
    Calls Try.prog 46 #[.slice A n c, .slice B m d] w (BoolRet w false) := by
  have hd : ((n : Int) != (m : Int)) = true := by simp; omega
  go_enter Try.func46, Try.ntmps46
  go_wp2
  go_ret
  exact BoolRet.of (below_self w)

set_option maxHeartbeats 400000 in
theorem Same_any {A B : Option Addr} {n c d : Nat} {l k : List UInt8} {W1 W2 : Nat} (w : World) (ha : Bs w W1 A n l) (hb : Bs w W2 B n k) (hn : n ≤ 140737488355328) :
    Calls Try.prog 46 #[.slice A n c, .slice B n d] w (BoolRet w (l == k)) := by
  obtain ⟨r, hr⟩ : ∃ r, (l == k) = r := ⟨_, rfl⟩
  rw [hr]
  have HR := hide hr
  have HA := hide ha
  have HB := hide hb
  clear hr ha hb
  have hd : ((n : Int) != (n : Int)) = false := by simp
  go_enter Try.func46, Try.ntmps46
  go_wp2
  go_loopw [5] (fun i wr => ∃ j q : Nat, j ≤ n ∧ i = .int .i64 j ∧ l.take j = k.take j ∧ wr = w.drewN q) (fun i _ => n - (intOf i).toNat)
  case atStart => exact ⟨0, 0, by omega, rfl, rfl, rfl⟩
  case round =>
    obtain ⟨j, q, hj, rfl, htake, rfl⟩ := hrel
    have HT := hide htake
    clear htake
    by_cases hlt : j < n
    · obtain ⟨b1, o1, rfl, _, hc1⟩ := HA.out.2 (by omega)
      obtain ⟨b2, o2, rfl, _, hc2⟩ := HB.out.2 (by omega)
      have hl1 : j < l.length := by rw [HA.out.len]; exact hlt
      have hl2 : j < k.length := by rw [HB.out.len]; exact hlt
      have hx1 := hc1 j l[j] (List.getElem?_eq_getElem hl1)
      have hx2 := hc2 j k[j] (List.getElem?_eq_getElem hl2)
      clear hc1 hc2
      obtain ⟨x, hx⟩ : ∃ x : Nat, x = l[j].toNat := ⟨_, rfl⟩
      obtain ⟨y, hy⟩ : ∃ y : Nat, y = k[j].toNat := ⟨_, rfl⟩
      simp only [bv, ← hx] at hx1
      simp only [bv, ← hy] at hx2
      by_cases hxy : x = y
      · have hjj : l[j] = k[j] := UInt8.toNat_inj.1 (by rw [← hx, ← hy, hxy])
        have ht2 : l.take (j + 1) = k.take (j + 1) := by
          rw [List.take_succ_eq_append_getElem hl1, List.take_succ_eq_append_getElem hl2, HT.out, hjj]
        have HT2 := hide ht2
        have hne : ((x : Int) != (y : Int)) = false := by simp [hxy]
        clear hx hy hjj ht2 hxy
        go_wp2
        go_quiet (fail)
        go_wp2
        go_roundw
        case rel => exact ⟨j + 1, _, by omega, by go_num, HT2.out, rfl⟩
        case measure => simp [intOf]; omega
      · have hre : r = false := by
          rw [← HR.out]
          simp only [beq_eq_false_iff_ne, ne_eq]
          intro e
          apply hxy
          subst e
          rw [hx, hy]
        have hne : ((x : Int) != (y : Int)) = true := by simp; omega
        have HRE := hide hre
        clear hx hy hre hxy
        go_wp2
        go_quiet (fail)
        go_wp2
        go_ret
        rw [HRE.out]
        exact BoolRet.of (below_drewN (below_drewN (below_self w) _) _)
    · obtain rfl : j = n := by omega
      have hre : r = true := by
        rw [← HR.out]
        have e := HT.out
        rw [List.take_of_length_le (by rw [HA.out.len]; exact Nat.le_refl _), List.take_of_length_le (by rw [HB.out.len]; exact Nat.le_refl _)] at e
        simp [e]
      have HRE := hide hre
      clear hre
      go_wp2
      go_ret
      rw [HRE.out]
      exact BoolRet.of (below_drewN (below_self w) _)

theorem bodyS_full {l : List UInt8} (h : 60 ≤ l.length) : bodyS l = l.take 60 := by
  unfold bodyS
  exact splice_all _ _ (by rw [zeros_length, List.length_take]; omega)
theorem sealS_take {l : List UInt8} (h : 60 ≤ l.length) : sealS (l.take 60) = sealS l := by
  have e : bodyS (l.take 60) = bodyS l := by
    rw [bodyS_full (by rw [List.length_take]; omega), bodyS_full h, List.take_take]
    congr 1
  unfold sealS
  rw [e]

end Go.Proofs.Ythjjjeolpdekoaa
