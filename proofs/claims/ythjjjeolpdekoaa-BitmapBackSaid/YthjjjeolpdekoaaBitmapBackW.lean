/- The law BitmapBack (layer 10): its walk. -/
import Derived.Test.YthjjjeolpdekoaaBitG
namespace Go.Proofs.Ythjjjeolpdekoaa
open Go.RowKit Plain

theorem back_ok {u : List Bool} {n : Nat} (hl : u.length = n) (hn : n ≤ 512) : bmOk (bmS u) n = true := by
  rw [bmOk_in (bmS_length u) hn, bits_bm (by omega) hl]; simp
theorem back_bits {u : List Bool} {n : Nat} (hl : u.length = n) (hn : n ≤ 512) : getBits (bmS u) n = u := by
  unfold getBits
  rw [back_ok hl hn, if_pos rfl, Int.toNat_natCast, bits_bm (by omega) hl]

set_option maxRecDepth 100000 in
set_option maxHeartbeats 800000 in
theorem law_BitmapBack {A : Option Addr} {n c : Nat} {u : List Bool} (w : World) (ha : Rd Value.bool w w.heap.size A n u) (hnc : n ≤ c) :
    Calls Try.prog 8 #[.slice A n c] w (LawOk w) := by
  have HA := hide ha
  clear ha
  by_cases h1 : 512 < n
  · have hd : decide (512 < (n : Int)) = true := by simp; omega
    go_enter Try.func8, Try.ntmps8
    go_wp2_with fail
    refine (awake10_any _).mono ?_
    rintro e w1 ⟨rfl, hbel⟩
    have HB1 := hide hbel
    clear hbel
    go_wp2_with fail
    go_ret
    exact LawOk.of HB1.out
  have hd : decide (512 < (n : Int)) = false := by simp; omega
  have hn5 : n ≤ 512 := by omega
  have hn : n ≤ 140737488355328 := by omega
  go_enter Try.func8, Try.ntmps8
  go_wp2_with fail
  refine (PutB_any _ HA.out hn hnc).mono ?_
  rintro e w1 ⟨A1, c1, rfl, hown, hbel⟩
  have HO := hide hown
  have HB := hide hbel
  have HAa := hide (HA.out.on hbel)
  clear hown hbel
  go_wp2_with fail
  refine (GetB_c _ HO.out.bs (by omega) n (back_ok HA.out.len hn5) (back_bits HA.out.len hn5)).mono ?_
  rintro e w2 ⟨A2, n2, c2, rfl, hrd2, -, hbel2⟩
  obtain rfl : n2 = n := by rw [← hrd2.len, HA.out.len]
  have HO2 := hide (HO.out.below hbel2)
  have HR2 := hide hrd2
  have HAb := hide (HAa.out.on hbel2)
  have HB2 := hide (below_step HB.out hbel2)
  clear hrd2 hbel2 HO HB HAa
  go_wp2_with fail
  go_loop [6, 24] (fun t j => ∃ k q : Nat, k ≤ n2 ∧ q = (u.take k).countP id ∧ j = .int .i64 k ∧ t = .int .i64 q) (fun _ j => n2 - (intOf j).toNat)
  case atStart => exact ⟨0, 0, by omega, rfl, rfl, rfl⟩
  case round =>
    obtain ⟨k, q, hk, hq, rfl, rfl⟩ := hrel
    have hle : q ≤ k := by rw [hq]; exact countP_le _ _
    have HQ := hide hq
    clear hq
    by_cases hlt : k < n2
    · have hl : k < u.length := by rw [HA.out.len]; exact hlt
      obtain ⟨b, o, rfl, hbl, hdd⟩ := HAb.out.2 (by omega)
      obtain ⟨x, hx⟩ : ∃ x, u[k] = x := ⟨_, rfl⟩
      have hc := hdd k x (by rw [List.getElem?_eq_getElem hl, hx])
      have hcs : (u.take (k + 1)).countP id = q + x.toNat := by rw [countP_snoc hl, ← HQ.out, hx]
      have HC := hide hcs
      clear hdd hx hcs
      cases x
      · go_wp2
        go_round
        case rel => exact ⟨k + 1, q, by omega, HC.out.symm, by go_num, rfl⟩
        case measure => simp [intOf]; omega
      · go_wp2
        go_round
        case rel => exact ⟨k + 1, q + 1, by omega, HC.out.symm, by go_num, by go_num⟩
        case measure => simp [intOf]; omega
    · obtain rfl : k = n2 := by omega
      have hqe : (sumP (bmS u) 64 : Int) = q := by
        rw [many_bm (by rw [HA.out.len]; exact hn5), HQ.out, List.take_of_length_le (by rw [HA.out.len]; exact Nat.le_refl _)]
      have HQE := hide hqe
      clear hqe
      go_wp2_with fail
      refine (EqualB_b (r := true) _ HR2.out HAb.out (by omega) (by simp)).mono ?_
      rintro e w5 ⟨rfl, hbel5⟩
      have HB5 := hide (below_step HB2.out hbel5)
      have HO5 := hide (HO2.out.below hbel5)
      clear hbel5 HB2 HO2
      go_wp2_with fail
      refine (Many_c _ HO5.out.bs (by omega) HQE.out).mono ?_
      rintro e w6 ⟨rfl, rfl⟩
      go_wp2_with fail
      refine (awake10_any _).mono ?_
      rintro e w7 ⟨rfl, hbel7⟩
      have HB7 := hide (below_step HB5.out hbel7)
      clear hbel7
      go_wp2_with fail
      go_ret
      exact LawOk.of HB7.out
end Go.Proofs.Ythjjjeolpdekoaa
