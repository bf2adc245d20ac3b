/- bitmap (layer 10): the reference's Put. -/
import Derived.Test.YthjjjeolpdekoaaBitB
namespace Go.Proofs.Ythjjjeolpdekoaa
open Go.RowKit Plain

theorem info_u8b : (Try.prog.info? 5).map (fun i => (i.zero, i.size, i.bytes)) = some (some (.int .u8 0), 1, 1) := by kernel_rfl
theorem bm_cell {w : World} {g e : Nat} {u : List Bool} (h : RowL w g e (bvs (bmS u))) {j : Nat} (hj : j < 64) : w.cell? ⟨g, j, none⟩ = some (.int .u8 (byteN u j : Nat)) := by
  rw [h.cell, bvs_get (bmS_get u hj)]
  simp only [bv]
  congr 2
  have := byteN_lt u j
  simp
  omega
theorem bv_nat {m : Nat} (h : m < 256) : bv (UInt8.ofNat m) = .int .u8 (m : Int) := by
  simp only [bv]
  congr 2
  simp
  exact h
theorem bm_store {w : World} {g e n : Nat} {u : List Bool} (h : RowL w g e (bvs (bmS (u.take n)))) (hn : n < u.length) (hu : u[n] = true) {z : Int} (hz : z = (byteN (u.take n) (n / 8) + 2 ^ (n % 8) : Nat)) : RowL (w.setCell ⟨g, n / 8, none⟩ (.int .u8 z)) g e (bvs (bmS (u.take (n + 1)))) := by
  have h1 := h.set_ (n / 8) (.int .u8 z)
  rw [bmS_step hn, hu, bvs_set]
  have h2 := byteN_step hn
  have h3 := byteN_lt (u.take (n + 1)) (n / 8)
  rw [h2.1, hu] at h3
  simp only [Bool.toNat_true, Nat.mul_one] at h3
  have e : bv (UInt8.ofNat (byteN (u.take n) (n / 8) + 2 ^ (n % 8) * true.toNat)) = .int .u8 z := by
    rw [hz, Bool.toNat_true, Nat.mul_one]
    exact bv_nat h3
  rw [e]
  exact h1
theorem bm_zero {w : World} {g e : Nat} {u : List Bool} (h : RowL w g e (bvs (zeros 64))) : RowL w g e (bvs (bmS (u.take 0))) := by
  rw [List.take_zero, bmS_nil]; exact h
theorem bm_end {u : List Bool} {n k : Nat} (hl : u.length = n) (hk : k ≤ n) (h : ¬ (k < n ∧ k < 512)) : bmS (u.take k) = bmS u := by
  by_cases h1 : k < n
  · have h5 : 512 ≤ k := by omega
    rw [← bmS_512 (u.take k), List.take_take, Nat.min_eq_left h5, bmS_512]
  · rw [List.take_of_length_le (by omega)]
theorem pow8 (k : Nat) (h : k < 8) : 2 ^ k ≤ 128 := by
  have : 2 ^ k ≤ 2 ^ 7 := Nat.pow_le_pow_right (by omega) (by omega)
  omega

set_option maxRecDepth 100000 in
set_option maxHeartbeats 800000 in
theorem RPutB_any {A : Option Addr} {n c : Nat} {u : List Bool} (w : World) (h : Rd Value.bool w w.heap.size A n u) (hn : n ≤ 140737488355328) :
    Calls Try.prog 38 #[.slice A n c] w (BRet w 5 64 (bmS u)) := by
  have H := hide h
  clear h
  go_enter Try.func38, Try.ntmps38
  go_wp2_with (with_reducible refine wpList_make_Bs _ rfl _ _ 24 rfl 5 Try.underlying24 info_u8b _ _ _ _ 64 rfl rfl rfl rfl (by omega) ?_; intro w1 hr1 hb1; have HR1 := hide hr1; have HB1 := hide hb1; clear hr1 hb1)
  go_loopw [4] (fun j wr => ∃ k : Nat, k ≤ n ∧ k ≤ 512 ∧ j = .int .i64 k ∧ RowL wr w.heap.size 5 (bvs (bmS (u.take k))) ∧ Below w.heap.size w wr) (fun j _ => n - (intOf j).toNat)
  case atStart => exact ⟨0, by omega, by omega, rfl, bm_zero HR1.out, HB1.out⟩
  case round =>
    obtain ⟨k, hk, hk5, rfl, hrow, hbel⟩ := hrel
    have HRW := hide hrow
    have HB := hide hbel
    clear hrow hbel HR1 HB1
    by_cases hlt : k < n ∧ k < 512
    · obtain ⟨hlt, hlt5⟩ := hlt
      have hl : k < u.length := by rw [H.out.len]; exact hlt
      obtain ⟨b, o, rfl, hbl, hd⟩ := H.out.2 (by omega)
      obtain ⟨x, hx⟩ : ∃ x, u[k] = x := ⟨_, rfl⟩
      have hc := hd k x (by rw [List.getElem?_eq_getElem hl, hx])
      rw [← HB.out.cell (p := ⟨b, o + k, none⟩) hbl] at hc
      have hc2 := bm_cell HRW.out (show k / 8 < 64 by omega)
      have hf := HRW.out.frozen (k / 8)
      have hst := byteN_step hl
      have h8 := pow8 (k % 8) (by omega)
      obtain ⟨v, hv⟩ : ∃ v, byteN (u.take k) (k / 8) = v := ⟨_, rfl⟩
      rw [hv] at hc2 hst
      have HV := hide hv
      have hv2 := hst.2
      have HX := hide hx
      clear hv hst hd hx
      cases x
      · go_wp2
        go_roundw
        case rel => exact ⟨k + 1, by omega, by omega, by go_num, by rw [bmS_no hl (by omega) HX.out]; exact HRW.out, HB.out⟩
        case measure => simp [intOf]; omega
      · go_wp2
        go_loop [5, 6] (fun t j => ∃ i q : Nat, i ≤ k % 8 ∧ q = 2 ^ i ∧ j = .int .i64 i ∧ t = .int .i64 q) (fun _ j => 8 - (intOf j).toNat)
        case atStart => exact ⟨0, 1, by omega, by simp, rfl, rfl⟩
        case round =>
          obtain ⟨i, q, hi, hq, rfl, rfl⟩ := hrel
          have hq8 : q ≤ 128 := by rw [hq]; exact pow8 _ (by omega)
          have HQ := hide hq
          clear hq
          by_cases hlti : i < k % 8
          · go_wp2
            go_round
            case rel => exact ⟨i + 1, q * 2, by omega, by rw [HQ.out, Nat.pow_succ], by go_num, by go_num⟩
            case measure => simp [intOf]; omega
          · obtain rfl : i = k % 8 := by omega
            have hv3 : v < q := by rw [HQ.out]; exact hv2
            clear h8 hv2
            go_wp2
            go_roundw
            case rel => exact ⟨k + 1, by omega, by omega, by go_num, bm_store HRW.out hl HX.out (by rw [HV.out, ← HQ.out]; go_num), HB.out.setCell (p := ⟨_, _, none⟩) (Nat.le_refl _) _⟩
            case measure => simp [intOf]; omega
    · by_cases hlt2 : k < n
      · have h5 : ¬ k < 512 := fun h => hlt ⟨hlt2, h⟩
        have HE := hide (bm_end H.out.len hk hlt)
        clear hlt
        go_wp2
        go_ret
        exact Own.ret (HRW.out.own_bvs (by rw [HE.out]) (bmS_length _) (Nat.le_refl _) (by omega)) HB.out
      · have HE := hide (bm_end H.out.len hk hlt)
        clear hlt
        go_wp2
        go_ret
        exact Own.ret (HRW.out.own_bvs (by rw [HE.out]) (bmS_length _) (Nat.le_refl _) (by omega)) HB.out
end Go.Proofs.Ythjjjeolpdekoaa
