/- The contract of the reference's Get. -/
import Derived.Test.YthjjjeolpdekoaaNumG
namespace Go.Proofs.Ythjjjeolpdekoaa
open Go.RowKit Plain

set_option maxHeartbeats 800000 in
theorem RGet_no {A : Option Addr} {m c : Nat} {p s : Int} (w : World) (_hm : m ≤ 140737488355000) (h : hold m p s = false) :
    Calls Try.prog 47 #[.slice A m c, .int .i64 p, .int .i64 s] w fun e w' => e = .returned (.tuple #[.int .i64 0, .bool false]) ∧ w = w' := by
  cases hz : isz s with
  | false =>
    have H := hide hz
    clear h hz
    go_enter Try.func47, Try.ntmps47
    go_wp2_with (go_at_call 73; refine (right1_no H.out _).mono ?_; rintro e w' ⟨rfl, rfl⟩)
    go_ret2
    exact ⟨rfl, rfl⟩
  | true =>
    have hs4 : 1 ≤ s ∧ s ≤ 4 := by rcases isz_cases hz with rfl | rfl | rfl <;> omega
    obtain ⟨hs1, hs4⟩ := hs4
    have H := hide hz
    by_cases hp : p < 0
    · have hd : decide (p < 0) = true := by simp; omega
      clear h hz
      go_enter Try.func47, Try.ntmps47
      go_wp2_with (go_at_call 73; refine (right1_yes H.out _).mono ?_; rintro e w' ⟨rfl, rfl⟩)
      go_ret2
      exact ⟨rfl, rfl⟩
    · have hp0 : 0 ≤ p := by omega
      have hd : decide (p < 0) = false := by simp; omega
      by_cases hpm : (m : Int) < p
      · have hd2 : decide ((m : Int) < p) = true := by simp; omega
        clear h hz
        go_enter Try.func47, Try.ntmps47
        go_wp2_with (go_at_call 73; refine (right1_yes H.out _).mono ?_; rintro e w' ⟨rfl, rfl⟩)
        go_ret2
        exact ⟨rfl, rfl⟩
      · have hd2 : decide ((m : Int) < p) = false := by simp; omega
        have hps : (m : Int) - p < s := by
          by_cases hps : (m : Int) - p < s
          · exact hps
          · have e1 : decide (0 ≤ p) = true := by simp; omega
            have e2 : decide (p ≤ m - s) = true := by simp; omega
            simp [hold, hz, e1, e2] at h
        have hd3 : decide ((m : Int) - p < s) = true := by simp; omega
        clear h hz
        go_enter Try.func47, Try.ntmps47
        go_wp2_with (go_at_call 73; refine (right1_yes H.out _).mono ?_; rintro e w' ⟨rfl, rfl⟩)
        go_ret2
        exact ⟨rfl, rfl⟩

set_option maxHeartbeats 800000 in
theorem RGet_yes {A : Option Addr} {m c B : Nat} {l : List UInt8} {p s : Int} (w : World) (ha : Bs w B A m l) (hm : m ≤ 140737488355000) (h : hold m p s = true) :
    Calls Try.prog 47 #[.slice A m c, .int .i64 p, .int .i64 s] w fun e w' => e = .returned (.tuple #[.int .i64 (getS l p s), .bool true]) ∧ w = w' := by
  obtain ⟨hz, hp, hps⟩ := hold_parts h
  have hs4 : 1 ≤ s ∧ s ≤ 4 := by rcases isz_cases hz with rfl | rfl | rfl <;> omega
  obtain ⟨hs1, hs4⟩ := hs4
  obtain ⟨hl, hcell⟩ := ha
  obtain ⟨b, o, rfl, _, hcell⟩ := hcell (by omega)
  obtain ⟨p, rfl⟩ := Int.eq_ofNat_of_zero_le hp
  obtain ⟨s, rfl⟩ := Int.eq_ofNat_of_zero_le (by omega : 0 ≤ s)
  obtain ⟨win, hwin⟩ : ∃ win, win = (l.drop p).take s := ⟨_, rfl⟩
  have hwl : win.length = s := by rw [hwin]; simp; omega
  have hget : getS l p s = val win := by simp [getS, hwin]
  have hwc : ∀ k (hk : k < win.length), w.cell? ⟨b, o + (p + k), none⟩ = some (bv win[k]) := by
    intro k hk
    have h2 : l[p + k]? = some win[k] := by
      have h3 : win[k]? = some win[k] := List.getElem?_eq_getElem hk
      rw [← h3, hwin, List.getElem?_take_of_lt (by omega), List.getElem?_drop]
    exact hcell _ _ h2
  rw [hget]
  have H := hide hz
  have HWL := hide hwl
  have HWC := hide hwc
  have hps' : p + s ≤ m := by omega
  have hs1' : 1 ≤ s := by omega
  have hs4' : s ≤ 4 := by omega
  have hd : decide ((p : Int) < 0) = false := by simp
  have hd2 : decide ((m : Int) < (p : Int)) = false := by simp; omega
  have hd3 : decide ((m : Int) - (p : Int) < (s : Int)) = false := by simp; omega
  clear hget hwin hcell hl h hz hp hps hs1 hs4 hwl hwc
  go_enter Try.func47, Try.ntmps47
  go_wp2_with (go_at_call 73; refine (right1_yes H.out _).mono ?_; rintro e w' ⟨rfl, rfl⟩)
  go_loop [8, 9] (fun n i => ∃ j : Nat, j ≤ s ∧ i = .int .i64 ((j : Int) - 1) ∧ n = .int .i64 (val (win.drop j))) (fun _ i => (intOf i + 1).toNat)
  case atStart => exact ⟨s, Nat.le_refl _, rfl, by rw [List.drop_eq_nil_of_le (by rw [HWL.out]; exact Nat.le_refl _)]; rfl⟩
  case round =>
    obtain ⟨j, hj, rfl, rfl⟩ := hrel
    by_cases hlt : 0 < j
    · have hj4 : j = 1 ∨ j = 2 ∨ j = 3 ∨ j = 4 := by omega
      have hjl : j - 1 < win.length := by rw [HWL.out]; omega
      have hv := val_lt (win.drop j)
      have hvs := val_drop win (j - 1) hjl
      have hcl := HWC.out (j - 1) hjl
      have hb := win[j - 1].toNat_lt
      rw [show j - 1 + 1 = j from by omega] at hvs
      obtain ⟨x, hx⟩ : ∃ x, x = win[j - 1].toNat := ⟨_, rfl⟩
      obtain ⟨v, hv2⟩ : ∃ v, v = val (win.drop j) := ⟨_, rfl⟩
      simp only [bv, ← hx] at hcl
      rw [← hx] at hb
      rw [← hv2, List.length_drop, HWL.out] at hv
      have hv3 : v < 16777216 := Nat.lt_of_lt_of_le hv (Nat.pow_le_pow_right (n := 256) (by omega) (show s - j ≤ 3 by omega))
      rw [← hv2, ← hx] at hvs
      rw [← hv2]
      have HVS := hide hvs
      clear hvs hx hv2 hv
      rcases hj4 with rfl | rfl | rfl | rfl
      · simp only [Nat.add_zero, Nat.sub_self] at hcl
        go_wp2
        go_round
        case rel => exact ⟨0, by omega, rfl, by rw [show 0 = 1 - 1 from rfl, HVS.out]; go_num⟩
        case measure => simp [intOf]
      · go_wp2
        go_round
        case rel => exact ⟨1, by omega, rfl, by rw [show 1 = 2 - 1 from rfl, HVS.out]; go_num⟩
        case measure => simp [intOf]
      · go_wp2
        go_round
        case rel => exact ⟨2, by omega, rfl, by rw [show 2 = 3 - 1 from rfl, HVS.out]; go_num⟩
        case measure => simp [intOf]
      · go_wp2
        go_round
        case rel => exact ⟨3, by omega, rfl, by rw [show 3 = 4 - 1 from rfl, HVS.out]; go_num⟩
        case measure => simp [intOf]
    · obtain rfl : j = 0 := by omega
      go_wp2
      go_ret2
      exact ⟨rfl, rfl⟩
end Go.Proofs.Ythjjjeolpdekoaa
