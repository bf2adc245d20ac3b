/- Contracts of num.holds and num.Get. -/
import Derived.Test.YthjjjeolpdekoaaNumF
namespace Go.Proofs.Ythjjjeolpdekoaa
open Go.RowKit Plain

set_option maxHeartbeats 800000 in
theorem holds_any {A : Option Addr} {m c : Nat} (p s : Int) (w : World) (hm : m ≤ 140737488355000) :
    Calls Try.prog 84 #[.slice A m c, .int .i64 p, .int .i64 s] w fun e w' => e = .returned (.bool (hold m p s)) ∧ w = w' := by
  cases h : isz s with
  | false =>
    have hh : hold m p s = false := by simp [hold, h]
    rw [hh]
    have H := hide h
    clear h hh
    go_enter Try.func84, Try.ntmps84
    go_wp2_with (go_at_call 83; refine (isSize_no H.out _).mono ?_; rintro e w' ⟨rfl, rfl⟩)
    go_ret
    exact ⟨rfl, rfl⟩
  | true =>
    have hs4 : 1 ≤ s ∧ s ≤ 4 := by rcases isz_cases h with rfl | rfl | rfl <;> omega
    obtain ⟨hs1, hs4⟩ := hs4
    by_cases hp : p < 0
    · have hd : decide (0 ≤ p) = false := by simp; omega
      have hh : hold m p s = false := by simp [hold, hd]
      rw [hh]
      have H := hide h
      clear h hh
      go_enter Try.func84, Try.ntmps84
      go_wp2_with (go_at_call 83; refine (isSize_yes H.out _).mono ?_; rintro e w' ⟨rfl, rfl⟩)
      go_ret
      exact ⟨rfl, rfl⟩
    · have hd : decide (0 ≤ p) = true := by simp; omega
      have hh : hold m p s = decide (p ≤ m - s) := by simp [hold, h, hd]
      rw [hh]
      have H := hide h
      clear h hh
      go_enter Try.func84, Try.ntmps84
      go_wp2_with (go_at_call 83; refine (isSize_yes H.out _).mono ?_; rintro e w' ⟨rfl, rfl⟩)
      go_ret
      exact ⟨rfl, rfl⟩
theorem holds_yes {A : Option Addr} {m c : Nat} {p s : Int} (w : World) (hm : m ≤ 140737488355000) (h : hold m p s = true) :
    Calls Try.prog 84 #[.slice A m c, .int .i64 p, .int .i64 s] w fun e w' => e = .returned (.bool true) ∧ w = w' := by
  have := holds_any (A := A) (c := c) p s w hm; rw [h] at this; exact this
theorem holds_no {A : Option Addr} {m c : Nat} {p s : Int} (w : World) (hm : m ≤ 140737488355000) (h : hold m p s = false) :
    Calls Try.prog 84 #[.slice A m c, .int .i64 p, .int .i64 s] w fun e w' => e = .returned (.bool false) ∧ w = w' := by
  have := holds_any (A := A) (c := c) p s w hm; rw [h] at this; exact this

set_option maxHeartbeats 800000 in
theorem Get_no {A : Option Addr} {m c : Nat} {p s : Int} (w : World) (hm : m ≤ 140737488355000) (h : hold m p s = false) :
    Calls Try.prog 71 #[.slice A m c, .int .i64 p, .int .i64 s] w fun e w' => e = .returned (.tuple #[.int .i64 0, .bool false]) ∧ w = w' := by
  have H := hide h
  clear h
  go_enter Try.func71, Try.ntmps71
  go_wp2_with (go_at_call 84; refine (holds_no _ (by omega) H.out).mono ?_; rintro e w' ⟨rfl, rfl⟩)
  go_ret2
  exact ⟨rfl, rfl⟩

set_option maxHeartbeats 800000 in
theorem Get_yes {A : Option Addr} {m c B : Nat} {l : List UInt8} {p s : Int} (w : World) (ha : Bs w B A m l) (hm : m ≤ 140737488355000) (hmc : m ≤ c) (h : hold m p s = true) :
    Calls Try.prog 71 #[.slice A m c, .int .i64 p, .int .i64 s] w fun e w' => e = .returned (.tuple #[.int .i64 (getS l p s), .bool true]) ∧ w = w' := by
  obtain ⟨hz, hp, hps⟩ := hold_parts h
  have hs4 : 1 ≤ s ∧ s ≤ 4 := by rcases isz_cases hz with rfl | rfl | rfl <;> omega
  obtain ⟨hs1, hs4⟩ := hs4
  obtain ⟨hl, hcell⟩ := ha
  obtain ⟨b, o, rfl, _, hcell⟩ := hcell (by omega)
  obtain ⟨p, rfl⟩ := Int.eq_ofNat_of_zero_le hp
  obtain ⟨s, rfl⟩ := Int.eq_ofNat_of_zero_le (by omega : 0 ≤ s)
  obtain ⟨win, hwin⟩ : ∃ win, win = (l.drop p).take s := ⟨_, rfl⟩
  have hwl : win.length = s := by rw [hwin]; simp; omega
  have hget : getS l p s = val win := by simp [getS, hwin]
  have hwc : ∀ k (hk : k < win.length), w.cell? ⟨b, o + p + k, none⟩ = some (bv win[k]) := by
    intro k hk
    have h2 : l[p + k]? = some win[k] := by
      have h3 : win[k]? = some win[k] := List.getElem?_eq_getElem hk
      rw [← h3, hwin, List.getElem?_take_of_lt (by omega), List.getElem?_drop]
    rw [Nat.add_assoc]
    exact hcell _ _ h2
  rw [hget]
  have H := hide h
  have HWL := hide hwl
  have HWC := hide hwc
  have hps' : p + s ≤ m := by omega
  have hs1' : 1 ≤ s := by omega
  have hs4' : s ≤ 4 := by omega
  clear hget hwin hcell hl h hz hp hps hs1 hs4 hwl hwc
  go_enter Try.func71, Try.ntmps71
  go_wp2_with (first
    | (go_at_call 84; refine (holds_yes _ (by omega) H.out).mono ?_; rintro e w' ⟨rfl, rfl⟩)
    | (go_at_call 68; refine (field_any _ (by omega) (by omega) (by omega) (by omega) (by omega)).mono ?_; rintro e w' ⟨rfl, rfl⟩))
  go_loop [8, 21] (fun n i => ∃ k : Nat, k ≤ s ∧ i = .int .i64 k ∧ n = .int .i64 (val (win.take k))) (fun _ i => s - (intOf i).toNat)
  case atStart => exact ⟨0, Nat.zero_le _, rfl, by simp [val]⟩
  case round =>
    obtain ⟨k, hk, rfl, rfl⟩ := hrel
    by_cases hlt : k < s
    · have hk4 : k = 0 ∨ k = 1 ∨ k = 2 ∨ k = 3 := by omega
      have hkl : k < win.length := by rw [HWL.out]; exact hlt
      have hv := val_lt (win.take k)
      have hvs := val_take_succ win k hkl
      have hcl := HWC.out k hkl
      have hb := win[k].toNat_lt
      obtain ⟨x, hx⟩ : ∃ x, x = win[k].toNat := ⟨_, rfl⟩
      obtain ⟨v, hv2⟩ : ∃ v, v = val (win.take k) := ⟨_, rfl⟩
      simp only [bv, ← hx] at hcl
      rw [← hx] at hb
      rw [← hv2, List.length_take, Nat.min_eq_left (by omega)] at hv
      rw [← hv2, ← hx] at hvs
      rw [← hv2]
      have HVS := hide hvs
      clear hvs hx hv2
      rcases hk4 with rfl | rfl | rfl | rfl
      · simp only [Nat.add_zero] at hcl
        go_wp2
        go_round
        case rel =>
          refine ⟨1, by omega, rfl, ?_⟩
          have he := or_byte 0 (by omega) v x (by simpa using hv) (by omega) ((x : Int)) (by simp)
          first | rw [HVS.out, he] | (simp at hv; subst hv; rw [HVS.out]; simp)
        case measure => simp [intOf]; omega
      · go_wp2
        go_round
        case rel =>
          refine ⟨2, by omega, rfl, ?_⟩
          have he := or_byte 8 (by omega) v x (by simpa using hv) (by omega) ((x : Int) * 256) (by simp)
          first | rw [HVS.out, he] | (simp at hv; subst hv; rw [HVS.out]; simp)
        case measure => simp [intOf]; omega
      · go_wp2
        go_round
        case rel =>
          refine ⟨3, by omega, rfl, ?_⟩
          have he := or_byte 16 (by omega) v x (by simpa using hv) (by omega) ((x : Int) * 65536) (by simp)
          first | rw [HVS.out, he] | (simp at hv; subst hv; rw [HVS.out]; simp)
        case measure => simp [intOf]; omega
      · go_wp2
        go_round
        case rel =>
          refine ⟨4, by omega, rfl, ?_⟩
          have he := or_byte 24 (by omega) v x (by simpa using hv) (by omega) ((x : Int) * 16777216) (by simp)
          first | rw [HVS.out, he] | (simp at hv; subst hv; rw [HVS.out]; simp)
        case measure => simp [intOf]; omega
    · obtain rfl : k = s := by omega
      have he : win.take k = win := List.take_of_length_le (by rw [HWL.out]; exact Nat.le_refl _)
      rw [he]
      clear he
      go_wp2
      go_ret2
      exact ⟨rfl, rfl⟩
end Go.Proofs.Ythjjjeolpdekoaa
