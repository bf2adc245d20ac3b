/- bitmap (layer 10): the reference's Get. -/
import Derived.Test.YthjjjeolpdekoaaBitD
namespace Go.Proofs.Ythjjjeolpdekoaa
open Go.RowKit Plain

/-- Get's answer. -/
def getBits (l : List UInt8) (m : Int) : List Bool := if bmOk l m then bitsOf l m.toNat else []
def GetB (w : World) (l : List UInt8) (m : Int) (x : Ending) (w' : World) : Prop := ∃ A n c, x = .returned (.tuple #[.slice A n c, .bool (bmOk l m)]) ∧ Rd Value.bool w' w'.heap.size A n (getBits l m) ∧ n ≤ c ∧ Below w.heap.size w w'
theorem GetB.no {w w' : World} {l : List UInt8} {m : Int} (h : bmOk l m = false) (hb : Below w.heap.size w w') : GetB w l m (.returned (.tuple #[.slice none 0 0, .bool false])) w' :=
  ⟨none, 0, 0, by rw [h], by unfold getBits; rw [h]; exact Rd.none_ _ _ _ _, Nat.le_refl _, hb⟩
theorem GetB.yes {w w' : World} {l : List UInt8} {m : Nat} {A : Option Addr} {c : Nat} (h : bmOk l m = true) (hr : Rd Value.bool w' w'.heap.size A m (bitsOf l m)) (hc : m ≤ c) (hb : Below w.heap.size w w') : GetB w l m (.returned (.tuple #[.slice A m c, .bool true])) w' :=
  ⟨A, m, c, by rw [h], by unfold getBits; rw [h]; simpa using hr, hc, hb⟩
theorem bmOk_len {l : List UInt8} {m : Int} (h : l.length ≠ 64) : bmOk l m = false := by simp [bmOk, h]
theorem bmOk_neg {l : List UInt8} {m : Int} (h : m < 0) : bmOk l m = false := by
  have : decide (0 ≤ m) = false := by simp; omega
  simp [bmOk, this]
theorem bmOk_big {l : List UInt8} {m : Int} (h : 512 < m) : bmOk l m = false := by
  have : decide (m ≤ 512) = false := by simp; omega
  simp [bmOk, this]
theorem bmOk_in {l : List UInt8} {m : Nat} (hl : l.length = 64) (hm : m ≤ 512) : bmOk l m = (bmS (bitsOf l m) == l) := by
  have : decide ((m : Int) ≤ 512) = true := by simp; omega
  simp [bmOk, hl, this]
theorem bool_one : ∀ x : Bool, (Value.bool x).oneCell' = true := fun _ => rfl
theorem info_bool : (Try.prog.info? 4).map (fun i => (i.zero, i.size, i.bytes)) = some (some (.bool false), 1, 1) := by kernel_rfl

set_option maxRecDepth 100000 in
set_option maxHeartbeats 800000 in
theorem RGetB_any {A : Option Addr} {n c : Nat} {l : List UInt8} (w : World) (h : Bs w w.heap.size A n l) (hn : n ≤ 140737488355328) (m : Int) :
    Calls Try.prog 36 #[.slice A n c, .int .i64 m] w (GetB w l m) := by
  by_cases hneg : m < 0
  · have HE := hide (bmOk_neg (l := l) hneg)
    clear h
    have hd : decide (m < 0) = true := by simp; omega
    go_enter Try.func36, Try.ntmps36
    go_wp2
    go_ret2
    exact GetB.no HE.out (below_self w)
  by_cases hbig : 512 < m
  · have HE := hide (bmOk_big (l := l) hbig)
    clear h
    have hd : decide (m < 0) = false := by simp; omega
    go_enter Try.func36, Try.ntmps36
    go_wp2
    go_ret2
    exact GetB.no HE.out (below_self w)
  by_cases h64 : n = 64
  case neg =>
    have HE := hide (bmOk_len (m := m) (by rw [h.1]; exact h64))
    clear h
    have hd : decide (m < 0) = false := by simp; omega
    have hd2 : decide (512 < m) = false := by simp; omega
    have hd3 : ((n : Int) != 64) = true := by simp; omega
    go_enter Try.func36, Try.ntmps36
    go_wp2
    go_ret2
    exact GetB.no HE.out (below_self w)
  subst h64
  obtain ⟨m, rfl⟩ := Int.eq_ofNat_of_zero_le (by omega : 0 ≤ m)
  have hm5 : m ≤ 512 := by omega
  have HE := hide (bmOk_in h.1 hm5)
  have H := hide h
  clear h hneg hbig
  have hd : decide ((m : Int) < 0) = false := by simp
  have hd2 : decide (512 < (m : Int)) = false := by simp; omega
  go_enter Try.func36, Try.ntmps36
  go_wp2
  go_loopw [6, 7] (fun v j wr => ∃ i p : Nat, i ≤ 512 ∧ p = min i m ∧ j = .int .i64 i ∧ (∃ A' c', v = .slice A' p c' ∧ Ow Value.bool wr w.heap.size 4 A' p c' (bitsOf l p)) ∧ (∀ j, m ≤ j → j < i → bitB l j = false) ∧ Below w.heap.size w wr) (fun _ j _ => 512 - (intOf j).toNat)
  case atStart => exact ⟨0, 0, by omega, by simp, rfl, ⟨_, _, rfl, Ow.empty _ _ _⟩, fun j h1 h2 => absurd h2 (by omega), (Below.refl _ _).alloc (Nat.le_refl _) _⟩
  case round =>
    obtain ⟨i, p, hi, hp, rfl, ⟨A', c', rfl, hown⟩, hall, hbel⟩ := hrel
    have HP := hide hp
    have HO := hide hown
    have HL := hide hall
    have HB := hide hbel
    clear hp hown hall hbel
    by_cases hlt : i < 512
    · by_cases him : i < m
      · obtain rfl : p = i := by rw [HP.out]; omega
        obtain ⟨r, hr⟩ : ∃ r, bitB l p = r := ⟨_, rfl⟩
        have HR := hide hr
        clear hr
        go_wp2_with (first
          | (go_at_call 64; refine (RBit_b _ (H.out.below HB.out) (by omega) (by omega) HR.out).mono ?_; rintro e w' ⟨rfl, rfl⟩)
          | (at_builtin; refine wpList_append_Rd (f := Value.bool) _ rfl (.tmp 27) (.tmp 31) 56 rfl w.heap.size 4 (.bool false) 1 Try.underlying56 info_bool rfl bool_one _ p _ (bitsOf l p) rfl (HO.out.alloc _) _ _ 1 1 [r] rfl (Rd.one _ _ rfl) (p + 1) rfl (by omega) (by omega) (by have := HB.out.size; simp; omega) ?_; intro A1 c1 w1 hown1 hbel1; have HO1 := hide hown1; have HB1 := hide hbel1; clear hown1 hbel1))
        go_roundw
        case rel => exact ⟨p + 1, p + 1, by omega, by omega, by go_num, ⟨_, _, rfl, by rw [bitsOf_succ, HR.out]; exact HO1.out⟩, fun j h1 h2 => absurd h2 (by omega), (HB.out.alloc HB.out.size _).trans HB1.out⟩
        case measure => simp [intOf]; omega
      · cases hr : bitB l i
        · have HR := hide hr
          clear hr
          go_wp2_with (go_at_call 64; refine (RBit_b _ (H.out.below HB.out) (by omega) (by omega) HR.out).mono ?_; rintro e w' ⟨rfl, rfl⟩)
          go_roundw
          case rel => exact ⟨i + 1, p, by omega, by rw [HP.out]; omega, by go_num, ⟨_, _, rfl, HO.out⟩, fun j h1 h2 => by
            by_cases e : j = i
            · rw [e]; exact HR.out
            · exact HL.out j h1 (by omega), HB.out⟩
          case measure => simp [intOf]; omega
        · have HN := hide (show bmOk l m = false by rw [HE.out]; exact bm_not (by omega) hlt hr)
          have HR := hide hr
          clear hr HE
          go_wp2_with (go_at_call 64; refine (RBit_b _ (H.out.below HB.out) (by omega) (by omega) HR.out).mono ?_; rintro e w' ⟨rfl, rfl⟩)
          go_ret2
          exact GetB.no HN.out HB.out
    · obtain rfl : i = 512 := by omega
      have hpm : p = m := by rw [HP.out]; omega
      clear HP
      subst hpm
      have HY := hide (show bmOk l p = true by rw [HE.out, bm_back H.out.1 HL.out]; simp)
      clear HE
      go_wp2
      go_ret2
      exact GetB.yes HY.out HO.out.rd HO.out.cap HB.out
end Go.Proofs.Ythjjjeolpdekoaa
