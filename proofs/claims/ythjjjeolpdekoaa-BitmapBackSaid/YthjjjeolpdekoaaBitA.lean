/- bitmap (layer 10): OnesCount8, Many; the reference's bit and Many. -/
import Derived.Test.YthjjjeolpdekoaaRows
import Derived.Test.YthjjjeolpdekoaaBitP
import Derived.Test.YthjjjeolpdekoaaMemR
namespace Go.Proofs.Ythjjjeolpdekoaa
open Go.RowKit Plain

theorem testBit_div (x k : Nat) : x.testBit k = decide (x / 2 ^ k % 2 = 1) := Nat.testBit_eq_decide_div_mod_eq
theorem ret_int {k : IntKind} {a b : Int} (h : a = b) : Ending.returned (.int k a) = .returned (.int k b) := by rw [h]
theorem ret_bool {a b : Bool} (h : a = b) : Ending.returned (.bool a) = .returned (.bool b) := by rw [h]

set_option maxHeartbeats 400000 in
theorem RBit_any {A : Option Addr} {n c : Nat} {l : List UInt8} {B : Nat} (w : World) (h : Bs w B A n l) {i : Nat} (hi : i < 8 * n) (hn : n ≤ 140737488355328) :
    Calls Try.prog 64 #[.slice A n c, .int .i64 i] w fun e w' => e = .returned (.bool (bitB l i)) ∧ w = w' := by
  obtain ⟨b, o, rfl, _, hc⟩ := h.2 (by omega)
  have hl := h.1
  have hlt : i / 8 < l.length := by omega
  have hc1 := hc (i / 8) _ (List.getElem?_eq_getElem hlt)
  obtain ⟨x, hx⟩ : ∃ x, x = l[i / 8] := ⟨_, rfl⟩
  rw [← hx] at hc1
  have hb : bitB l i = decide (x.toNat / 2 ^ (i % 8) % 2 = 1) := by
    unfold bitB
    simp only [List.getD, List.getElem?_eq_getElem hlt, Option.getD_some, ← hx]
    exact testBit_div _ _
  have HBI := hide hb
  have hx8 := x.toNat_lt
  clear hb hx hc h
  simp only [bv] at hc1
  go_enter Try.func64, Try.ntmps64
  go_wp2
  go_loop [5, 6] (fun t j => ∃ k q : Nat, k ≤ i % 8 ∧ q = x.toNat / 2 ^ k ∧ j = .int .i64 k ∧ t = .int .i64 q) (fun _ j => 8 - (intOf j).toNat)
  case atStart => exact ⟨0, x.toNat, by omega, by simp, rfl, rfl⟩
  case round =>
    obtain ⟨k, q, hk, hq, rfl, rfl⟩ := hrel
    have hle : q ≤ 255 := by have := Nat.div_le_self x.toNat (2 ^ k); omega
    have HQ := hide hq
    clear hq
    by_cases hlt : k < i % 8
    · go_wp2
      go_round
      case rel => exact ⟨k + 1, q / 2, by omega, by rw [HQ.out, Nat.pow_succ, ← Nat.div_div_eq_div_mul], by go_num, by go_num⟩
      case measure => simp [intOf]; omega
    · obtain rfl : k = i % 8 := by omega
      go_wp2
      go_ret
      exact ⟨ret_bool (by rw [HBI.out, ← HQ.out, Bool.eq_iff_iff]; simp; omega), rfl⟩
theorem RBit_b {A : Option Addr} {n c : Nat} {l : List UInt8} {B : Nat} (w : World) (h : Bs w B A n l) {i : Nat} (hi : i < 8 * n) (hn : n ≤ 140737488355328) {r : Bool} (hr : bitB l i = r) :
    Calls Try.prog 64 #[.slice A n c, .int .i64 i] w fun e w' => e = .returned (.bool r) ∧ w = w' := by
  subst hr; exact RBit_any w h hi hn
/-- It returns a number, and nothing that was there has turned. -/
def IntRet (w : World) (k : Int) (x : Ending) (w' : World) : Prop := x = .returned (.int .i64 k) ∧ w = w'

set_option maxHeartbeats 400000 in
theorem RMany_any {A : Option Addr} {n c : Nat} {l : List UInt8} {B : Nat} (w : World) (h : Bs w B A n l) (hn : n ≤ 140737488355328) :
    Calls Try.prog 41 #[.slice A n c] w (IntRet w (sumP l n)) := by
  have hs : sumP l n = cnt l (8 * n) := (cnt_sum l n (by rw [h.1]; exact Nat.le_refl _)).symm
  have HS := hide hs
  have H := hide h
  clear hs h
  go_enter Try.func41, Try.ntmps41
  go_wp2
  go_loop [3, 4] (fun t j => ∃ k q : Nat, k ≤ 8 * n ∧ q = cnt l k ∧ j = .int .i64 k ∧ t = .int .i64 q) (fun _ j => 8 * n - (intOf j).toNat)
  case atStart => exact ⟨0, 0, by omega, rfl, rfl, rfl⟩
  case round =>
    obtain ⟨k, q, hk, hq, rfl, rfl⟩ := hrel
    have hle : q ≤ k := by rw [hq]; exact cnt_le _ _
    have HQ := hide hq
    clear hq
    by_cases hlt : k < 8 * n
    · obtain ⟨r, hr⟩ : ∃ r, bitB l k = r := ⟨_, rfl⟩
      have hcs : cnt l (k + 1) = q + r.toNat := by rw [cnt_succ, ← HQ.out, hr]
      have HC := hide hcs
      have HR := hide hr
      clear hr hcs
      cases r
      · go_wp2_with (go_at_call 64; refine (RBit_b _ H.out hlt hn HR.out).mono ?_; rintro e w' ⟨rfl, rfl⟩)
        go_round
        case rel => exact ⟨k + 1, q, by omega, by rw [HC.out]; rfl, by go_num, rfl⟩
        case measure => simp [intOf]; omega
      · go_wp2_with (go_at_call 64; refine (RBit_b _ H.out hlt hn HR.out).mono ?_; rintro e w' ⟨rfl, rfl⟩)
        go_round
        case rel => exact ⟨k + 1, q + 1, by omega, by rw [HC.out]; rfl, by go_num, by go_num⟩
        case measure => simp [intOf]; omega
    · go_wp2
      go_ret
      obtain rfl : k = 8 * n := by omega
      exact ⟨ret_int (by rw [HS.out, HQ.out]), rfl⟩
/-- How many bits of each byte are 1. -/
def popTab : ByteArray := ⟨#[0, 1, 1, 2, 1, 2, 2, 3, 1, 2, 2, 3, 2, 3, 3, 4, 1, 2, 2, 3, 2, 3, 3, 4, 2, 3, 3, 4, 3, 4, 4, 5, 1, 2, 2, 3, 2, 3, 3, 4, 2, 3, 3, 4, 3, 4, 4, 5, 2, 3, 3, 4, 3, 4, 4, 5, 3, 4, 4, 5, 4, 5, 5, 6, 1, 2, 2, 3, 2, 3, 3, 4, 2, 3, 3, 4, 3, 4, 4, 5, 2, 3, 3, 4, 3, 4, 4, 5, 3, 4, 4, 5, 4, 5, 5, 6, 2, 3, 3, 4, 3, 4, 4, 5, 3, 4, 4, 5, 4, 5, 5, 6, 3, 4, 4, 5, 4, 5, 5, 6, 4, 5, 5, 6, 5, 6, 6, 7, 1, 2, 2, 3, 2, 3, 3, 4, 2, 3, 3, 4, 3, 4, 4, 5, 2, 3, 3, 4, 3, 4, 4, 5, 3, 4, 4, 5, 4, 5, 5, 6, 2, 3, 3, 4, 3, 4, 4, 5, 3, 4, 4, 5, 4, 5, 5, 6, 3, 4, 4, 5, 4, 5, 5, 6, 4, 5, 5, 6, 5, 6, 6, 7, 2, 3, 3, 4, 3, 4, 4, 5, 3, 4, 4, 5, 4, 5, 5, 6, 3, 4, 4, 5, 4, 5, 5, 6, 4, 5, 5, 6, 5, 6, 6, 7, 3, 4, 4, 5, 4, 5, 5, 6, 4, 5, 5, 6, 5, 6, 6, 7, 4, 5, 5, 6, 5, 6, 6, 7, 5, 6, 6, 7, 6, 7, 7, 8]⟩
theorem popTab_size : popTab.size = 256 := by kernel_rfl
theorem popTab_get : ∀ k : Fin 256, (popTab[k.1]'(by rw [popTab_size]; exact k.2)).toNat = pop (UInt8.ofNat k.1) := by decide +kernel
theorem popTab_at (x : UInt8) (h : x.toNat < popTab.size) : wrap64 ((popTab[x.toNat]'h).toNat : Int) = pop x := by
  have e := popTab_get ⟨x.toNat, x.toNat_lt⟩
  simp only [UInt8.ofNat_toNat] at e
  rw [e]
  have := pop_le x
  simp only [wrap64]
  omega
set_option maxRecDepth 100000 in
set_option maxHeartbeats 400000 in
theorem Ones_any (x : UInt8) (w : World) :
    Calls Try.prog 65 #[.int .u8 x.toNat] w (IntRet w (pop x)) := by
  have hx8 := x.toNat_lt
  go_enter Try.func65, Try.ntmps65
  go_wp2
  go_ret
  exact ⟨ret_int (popTab_at x (by rw [popTab_size]; exact hx8)), rfl⟩
set_option maxHeartbeats 400000 in
theorem Many_any {A : Option Addr} {n c : Nat} {l : List UInt8} {B : Nat} (w : World) (h : Bs w B A n l) (hn : n ≤ 140737488355328) :
    Calls Try.prog 40 #[.slice A n c] w (IntRet w (sumP l n)) := by
  have H := hide h
  clear h
  go_enter Try.func40, Try.ntmps40
  go_wp2
  go_loop [3, 8] (fun t j => ∃ k q : Nat, k ≤ n ∧ q = sumP l k ∧ j = .int .i64 k ∧ t = .int .i64 q) (fun _ j => n - (intOf j).toNat)
  case atStart => exact ⟨0, 0, by omega, rfl, rfl, rfl⟩
  case round =>
    obtain ⟨k, q, hk, hq, rfl, rfl⟩ := hrel
    have hle : q ≤ 8 * k := by rw [hq]; exact sumP_le _ _ (by rw [H.out.1]; exact hk)
    have HQ := hide hq
    clear hq
    by_cases hlt : k < n
    · have hlt2 : k < l.length := by rw [H.out.1]; exact hlt
      obtain ⟨b, o, rfl, _, hc⟩ := H.out.2 (by omega)
      have hc1 := hc k _ (List.getElem?_eq_getElem hlt2)
      have hcs : sumP l (k + 1) = q + pop l[k] := by rw [sumP_succ hlt2, ← HQ.out]
      obtain ⟨x, hx⟩ : ∃ x, x = l[k] := ⟨_, rfl⟩
      rw [← hx] at hc1 hcs
      have HC := hide hcs
      have hp := pop_le x
      clear hc hx hcs hlt2
      simp only [bv] at hc1
      go_wp2_with (go_at_call 65; refine (Ones_any x _).mono ?_; rintro e w' ⟨rfl, rfl⟩)
      go_round
      case rel => exact ⟨k + 1, q + pop x, by omega, HC.out.symm, by go_num, by go_num⟩
      case measure => simp [intOf]; omega
    · go_wp2
      go_ret
      obtain rfl : k = n := by omega
      exact ⟨ret_int (by rw [HQ.out]), rfl⟩
end Go.Proofs.Ythjjjeolpdekoaa
