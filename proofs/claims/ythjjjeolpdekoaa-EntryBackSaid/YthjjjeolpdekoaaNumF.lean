/- Contracts of the reference's Bytes and Put. -/
import Derived.Test.YthjjjeolpdekoaaNumE
namespace Go.Proofs.Ythjjjeolpdekoaa
open Go.RowKit Plain

theorem byte_bv (q : Nat) : Value.int .u8 ((q : Int) % 256) = bv (UInt8.ofNat (q % 256)) := by simp [bv]

set_option maxHeartbeats 800000 in
theorem RBytes_any {n : Int} {s : Nat} (w : World) (hn : 0 ≤ n) (hn2 : n < 4294967296) (hs : s ≤ 4) :
    Calls Try.prog 69 #[.int .i64 n, .int .i64 s] w (BRet w 5 s (nb s n.toNat)) := by
  obtain ⟨n, rfl⟩ := Int.eq_ofNat_of_zero_le hn
  simp only [Int.toNat_natCast]
  clear hn
  go_enter Try.func69, Try.ntmps69
  go_wp2
  go_loopw [0, 5, 6] (fun qv v i wr => ∃ k q : Nat, k ≤ s ∧ q = n / 256 ^ k ∧ i = .int .i64 k ∧ qv = .int .i64 q ∧ (∃ A c, v = .slice A k c ∧ Own wr w.heap.size 5 A k c (nb k n)) ∧ Below w.heap.size w wr) (fun _ _ i _ => s - (intOf i).toNat)
  case atStart => exact ⟨0, n, Nat.zero_le _, by simp, rfl, rfl, ⟨_, _, rfl, own_empty w _⟩, (Below.refl _ _).alloc (Nat.le_refl _) _⟩
  case round =>
    obtain ⟨k, q, hk, hq, rfl, rfl, ⟨A, c, rfl, hown⟩, hbel⟩ := hrel
    have hqb : q < 4294967296 := by have := Nat.div_le_self n (256 ^ k); omega
    have HQ := hide hq
    have HO := hide hown
    have HB := hide hbel
    clear hq hown hbel
    by_cases hlt : k < s
    · go_wp2_with (at_builtin; refine wpList_append_Bs _ rfl (.tmp 13) (.tmp 17) 24 rfl w.heap.size 5 Try.underlying24 info_u8 _ k _ (nb k n) rfl (HO.out.alloc _) _ _ 1 1 _ rfl (Bs.one _ _ (byte_bv q)) (k + 1) rfl (by omega) (by have := HB.out.size; simp; omega) ?_; intro A1 c1 w1 hown1 hbel1; have HO1 := hide hown1; have HB1 := hide hbel1; clear hown1 hbel1)
      go_roundw
      case rel => exact ⟨k + 1, q / 256, by omega, by rw [HQ.out, Nat.pow_succ, ← Nat.div_div_eq_div_mul], by go_num, by go_num, ⟨_, _, rfl, by rw [nb_snoc, ← HQ.out]; exact HO1.out⟩, (HB.out.alloc HB.out.size _).trans HB1.out⟩
      case measure => simp [intOf]; omega
    · obtain rfl : k = s := by omega
      go_wp2
      go_ret
      exact HO.out.ret HB.out

set_option maxHeartbeats 800000 in
theorem RPut_no {A : Option Addr} {m c : Nat} {l : List UInt8} {n s : Int} (w : World) (ha : Bs w w.heap.size A m l) (hm : m ≤ 140737488355000) (h : fits n s = false) :
    Calls Try.prog 88 #[.slice A m c, .int .i64 n, .int .i64 s] w (BRet w 5 m l) := by
  have H := hide h
  have HA := hide ha
  clear h ha
  go_enter Try.func88, Try.ntmps88
  go_wp2_with (first
    | (at_builtin; refine wpList_append_Bs _ rfl (.tmp 8) (.tmp 9) 24 rfl w.heap.size 5 Try.underlying24 info_u8 _ 0 _ [] rfl (own_empty w _) _ A m c l rfl (HA.out.alloc (Nat.le_refl _) _) m (by omega) (by omega) (by simp) ?_; intro A1 c1 w1 hown1 hbel1; have HO1 := hide hown1; have HB1 := hide hbel1; clear hown1 hbel1)
    | (go_at_call 92; refine (RRight_false H.out _).mono ?_; rintro e w' ⟨rfl, rfl⟩))
  go_ret
  exact HO1.out.ret (((Below.refl _ _).alloc (Nat.le_refl _) _).trans HB1.out)

set_option maxHeartbeats 800000 in
theorem RPut_yes {A : Option Addr} {m c : Nat} {l : List UInt8} {n s : Int} (w : World) (ha : Bs w w.heap.size A m l) (hm : m ≤ 140737488355000) (h : fits n s = true) :
    Calls Try.prog 88 #[.slice A m c, .int .i64 n, .int .i64 s] w (BRet w 5 (m + s.toNat) (l ++ nb s.toNat n.toNat)) := by
  obtain ⟨hz, hn0, hn1⟩ := fits_parts h
  have H := hide h
  have HA := hide ha
  have hs4 : 1 ≤ s ∧ s ≤ 4 ∧ n < 4294967296 := by
    rcases isz_cases hz with rfl | rfl | rfl <;> simp at hn1 <;> omega
  obtain ⟨hs1, hs4, hn2⟩ := hs4
  clear hz h ha hn1
  obtain ⟨s, rfl⟩ := Int.eq_ofNat_of_zero_le (by omega : 0 ≤ s)
  have hs4' : s ≤ 4 := by omega
  clear hs1 hs4
  go_enter Try.func88, Try.ntmps88
  go_wp2_with (first
    | (at_builtin; refine wpList_append_Bs _ rfl (.tmp 8) (.tmp 9) 24 rfl w.heap.size 5 Try.underlying24 info_u8 _ 0 _ [] rfl (own_empty w _) _ A m c l rfl (HA.out.alloc (Nat.le_refl _) _) m (by omega) (by omega) (by simp) ?_; intro A1 c1 w1 hown1 hbel1; have HO1 := hide hown1; have HB1 := hide (((Below.refl w.heap.size w).alloc (Nat.le_refl _) _).trans hbel1); clear hown1 hbel1)
    | (go_at_call 92; refine (RRight_true H.out _).mono ?_; rintro e w' ⟨rfl, rfl⟩)
    | (go_at_call 69; refine (RBytes_any _ hn0 hn2 hs4').mono ?_; rintro e w2 ⟨A2, c2, rfl, hown2, hbel2⟩; have HO2 := hide hown2; have HB2 := hide hbel2; clear hown2 hbel2)
    | (at_builtin; refine wpList_append_Bs _ rfl (.tmp 14) (.tmp 17) 24 rfl w.heap.size 5 Try.underlying24 info_u8 _ m _ ([] ++ l) rfl (HO1.out.below HB2.out) _ A2 s c2 _ rfl HO2.out.bs (m + s) rfl (by omega) (Nat.le_trans HB1.out.size HB2.out.size) ?_; intro A3 c3 w3 hown3 hbel3; have HO3 := hide hown3; have HB3 := hide hbel3; clear hown3 hbel3))
  go_ret
  exact Own.ret (by simpa using HO3.out) ((HB1.out.trans (HB2.out.mono HB1.out.size)).trans HB3.out)

/-- The reference's Put: the same. -/
theorem RPut_any {A : Option Addr} {m c : Nat} {l : List UInt8} {n s : Int} (w : World) (ha : Bs w w.heap.size A m l) (hm : m ≤ 140737488355000) :
    Calls Try.prog 88 #[.slice A m c, .int .i64 n, .int .i64 s] w (BRet w 5 (putS l n s).length (putS l n s)) := by
  cases h : fits n s with
  | false => rw [putS_no h, ha.len]; exact RPut_no w ha hm h
  | true => rw [putS_yes h, List.length_append, nb_length, ha.len]; exact RPut_yes w ha hm h
end Go.Proofs.Ythjjjeolpdekoaa
