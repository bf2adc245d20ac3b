/- The contract of num.Put. -/
import Derived.Test.YthjjjeolpdekoaaNumB
import Derived.Test.YthjjjeolpdekoaaNumD
namespace Go.Proofs.Ythjjjeolpdekoaa
open Go.RowKit Plain

/-- Bytes, and a number's behind them, where it fits. -/
def putS (l : List UInt8) (n s : Int) : List UInt8 := if fits n s = true then l ++ nb s.toNat n.toNat else l
theorem putS_no {l : List UInt8} {n s : Int} (h : fits n s = false) : putS l n s = l := by simp [putS, h]
theorem putS_yes {l : List UInt8} {n s : Int} (h : fits n s = true) : putS l n s = l ++ nb s.toNat n.toNat := by simp [putS, h]
theorem fits_parts {n s : Int} (h : fits n s = true) : isz s = true ∧ 0 ≤ n ∧ n < 256 ^ s.toNat := by
  simp only [fits, Bool.and_eq_true, decide_eq_true_eq] at h
  exact h

theorem Put_no {A : Option Addr} {m c : Nat} {l : List UInt8} {n s : Int} (w : World) (ha : Bs w w.heap.size A m l) (hm : m ≤ 140737488355000) (h : fits n s = false) :
    Calls Try.prog 42 #[.slice A m c, .int .i64 n, .int .i64 s] w (BRet w 5 m l) := by
  have H := hide h
  have HA := hide ha
  clear h ha
  go_enter Try.func42, Try.ntmps42
  go_wp2_with (first
    | (go_at_call 66; refine (Right_false H.out _).mono ?_; rintro e w' ⟨rfl, rfl⟩)
    | (go_at_call 54; refine (Clone_any _ HA.out (by omega)).mono ?_; rintro e w' ⟨A1, c1, rfl, hown, hbel⟩; have HO := hide hown; have HB := hide hbel; clear hown hbel))
  go_ret
  exact HO.out.ret HB.out

theorem u8_size : (Try.prog.info? 5).map (·.size) = some 1 := by kernel_rfl

set_option maxHeartbeats 800000 in
theorem Put_yes {A : Option Addr} {m c : Nat} {l : List UInt8} {n s : Int} (w : World) (ha : Bs w w.heap.size A m l) (hm : m ≤ 140737488355000) (h : fits n s = true) :
    Calls Try.prog 42 #[.slice A m c, .int .i64 n, .int .i64 s] w (BRet w 5 (m + s.toNat) (l ++ nb s.toNat n.toNat)) := by
  obtain ⟨hz, hn0, _⟩ := fits_parts h
  have H := hide h
  have HA := hide ha
  clear h ha
  have hs4 : 1 ≤ s ∧ s ≤ 4 := by rcases isz_cases hz with rfl | rfl | rfl <;> omega
  obtain ⟨hs1, hs4⟩ := hs4
  clear hz
  obtain ⟨s, rfl⟩ := Int.eq_ofNat_of_zero_le (by omega : 0 ≤ s)
  have hs1' : 1 ≤ s := by omega
  have hs4' : s ≤ 4 := by omega
  clear hs1 hs4
  go_enter Try.func42, Try.ntmps42
  go_wp2_with (first
    | (go_at_call 66; refine (Right_true H.out _).mono ?_; rintro e w' ⟨rfl, rfl⟩)
    | (at_make; refine wpList_make_Bs _ rfl (.tmp 17) (.tmp 17) 24 rfl 5 Try.underlying24 info_u8 .i64 .i64 _ _ (m + s) rfl rfl (by omega) (by omega) (by omega) ?_; intro w1 hr1 hb1; have HR1 := hide hr1; have HB1 := hide hb1; have hlt1 := hr1.lt; clear hr1 hb1)
    | (with_reducible refine wpList_copy_Bs rfl (.tmp 19) (.tmp 20) 24 24 rfl 5 Try.underlying24 u8_size w.heap.size (m + s) _ rfl _ _ HR1.out A m c rfl _ l (HA.out.below HB1.out) (by omega) (by rw [bvs_length, zeros_length]; omega) w.heap.size w HB1.out (Nat.le_refl _) ?_; intro w2 hr2 hb2; have HR2 := hide hr2; have HB2 := hide hb2; clear hr2 hb2)
    | (go_at_call 68; refine (field_any _ (by omega) (by omega) (by omega) (Nat.le_refl _) (by omega)).mono ?_; rintro e w' ⟨rfl, rfl⟩)
    | (go_at_call 67; refine (fill_any _ HR2.out (by omega) (by rw [length_splice _ _ _ (by simp only [bvs_length, zeros_length, HA.out.len]; omega), bvs_length, zeros_length]; omega) hn0).mono ?_; rintro e w3 ⟨rfl, hr3, hg3⟩; have HR3 := hide hr3; have HG3 := hide hg3; clear hr3 hg3))
  go_ret
  refine Own.ret (HR3.out.own_bvs ?_ ?_ (Nat.le_refl _) (by omega)) (HB2.out.grown HG3.out HB2.out.size (by simp))
  · have hl := HA.out.len
    have := splice_two (bvs (zeros (m + s))) (bvs l) (bvs (nb s n.toNat)) (by simp only [bvs_length, zeros_length, nb_length]; omega)
    rw [bvs_length, hl] at this
    simp only [Int.toNat_natCast]
    rw [this, bvs_append]
  · have hl := HA.out.len
    simp only [Int.toNat_natCast, List.length_append, nb_length]
    omega

/-- num.Put: any bytes, and the number behind them, where it fits; in memory of its own. -/
theorem Put_any {A : Option Addr} {m c : Nat} {l : List UInt8} {n s : Int} (w : World) (ha : Bs w w.heap.size A m l) (hm : m ≤ 140737488355000) :
    Calls Try.prog 42 #[.slice A m c, .int .i64 n, .int .i64 s] w (BRet w 5 (putS l n s).length (putS l n s)) := by
  cases h : fits n s with
  | false => rw [putS_no h, ha.len]; exact Put_no w ha hm h
  | true => rw [putS_yes h, List.length_append, nb_length, ha.len]; exact Put_yes w ha hm h
end Go.Proofs.Ythjjjeolpdekoaa
