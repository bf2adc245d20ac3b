/- The walk of the law NumPuts: it is true for any bytes, number and size. -/
import Derived.Test.YtnhlneihbdohlaaNumK
namespace Go.Proofs.Ytnhlneihbdohlaa
open Go.RowKit Plain

set_option maxHeartbeats 400000 in
theorem law_NumPuts {A : Option Addr} {m c : Nat} {l : List UInt8} {n s : Int} (w : World) (ha : Bs w w.heap.size A m l) :
    Calls Try.prog 3 #[.slice A m c, .int .i64 n, .int .i64 s] w (LawOk w) := by
  by_cases hm : 2000 < m
  · clear ha
    have hd : decide ((2000 : Int) < (m : Int)) = true := by simp; omega
    go_enter Try.func3, Try.ntmps3
    go_wp2_with fail
    refine (awake1_any _).mono ?_
    rintro e w' ⟨rfl, hbel⟩
    have HB := hide hbel
    clear hbel
    go_wp2_with fail
    go_ret
    exact LawOk.of HB.out
  · have hd : decide ((2000 : Int) < (m : Int)) = false := by simp; omega
    have hm' : m ≤ 2000 := by omega
    have HA := hide ha
    clear ha hm
    obtain ⟨r, hr⟩ : ∃ r, fits n s = r := ⟨_, rfl⟩
    have HR := hide hr
    go_enter Try.func3, Try.ntmps3
    go_wp2_with fail
    refine (Right_any _ _ _).mono ?_
    rw [hr]
    clear hr
    rintro e w' ⟨rfl, rfl⟩
    go_wp2_with fail
    refine (RRight_any _ _ _).mono ?_
    rw [HR.out]
    rintro e w' ⟨rfl, rfl⟩
    have hrr : (r == r) = true := by simp
    go_wp2_with fail
    refine (Put_any _ HA.out (by omega)).mono ?_
    rintro e w1 ⟨A1, c1, rfl, hown, hbel⟩
    have HO := hide hown
    have HB := hide hbel
    clear hown hbel
    go_wp2_with fail
    refine (RPut_any _ ((HA.out.below HB.out).more HB.out.size) (by omega)).mono ?_
    rintro e w2 ⟨A2, c2, rfl, hown, hbel⟩
    have HO2 := hide hown
    have HB2 := hide hbel
    clear hown hbel
    go_wp2_with fail
    refine (Equal_yes _ (HO.out.below HB2.out).bs HO2.out.bs rfl).mono ?_
    rintro e w' ⟨rfl, rfl⟩
    go_wp2_with fail
    refine (awake1_any _).mono ?_
    rintro e w3 ⟨rfl, hbel⟩
    have HB3 := hide hbel
    clear hbel
    go_wp2_with fail
    go_ret
    exact LawOk.of (below_step (below_step HB.out HB2.out) HB3.out)
end Go.Proofs.Ytnhlneihbdohlaa
