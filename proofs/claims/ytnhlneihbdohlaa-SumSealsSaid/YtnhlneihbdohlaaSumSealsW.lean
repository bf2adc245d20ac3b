/- The walk of the law SumSeals: it is true for any bytes. -/
import Derived.Test.YtnhlneihbdohlaaSumF
namespace Go.Proofs.Ytnhlneihbdohlaa
open Go.RowKit Plain

set_option maxHeartbeats 400000 in
theorem law_SumSeals {A : Option Addr} {m c : Nat} {l : List UInt8} (w : World) (ha : Bs w w.heap.size A m l) (hmc : m ≤ c) :
    Calls Try.prog 7 #[.slice A m c] w (LawOk w) := by
  by_cases hm : 2000 < m
  · clear ha
    have hd : decide ((2000 : Int) < (m : Int)) = true := by simp; omega
    go_enter Try.func7, Try.ntmps7
    go_wp2_with fail
    refine (awake2_any _).mono ?_
    rintro e w' ⟨rfl, hbel⟩
    have HB := hide hbel
    clear hbel
    go_wp2_with fail
    go_ret
    exact LawOk.of HB.out
  · have hd : decide ((2000 : Int) < (m : Int)) = false := by simp; omega
    have hm' : m ≤ 2000 := by omega
    obtain ⟨r, hre⟩ : ∃ r, (l == sealS l) = r := ⟨_, rfl⟩
    have hrr : (r == r) = true := by simp
    have HA := hide ha
    have HRE := hide hre
    clear ha hre hm
    go_enter Try.func7, Try.ntmps7
    go_wp2_with fail
    refine (Seal_any _ HA.out).mono ?_
    rintro e w1 ⟨A1, c1, rfl, hown, hbel⟩
    have HO1 := hide hown
    have HB1 := hide hbel
    clear hown hbel
    go_wp2_with fail
    refine (RSeal_any _ ((HA.out.below HB1.out).more HB1.out.size) (by omega)).mono ?_
    rintro e w2 ⟨A2, c2, rfl, hown, hbel⟩
    have HO2 := hide hown
    have HB2 := hide (below_step HB1.out hbel)
    have HO12 := hide (HO1.out.below hbel)
    clear hown hbel
    go_wp2_with fail
    refine (Equal_any _ HO12.out.bs HO2.out.bs).mono ?_
    rw [show (sealS l == sealS l) = true from by simp]
    rintro e w' ⟨rfl, rfl⟩
    go_wp2_with fail
    refine (Sealed_yes _ HO12.out.bs).mono ?_
    rintro e w3 ⟨rfl, hbel⟩
    have HB3 := hide (below_step HB2.out hbel)
    clear hbel
    go_wp2_with fail
    refine (Sealed_any _ ((HA.out.below HB3.out).more HB3.out.size)).mono ?_
    rw [HRE.out]
    rintro e w4 ⟨rfl, hbel⟩
    have HB4 := hide (below_step HB3.out hbel)
    clear hbel
    go_wp2_with fail
    refine (RSealed_any _ ((HA.out.below HB4.out).more HB4.out.size) hmc).mono ?_
    rw [HRE.out]
    rintro e w5 ⟨rfl, hbel⟩
    have HB5 := hide (below_step HB4.out hbel)
    clear hbel
    go_wp2_with fail
    refine (awake2_any _).mono ?_
    rintro e w6 ⟨rfl, hbel⟩
    have HB6 := hide (below_step HB5.out hbel)
    clear hbel
    go_wp2_with fail
    go_ret
    exact LawOk.of HB6.out
end Go.Proofs.Ytnhlneihbdohlaa
