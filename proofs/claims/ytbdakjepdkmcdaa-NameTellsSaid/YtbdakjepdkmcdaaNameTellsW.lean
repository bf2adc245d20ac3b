/- The walk of the law NameTells: it is true for any text. -/
import Derived.Test.YtbdakjepdkmcdaaNameV
namespace Go.Proofs.Ytbdakjepdkmcdaa
open Go.RowKit Plain

set_option maxHeartbeats 400000 in
theorem law_NameTells {l : List UInt8} (w : World) : Calls Try.prog 3 #[.string ⟨l.toArray⟩] w (LawOk w) := by
  by_cases hm : 2000 < l.length
  · have hd : decide ((2000 : Int) < (l.length : Int)) = true := by simp; omega
    go_enter Try.func3, Try.ntmps3
    go_wp2_with fail
    refine (awake3_any _).mono ?_
    rintro e w' ⟨rfl, hbel⟩
    have HB := hide hbel
    clear hbel
    go_wp2_with fail
    go_ret
    exact LawOk.of HB.out
  · have hd : decide ((2000 : Int) < (l.length : Int)) = false := by simp; omega
    have hm' : l.length ≤ 140737488355328 := by omega
    clear hm
    obtain ⟨r, hr⟩ : ∃ r, nameB l = r := ⟨_, rfl⟩
    have hrr : (r == r) = true := by simp
    have HR := hide hr
    clear hr
    go_enter Try.func3, Try.ntmps3
    go_wp2_with fail
    refine (NRight_b HR.out _ hm').mono ?_
    rintro e w1 ⟨rfl, hbel⟩
    have HB1 := hide hbel
    clear hbel
    go_wp2_with fail
    refine (RNRight_b HR.out _ hm').mono ?_
    rintro e w' ⟨rfl, rfl⟩
    go_wp2_with fail
    refine (Pack_any l _ hm').mono ?_
    rintro e w2 ⟨A2, c2, rfl, hown, hbel⟩
    have HO2 := hide hown
    have HB2 := hide (below_step HB1.out hbel)
    clear hown hbel
    go_wp2_with fail
    refine (RPack_any (l := l) _ hm').mono ?_
    rintro e w3 ⟨A3, c3, rfl, hown, hbel⟩
    have HO3 := hide hown
    have HO23 := hide (HO2.out.below hbel)
    have HB3 := hide (below_step HB2.out hbel)
    clear hown hbel
    go_wp2_with fail
    refine (BEqual_b _ HO23.out.bs HO3.out.bs (b := true) (by simp)).mono ?_
    rintro e w' ⟨rfl, rfl⟩
    go_wp2_with fail
    refine (awake3_any _).mono ?_
    rintro e w4 ⟨rfl, hbel⟩
    have HB4 := hide (below_step HB3.out hbel)
    clear hbel
    go_wp2_with fail
    go_ret
    exact LawOk.of HB4.out
end Go.Proofs.Ytbdakjepdkmcdaa
