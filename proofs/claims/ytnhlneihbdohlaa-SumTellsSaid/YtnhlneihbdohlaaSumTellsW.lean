/- The walk of the law SumTells: it is true for any bytes. -/
import Derived.Test.YtnhlneihbdohlaaSumF
namespace Go.Proofs.Ytnhlneihbdohlaa
open Go.RowKit Plain

theorem int_of_F {a : Nat} (h : a < 65521) (W : World) : (convert 40 3 (.float .f64 (F a))).run Try.prog W = .ok (.int .i64 a) W := by
  have ca : floatToIntVal .f64 (F a) .i64 = some (a : Int) := by
    have := F_int (n := a) (by omega)
    have e : (FloatKind.f64.decode (F a)).toInt .zero = some (a : Int) := this
    unfold floatToIntVal
    rw [e]
    simp [IntKind.min, IntKind.max, IntKind.signed, IntKind.bits]
    omega
  exact run_convert_float_int (P := Try.prog) W 40 3 .f64 .i64 (F a) a (by rw [Try.underlying40]; rfl) Try.underlying3 ca

set_option maxHeartbeats 400000 in
theorem law_SumTells {A : Option Addr} {m c : Nat} {l : List UInt8} (w : World) (ha : Bs w w.heap.size A m l) :
    Calls Try.prog 6 #[.slice A m c] w (LawOk w) := by
  by_cases hm : 70000 < m
  · clear ha
    have hd : decide ((70000 : Int) < (m : Int)) = true := by simp; omega
    go_enter Try.func6, Try.ntmps6
    go_wp2_with fail
    refine (awake2_any _).mono ?_
    rintro e w' ⟨rfl, hbel⟩
    have HB := hide hbel
    clear hbel
    go_wp2_with fail
    go_ret
    exact LawOk.of HB.out
  · have hd : decide ((70000 : Int) < (m : Int)) = false := by simp; omega
    have hm' : m ≤ 70000 := by omega
    obtain ⟨h1, h2⟩ := sumsS_lt l
    obtain ⟨a, hae⟩ : ∃ a, (sumsS l).1 = a := ⟨_, rfl⟩
    obtain ⟨b, hbe⟩ : ∃ b, (sumsS l).2 = b := ⟨_, rfl⟩
    obtain ⟨r, hre⟩ : ∃ r, ofS l = r := ⟨_, rfl⟩
    rw [hae] at h1
    rw [hbe] at h2
    have HA := hide ha
    have HAE := hide hae
    have HBE := hide hbe
    have HRE := hide hre
    clear ha hae hbe hre hm
    have r1 := int_of_F h1
    have r2 := int_of_F h2
    have haa : ((a : Int) == (a : Int)) = true := by simp
    have hbb : ((b : Int) == (b : Int)) = true := by simp
    have hrr : ((r : Int) == (r : Int)) = true := by simp
    go_enter Try.func6, Try.ntmps6
    go_wp2_with fail
    refine (RSums_any _ HA.out (by omega)).mono ?_
    rw [HAE.out, HBE.out]
    rintro e w' ⟨rfl, rfl⟩
    go_wp2_with fail
    refine (Sums_any _ HA.out (by omega)).mono ?_
    rw [HAE.out, HBE.out]
    rintro e w' ⟨rfl, rfl⟩
    go_wp2_with fail
    refine (Of_any _ HA.out (by omega)).mono ?_
    rw [HRE.out]
    rintro e w' ⟨rfl, rfl⟩
    go_wp2_with fail
    refine (ROf_any _ HA.out (by omega)).mono ?_
    rw [HRE.out]
    rintro e w' ⟨rfl, rfl⟩
    go_wp2_with fail
    refine (awake2_any _).mono ?_
    rintro e w' ⟨rfl, hbel⟩
    have HB := hide hbel
    clear hbel
    go_wp2_with fail
    go_ret
    exact LawOk.of HB.out
end Go.Proofs.Ytnhlneihbdohlaa
