/- The law BitmapTells (layer 10): its walk. -/
import Derived.Test.YthjjjeolpdekoaaBitG
namespace Go.Proofs.Ythjjjeolpdekoaa
open Go.RowKit Plain

set_option maxRecDepth 100000 in
set_option maxHeartbeats 800000 in
theorem law_BitmapTells {A B : Option Addr} {n c p d : Nat} {u : List Bool} {l : List UInt8} (w : World) (ha : Rd Value.bool w w.heap.size A n u) (hb : Bs w w.heap.size B p l) (hnc : n ≤ c) (m : Int) :
    Calls Try.prog 7 #[.slice A n c, .slice B p d, .int .i64 m] w (LawOk w) := by
  have HA := hide ha
  have HB := hide hb
  clear ha hb
  by_cases h1 : 2000 < n
  · have hd : decide (2000 < (n : Int)) = true := by simp; omega
    go_enter Try.func7, Try.ntmps7
    go_wp2_with fail
    refine (awake10_any _).mono ?_
    rintro e w1 ⟨rfl, hbel⟩
    have HB1 := hide hbel
    clear hbel
    go_wp2_with fail
    go_ret
    exact LawOk.of HB1.out
  by_cases h2 : 2000 < p
  · have hd : decide (2000 < (n : Int)) = false := by simp; omega
    have hd2 : decide (2000 < (p : Int)) = true := by simp; omega
    go_enter Try.func7, Try.ntmps7
    go_wp2_with fail
    refine (awake10_any _).mono ?_
    rintro e w1 ⟨rfl, hbel⟩
    have HB1 := hide hbel
    clear hbel
    go_wp2_with fail
    go_ret
    exact LawOk.of HB1.out
  have hd : decide (2000 < (n : Int)) = false := by simp; omega
  have hd2 : decide (2000 < (p : Int)) = false := by simp; omega
  have hn : n ≤ 140737488355328 := by omega
  have hp : p ≤ 140737488355328 := by omega
  obtain ⟨r, hr⟩ : ∃ r, bmOk l m = r := ⟨_, rfl⟩
  obtain ⟨ls, hls⟩ : ∃ ls, getBits l m = ls := ⟨_, rfl⟩
  have HR := hide hr
  have HLS := hide hls
  have hlen : ls.length ≤ 140737488355328 := by
    rw [← hls]
    unfold getBits
    split
    · rename_i h
      simp only [bmOk, Bool.and_eq_true, decide_eq_true_eq] at h
      rw [bitsOf_length]; omega
    · simp
  clear hr hls
  go_enter Try.func7, Try.ntmps7
  go_wp2_with fail
  refine (GetB_c _ HB.out hp m HR.out HLS.out).mono ?_
  rintro e w1 ⟨A1, n1, c1, rfl, hrd1, -, hbel1⟩
  have hn1 := hrd1.len
  have HR1 := hide hrd1
  have HB1 := hide hbel1
  have HBb := hide ((HB.out.below hbel1).more hbel1.size)
  have HAa := hide (HA.out.on hbel1)
  clear hrd1 hbel1
  go_wp2_with fail
  refine (RGetB_c _ HBb.out hp m HR.out HLS.out).mono ?_
  rintro e w2 ⟨A2, n2, c2, rfl, hrd2, -, hbel2⟩
  have hn2 := hrd2.len
  have HR1b := hide (HR1.out.on hbel2)
  have HR2 := hide hrd2
  have HB2 := hide (below_step HB1.out hbel2)
  have HBc := hide ((HBb.out.below hbel2).more hbel2.size)
  have HAb := hide (HAa.out.on hbel2)
  clear hrd2 hbel2 HR1 HB1 HBb HAa
  go_wp2_with fail
  refine (PutB_any _ HAb.out hn hnc).mono ?_
  rintro e w3 ⟨A3, c3, rfl, hown3, hbel3⟩
  have HO3 := hide hown3
  have HB3 := hide (below_step HB2.out hbel3)
  have HR1c := hide (HR1b.out.on hbel3)
  have HR2b := hide (HR2.out.on hbel3)
  have HBd := hide ((HBc.out.below hbel3).more hbel3.size)
  have HAc := hide (HAb.out.on hbel3)
  clear hown3 hbel3 HR1b HR2 HB2 HBc HAb
  go_wp2_with fail
  refine (RPutB_any _ HAc.out hn).mono ?_
  rintro e w4 ⟨A4, c4, rfl, hown4, hbel4⟩
  have HO3b := hide (HO3.out.below hbel4)
  have HO4 := hide hown4
  have HB4 := hide (below_step HB3.out hbel4)
  have HR1d := hide (HR1c.out.on hbel4)
  have HR2c := hide (HR2b.out.on hbel4)
  have HBe := hide ((HBd.out.below hbel4).more hbel4.size)
  clear hown4 hbel4 HR1c HR2b HB3 HBd HAc HO3
  go_wp2_with fail
  refine (BEqual_b (b := true) _ HO3b.out.bs HO4.out.bs (by simp)).mono ?_
  rintro e w5 ⟨rfl, rfl⟩
  go_wp2_with fail
  refine (EqualB_b (r := true) _ HR1d.out HR2c.out (by omega) (by simp)).mono ?_
  rintro e w5 ⟨rfl, hbel5⟩
  have HB5 := hide (below_step HB4.out hbel5)
  have HBf := hide ((HBe.out.below hbel5).more hbel5.size)
  clear hbel5 HB4 HBe HR1d HR2c HO3b HO4 HR HLS
  cases r
  all_goals
    go_wp2_with fail
    refine (Many_c _ HBf.out hp rfl).mono ?_
    rintro e w6 ⟨rfl, rfl⟩
    go_wp2_with fail
    refine (RMany_c _ HBf.out hp rfl).mono ?_
    rintro e w6 ⟨rfl, rfl⟩
    go_wp2_with fail
    refine (awake10_any _).mono ?_
    rintro e w7 ⟨rfl, hbel7⟩
    have HB7 := hide (below_step HB5.out hbel7)
    clear hbel7
    go_wp2_with fail
    go_ret
    exact LawOk.of HB7.out
end Go.Proofs.Ythjjjeolpdekoaa
