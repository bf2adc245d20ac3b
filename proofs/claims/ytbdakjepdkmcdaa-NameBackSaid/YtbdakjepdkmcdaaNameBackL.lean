/- The walk of the law NameBack: it is true for any bytes and any text. -/
import Derived.Test.YtbdakjepdkmcdaaNameV
namespace Go.Proofs.Ytbdakjepdkmcdaa
open Go.RowKit Plain

theorem unpack_yes {b : List UInt8} (h : isPackB b = true) : packS (unpackS b) = b ∧ (unpackS b).length ≤ 12 := by
  obtain ⟨h1, h2⟩ := isPackB_name h
  have : unpackS b = innerS b := by simp [unpackS, h]
  rw [this]
  exact ⟨h2, (nameB_len h1).2⟩
theorem unpack_no {b : List UInt8} (h : isPackB b = false) : unpackS b = [] := by simp [unpackS, h]

set_option maxHeartbeats 800000 in
theorem law_NameBack {A : Option Addr} {m c : Nat} {b l : List UInt8} (w : World) (ha : Bs w w.heap.size A m b) (hmc : m ≤ c) :
    Calls Try.prog 4 #[.slice A m c, .string ⟨l.toArray⟩] w (LawOk w) := by
  by_cases hm : 2000 < m
  · have hd : decide ((2000 : Int) < (m : Int)) = true := by simp; omega
    clear ha hmc
    go_enter Try.func4, Try.ntmps4
    go_wp2_with fail
    refine (awake3_any _).mono ?_
    rintro e w' ⟨rfl, hbel⟩
    have HB := hide hbel
    clear hbel
    go_wp2_with fail
    go_ret
    exact LawOk.of HB.out
  have hd : decide ((2000 : Int) < (m : Int)) = false := by simp; omega
  by_cases hs : 2000 < l.length
  · have hd2 : decide ((2000 : Int) < (l.length : Int)) = true := by simp; omega
    clear ha hmc
    go_enter Try.func4, Try.ntmps4
    go_wp2_with fail
    refine (awake3_any _).mono ?_
    rintro e w' ⟨rfl, hbel⟩
    have HB := hide hbel
    clear hbel
    go_wp2_with fail
    go_ret
    exact LawOk.of HB.out
  have hd2 : decide ((2000 : Int) < (l.length : Int)) = false := by simp; omega
  have hl' : l.length ≤ 140737488355328 := by omega
  clear hm hs
  obtain ⟨u, hu⟩ : ∃ u, unpackS b = u := ⟨_, rfl⟩
  have huu : (u == u) = true := by simp
  have hun : (u != u) = false := by simp
  have hll : (l == l) = true := by simp
  have HA := hide ha
  have HU := hide hu
  clear ha hu
  cases hr : isPackB b with
  | true =>
    have HR := hide hr
    have hup := unpack_yes hr
    rw [HU.out] at hup
    have HUP := hide hup
    clear hr hup
    cases hq : nameB l with
    | true =>
      have HQ := hide hq
      clear hq
      go_enter Try.func4, Try.ntmps4
      go_wp2_with fail
      refine (NUnpack_any _ HA.out).mono ?_
      rw [HU.out, HR.out]
      rintro e w1 ⟨rfl, hbel⟩
      unfold st
      have HB1 := hide hbel
      clear hbel
      go_wp2_with fail
      refine (RUnpack_any _ ((HA.out.below HB1.out).more HB1.out.size) hmc).mono ?_
      rw [HU.out, HR.out]
      rintro e w2 ⟨rfl, hbel⟩
      unfold st
      have HB2 := hide (below_step HB1.out hbel)
      clear hbel
      go_wp2_with fail
      refine (Pack_any u _ (by have := HUP.out.2; omega)).mono ?_
      rintro e w3 ⟨A3, c3, rfl, hown, hbel⟩
      have HO3 := hide hown
      have HB3 := hide (below_step HB2.out hbel)
      clear hown hbel
      go_wp2_with fail
      refine (BEqual_b _ HO3.out.bs ((HA.out.below HB3.out).more HB3.out.size) (b := true) (by rw [HUP.out.1]; simp)).mono ?_
      rintro e w' ⟨rfl, rfl⟩
      go_wp2_with fail
      refine (Pack_any l _ hl').mono ?_
      rintro e w4 ⟨A4, c4, rfl, hown, hbel⟩
      have HO4 := hide hown
      have HB4 := hide (below_step HB3.out hbel)
      clear hown hbel
      go_wp2_with fail
      refine (NUnpack_pack HQ.out _ HO4.out.bs).mono ?_
      rintro e w5 ⟨rfl, hbel⟩
      simp only [st, if_true]
      have HB5 := hide (below_step HB4.out hbel)
      clear hbel
      go_wp2_with fail
      refine (NRight_b HQ.out _ hl').mono ?_
      rintro e w6 ⟨rfl, hbel⟩
      have HB6 := hide (below_step HB5.out hbel)
      clear hbel
      go_wp2_with fail
      refine (awake3_any _).mono ?_
      rintro e w7 ⟨rfl, hbel⟩
      have HB7 := hide (below_step HB6.out hbel)
      clear hbel
      go_wp2_with fail
      go_ret
      exact LawOk.of HB7.out
    | false =>
      have HQ := hide hq
      clear hq
      go_enter Try.func4, Try.ntmps4
      go_wp2_with fail
      refine (NUnpack_any _ HA.out).mono ?_
      rw [HU.out, HR.out]
      rintro e w1 ⟨rfl, hbel⟩
      unfold st
      have HB1 := hide hbel
      clear hbel
      go_wp2_with fail
      refine (RUnpack_any _ ((HA.out.below HB1.out).more HB1.out.size) hmc).mono ?_
      rw [HU.out, HR.out]
      rintro e w2 ⟨rfl, hbel⟩
      unfold st
      have HB2 := hide (below_step HB1.out hbel)
      clear hbel
      go_wp2_with fail
      refine (Pack_any u _ (by have := HUP.out.2; omega)).mono ?_
      rintro e w3 ⟨A3, c3, rfl, hown, hbel⟩
      have HO3 := hide hown
      have HB3 := hide (below_step HB2.out hbel)
      clear hown hbel
      go_wp2_with fail
      refine (BEqual_b _ HO3.out.bs ((HA.out.below HB3.out).more HB3.out.size) (b := true) (by rw [HUP.out.1]; simp)).mono ?_
      rintro e w' ⟨rfl, rfl⟩
      go_wp2_with fail
      refine (Pack_any l _ hl').mono ?_
      rintro e w4 ⟨A4, c4, rfl, hown, hbel⟩
      have HO4 := hide hown
      have HB4 := hide (below_step HB3.out hbel)
      clear hown hbel
      go_wp2_with fail
      refine (NUnpack_pack HQ.out _ HO4.out.bs).mono ?_
      rintro e w5 ⟨rfl, hbel⟩
      simp only [st, if_false, Bool.false_eq_true]
      have HB5 := hide (below_step HB4.out hbel)
      clear hbel
      go_wp2_with fail
      refine (NRight_b HQ.out _ hl').mono ?_
      rintro e w6 ⟨rfl, hbel⟩
      have HB6 := hide (below_step HB5.out hbel)
      clear hbel
      go_wp2_with fail
      refine (awake3_any _).mono ?_
      rintro e w7 ⟨rfl, hbel⟩
      have HB7 := hide (below_step HB6.out hbel)
      clear hbel
      go_wp2_with fail
      go_ret
      exact LawOk.of HB7.out
  | false =>
    have HR := hide hr
    clear hr
    cases hq : nameB l with
    | true =>
      have HQ := hide hq
      clear hq
      go_enter Try.func4, Try.ntmps4
      go_wp2_with fail
      refine (NUnpack_any _ HA.out).mono ?_
      rw [HU.out, HR.out]
      rintro e w1 ⟨rfl, hbel⟩
      unfold st
      have HB1 := hide hbel
      clear hbel
      go_wp2_with fail
      refine (RUnpack_any _ ((HA.out.below HB1.out).more HB1.out.size) hmc).mono ?_
      rw [HU.out, HR.out]
      rintro e w2 ⟨rfl, hbel⟩
      unfold st
      have HB2 := hide (below_step HB1.out hbel)
      clear hbel
      go_wp2_with fail
      obtain ⟨w3, hw3⟩ : ∃ w3, w3 = w2 := ⟨_, rfl⟩
      have HB3 := HB2
      rw [← hw3] at HB3 ⊢
      clear hw3
      refine (Pack_any l _ hl').mono ?_
      rintro e w4 ⟨A4, c4, rfl, hown, hbel⟩
      have HO4 := hide hown
      have HB4 := hide (below_step HB3.out hbel)
      clear hown hbel
      go_wp2_with fail
      refine (NUnpack_pack HQ.out _ HO4.out.bs).mono ?_
      rintro e w5 ⟨rfl, hbel⟩
      simp only [st, if_true]
      have HB5 := hide (below_step HB4.out hbel)
      clear hbel
      go_wp2_with fail
      refine (NRight_b HQ.out _ hl').mono ?_
      rintro e w6 ⟨rfl, hbel⟩
      have HB6 := hide (below_step HB5.out hbel)
      clear hbel
      go_wp2_with fail
      refine (awake3_any _).mono ?_
      rintro e w7 ⟨rfl, hbel⟩
      have HB7 := hide (below_step HB6.out hbel)
      clear hbel
      go_wp2_with fail
      go_ret
      exact LawOk.of HB7.out
    | false =>
      have HQ := hide hq
      clear hq
      go_enter Try.func4, Try.ntmps4
      go_wp2_with fail
      refine (NUnpack_any _ HA.out).mono ?_
      rw [HU.out, HR.out]
      rintro e w1 ⟨rfl, hbel⟩
      unfold st
      have HB1 := hide hbel
      clear hbel
      go_wp2_with fail
      refine (RUnpack_any _ ((HA.out.below HB1.out).more HB1.out.size) hmc).mono ?_
      rw [HU.out, HR.out]
      rintro e w2 ⟨rfl, hbel⟩
      unfold st
      have HB2 := hide (below_step HB1.out hbel)
      clear hbel
      go_wp2_with fail
      obtain ⟨w3, hw3⟩ : ∃ w3, w3 = w2 := ⟨_, rfl⟩
      have HB3 := HB2
      rw [← hw3] at HB3 ⊢
      clear hw3
      refine (Pack_any l _ hl').mono ?_
      rintro e w4 ⟨A4, c4, rfl, hown, hbel⟩
      have HO4 := hide hown
      have HB4 := hide (below_step HB3.out hbel)
      clear hown hbel
      go_wp2_with fail
      refine (NUnpack_pack HQ.out _ HO4.out.bs).mono ?_
      rintro e w5 ⟨rfl, hbel⟩
      simp only [st, if_false, Bool.false_eq_true]
      have HB5 := hide (below_step HB4.out hbel)
      clear hbel
      go_wp2_with fail
      refine (NRight_b HQ.out _ hl').mono ?_
      rintro e w6 ⟨rfl, hbel⟩
      have HB6 := hide (below_step HB5.out hbel)
      clear hbel
      go_wp2_with fail
      refine (awake3_any _).mono ?_
      rintro e w7 ⟨rfl, hbel⟩
      have HB7 := hide (below_step HB6.out hbel)
      clear hbel
      go_wp2_with fail
      go_ret
      exact LawOk.of HB7.out
end Go.Proofs.Ytbdakjepdkmcdaa
