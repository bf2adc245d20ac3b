/- The walk of the law PathCleans: it is true for any text. -/
import Derived.Test.YtbdakjepdkmcdaaPathK
import Derived.Test.YtbdakjepdkmcdaaRefPathD
namespace Go.Proofs.Ytbdakjepdkmcdaa
open Go.RowKit Plain

theorem splitS_len (s : List UInt8) : (splitS s).length ≤ 1 + s.length ∧ totL (splitS s) ≤ (1 + s.length) * (s.length + 1) := by
  obtain ⟨q1, q2⟩ := split_iff s
  rw [q2]
  split
  · rename_i h
    rw [h] at q1
    have hc : cleanB s = true := by
      cases hc : cleanB s with
      | true => rfl
      | false => rw [hc] at q1; cases q1
    exact ⟨(names_clean hc).2.2.1, (names_clean hc).2.2.2⟩
  · exact ⟨by simp, by simp [totL]⟩
theorem redL_len (s : List UInt8) : (redL s).length ≤ 1 + s.length := by
  unfold redL
  split
  · simp
  · split
    · exact (splitS_len s).1
    · split
      · rename_i h
        simp
      · simp

set_option maxHeartbeats 800000 in
theorem law_PathCleans {s : List UInt8} (w : World) : Calls Try.prog 7 #[.string ⟨s.toArray⟩] w (LawOk w) := by
  by_cases hm : 300 < s.length
  · have hd : decide ((300 : Int) < (s.length : Int)) = true := by simp; omega
    go_enter Try.func7, Try.ntmps7
    go_wp2_with fail
    refine (awake4_any _).mono ?_
    rintro e w' ⟨rfl, hbel⟩
    have HB := hide hbel
    clear hbel
    go_wp2_with fail
    go_ret
    exact LawOk.of HB.out
  have hd : decide ((300 : Int) < (s.length : Int)) = false := by simp; omega
  have hs : s.length ≤ 100000 := by omega
  have hrl := redL_len s
  obtain ⟨u, hu⟩ : ∃ u, cleanS s = u := ⟨_, rfl⟩
  obtain ⟨b, hb⟩ : ∃ b, cleanB s = b := ⟨_, rfl⟩
  obtain ⟨l, hl⟩ : ∃ l, redL s = l := ⟨_, rfl⟩
  obtain ⟨x, hx⟩ : ∃ x, redA s = x := ⟨_, rfl⟩
  obtain ⟨y, hy⟩ : ∃ y, redB s = y := ⟨_, rfl⟩
  rw [hl] at hrl
  have HRL := hide hrl
  have HU := hide hu
  have HB0 := hide hb
  have HL := hide hl
  have HX := hide hx
  have HY := hide hy
  have huu : (u == u) = true := by simp
  have hbb : (b == b) = true := by simp
  have hxx : (x == x) = true := by simp
  have hyy : (y == y) = true := by simp
  clear hm hu hb hl hx hy hrl
  go_enter Try.func7, Try.ntmps7
  go_wp2_with fail
  refine (PClean_of HU.out HB0.out _ hs).mono ?_
  rintro e w1 ⟨rfl, hbel⟩
  have HB1 := hide hbel
  clear hbel
  unfold st
  go_wp2_with fail
  refine (RClean_any _ hs).mono ?_
  rw [HU.out, HB0.out]
  rintro e w2 ⟨rfl, hbel⟩
  have HB2 := hide (below_step HB1.out hbel)
  clear hbel
  unfold st
  go_wp2_with fail
  refine (PRed_of HL.out HX.out HY.out _ hs).mono ?_
  rintro e w3 ⟨A3, n3, c3, rfl, hown, hbel⟩
  have HO3 := hide hown
  have HB3 := hide (below_step HB2.out hbel)
  clear hown hbel
  go_wp2_with fail
  refine (RRed_any _).mono ?_
  rw [HL.out, HX.out, HY.out]
  rintro e w4 ⟨A4, n4, c4, rfl, hown, hbel⟩
  have HO4 := hide hown
  have HO34 := hide (HO3.out.below hbel)
  have HB4 := hide (below_step HB3.out hbel)
  clear hown hbel
  go_wp2_with fail
  refine (EqualS_b (b := true) (by simp) _ HO34.out.rd HO4.out.rd (by have := HO3.out.len; have := HRL.out; omega)).mono ?_
  rintro e w5 ⟨rfl, hbel⟩
  have HB5 := hide (below_step HB4.out hbel)
  clear hbel
  go_wp2_with fail
  refine (awake4_any _).mono ?_
  rintro e w6 ⟨rfl, hbel⟩
  have HB6 := hide (below_step HB5.out hbel)
  clear hbel
  go_wp2_with fail
  go_ret
  exact LawOk.of HB6.out
end Go.Proofs.Ytbdakjepdkmcdaa
