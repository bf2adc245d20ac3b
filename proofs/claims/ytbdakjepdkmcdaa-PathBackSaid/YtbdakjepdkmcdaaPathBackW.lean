/- The walk of the law PathBack: it is true for any text. -/
import Derived.Test.YtbdakjepdkmcdaaPathCleansW
namespace Go.Proofs.Ytbdakjepdkmcdaa
open Go.RowKit Plain

theorem joinS_len (l : List (List UInt8)) : (joinS l).length = if l = [] then 1 else totL l := by
  induction l using snoc_ind with
  | h0 => rfl
  | h1 l x ih =>
    rw [joinS_snoc, if_neg (c := l ++ [x] = []) (by simp), totL_snoc]
    by_cases hl : l = []
    · subst hl
      show (([47] : List UInt8) ++ x).length = 0 + (x.length + 1)
      rw [List.length_append, List.length_singleton]
      omega
    · rw [if_neg (by intro e; exact hl (List.eq_nil_of_length_eq_zero e)), List.length_append, List.length_append, ih, if_neg hl, List.length_singleton]
      omega
theorem cleanS_len {s : List UInt8} (h : cleanB s = true) : (cleanS s).length ≤ 1 + s.length := by
  have hn := (names_clean h).1
  unfold cleanB at h
  rw [Bool.and_eq_true, Option.isSome_iff_exists] at h
  obtain ⟨hh, o, ho⟩ := h
  have e1 : namesL s = o := by simp [namesL, hh, ho]
  have h1 := (leftS_len _ _ ho).2
  have h2 := joinS_len (partsS s)
  rw [join_parts hh] at h2
  have h3 := joinS_length o
  rw [e1] at hn
  rw [← hn]
  by_cases hp : partsS s = []
  · rw [hp] at h1
    have : totL ([] : List (List UInt8)) = 0 := rfl
    omega
  · rw [if_neg hp] at h2
    omega

set_option maxHeartbeats 1600000 in
theorem law_PathBack {s : List UInt8} (w : World) : Calls Try.prog 8 #[.string ⟨s.toArray⟩] w (LawOk w) := by
  by_cases hm : 300 < s.length
  · have hd : decide ((300 : Int) < (s.length : Int)) = true := by simp; omega
    go_enter Try.func8, Try.ntmps8
    go_wp2_with fail
    refine (awake4_any _).mono ?_
    rintro e w' ⟨rfl, hbel⟩
    have HB := hide hbel
    clear hbel
    go_wp2_with fail
    go_ret
    exact LawOk.of HB.out
  have hd : decide ((300 : Int) < (s.length : Int)) = false := by simp; omega
  have hs : s.length ≤ 1000 := by omega
  clear hm
  have hlen : (splitS s).length ≤ 1001 ∧ totL (splitS s) ≤ 1002001 := by
    obtain ⟨h1, h2⟩ := splitS_len s
    have : (1 + s.length) * (s.length + 1) ≤ 1001 * 1001 := Nat.mul_le_mul (by omega) (by omega)
    exact ⟨by omega, by omega⟩
  have HLEN := hide hlen
  have HB0 := hide (below_self w)
  clear hlen
  cases hsp : splitB s with
  | true =>
    obtain ⟨hj, hcb, hcs⟩ := split_back hsp
    obtain ⟨l, hl⟩ : ∃ l, splitS s = l := ⟨_, rfl⟩
    rw [hl] at hj HLEN
    have hss : (s == s) = true := by simp
    have hsn : (s != s) = false := by simp
    have HSP := hide hsp
    have HCB := hide hcb
    have HCS := hide hcs
    have HL := hide hl
    have HJ := hide hj
    clear hsp hcb hcs hl hj
    go_enter Try.func8, Try.ntmps8
    go_wp2_with fail
    refine (PSplit_of HL.out HSP.out _ (by omega)).mono ?_
    rintro e w1 ⟨A1, n1, c1, rfl, hown, hbel⟩
    have hn1 := hown.len
    have hc1 := hown.cap
    have HN1 := hide hn1
    have HO1 := hide hown
    have HB1 := hide (below_step HB0.out hbel)
    clear hown hbel hn1
    go_wp2_with fail
    refine (PClean_of HCS.out HCB.out _ (by omega)).mono ?_
    rintro e w2 ⟨rfl, hbel⟩
    have HB2 := hide (below_step HB1.out hbel)
    have HO12 := hide (HO1.out.below hbel)
    clear hbel
    unfold st
    go_wp2_with fail
    refine (PJoin_any _ HO12.out.rd (by have := HN1.out; have := HLEN.out.1; omega) hc1 (by have := HLEN.out.2; omega)).mono ?_
    rw [HJ.out]
    unfold st
    rintro e w3 ⟨rfl, hbel⟩
    have HB3 := hide (below_step HB2.out hbel)
    clear hbel
    go_wp2_with fail
    refine (PClean_of HCS.out HCB.out _ (by omega)).mono ?_
    rintro e w4 ⟨rfl, hbel⟩
    have HB4 := hide (below_step HB3.out hbel)
    clear hbel
    unfold st
    go_wp2_with fail
    refine (PSplit_of HL.out HSP.out _ (by omega)).mono ?_
    rintro e w5 ⟨A5, n5, c5, rfl, hown, hbel⟩
    have hn5 := hown.len
    have hc5 := hown.cap
    have HN5 := hide hn5
    have HO5 := hide hown
    have HB5 := hide (below_step HB4.out hbel)
    clear hown hbel hn5
    go_wp2_with fail
    refine (PClean_of HCS.out HCB.out _ (by omega)).mono ?_
    rintro e w6 ⟨rfl, hbel⟩
    have HB6 := hide (below_step HB5.out hbel)
    have HO56 := hide (HO5.out.below hbel)
    clear hbel
    unfold st
    go_wp2_with fail
    refine (PJoin_any _ HO56.out.rd (by have := HN5.out; have := HLEN.out.1; omega) hc5 (by have := HLEN.out.2; omega)).mono ?_
    rw [HJ.out]
    unfold st
    rintro e w7 ⟨rfl, hbel⟩
    have HB7 := hide (below_step HB6.out hbel)
    clear hbel
    go_wp2_with fail
    refine (awake4_any _).mono ?_
    rintro e w8 ⟨rfl, hbel⟩
    have HB8 := hide (below_step HB7.out hbel)
    clear hbel
    go_wp2_with fail
    go_ret
    exact LawOk.of HB8.out
  | false =>
    cases hcb : cleanB s with
    | false =>
      have hcs := clean_none hcb
      have HSP := hide hsp
      have HCB := hide hcb
      have HCS := hide hcs
      clear hsp hcb hcs
      go_enter Try.func8, Try.ntmps8
      go_wp2_with fail
      refine (PSplit_of rfl HSP.out _ (by omega)).mono ?_
      rintro e w1 ⟨A1, n1, c1, rfl, hown, hbel⟩
      have hn1 := hown.len
      have hc1 := hown.cap
      have HN1 := hide hn1
      have HO1 := hide hown
      have HB1 := hide (below_step HB0.out hbel)
      clear hown hbel hn1
      go_wp2_with fail
      refine (PClean_of HCS.out HCB.out _ (by omega)).mono ?_
      rintro e w2 ⟨rfl, hbel⟩
      have HB2 := hide (below_step HB1.out hbel)
      clear hbel
      unfold st
      go_wp2_with fail
      refine (awake4_any _).mono ?_
      rintro e w3 ⟨rfl, hbel⟩
      have HB3 := hide (below_step HB2.out hbel)
      clear hbel
      go_wp2_with fail
      go_ret
      exact LawOk.of HB3.out
    | true =>
      obtain ⟨b1, b2, b3, b4⟩ := clean_back hcb
      have hjl : (cleanS s).length ≤ 1001 := by have := cleanS_len hcb; omega
      obtain ⟨u, hu⟩ : ∃ u, cleanS s = u := ⟨_, rfl⟩
      rw [hu] at b1 b2 b3 b4 hjl
      obtain ⟨l, hl⟩ : ∃ l, splitS u = l := ⟨_, rfl⟩
      have hlen2 : (splitS u).length ≤ 1002 ∧ totL (splitS u) ≤ 1004004 := by
        obtain ⟨h1, h2⟩ := splitS_len u
        have : (1 + u.length) * (u.length + 1) ≤ 1002 * 1002 := Nat.mul_le_mul (by omega) (by omega)
        exact ⟨by omega, by omega⟩
      rw [hl] at b2 hlen2
      have huu : (u == u) = true := by simp
      have hun : (u != u) = false := by simp
      have HSP := hide hsp
      have HCB := hide hcb
      have HCS := hide hu
      have H1 := hide b1
      have H2 := hide b2
      have H3 := hide b3
      have H4 := hide b4
      have HL := hide hl
      have HJL := hide hjl
      have HLEN2 := hide hlen2
      clear hsp hcb hu b1 b2 b3 b4 hl hlen2 hjl
      go_enter Try.func8, Try.ntmps8
      go_wp2_with fail
      refine (PSplit_of rfl HSP.out _ (by omega)).mono ?_
      rintro e w1 ⟨A1, n1, c1, rfl, hown, hbel⟩
      have hn1 := hown.len
      have hc1 := hown.cap
      have HN1 := hide hn1
      have HO1 := hide hown
      have HB1 := hide (below_step HB0.out hbel)
      clear hown hbel hn1
      go_wp2_with fail
      refine (PClean_of HCS.out HCB.out _ (by omega)).mono ?_
      rintro e w2 ⟨rfl, hbel⟩
      have HB2 := hide (below_step HB1.out hbel)
      clear hbel
      unfold st
      go_wp2_with fail
      refine (PSplit_of HL.out H1.out _ (by have := HJL.out; omega)).mono ?_
      rintro e w3 ⟨A3, n3, c3, rfl, hown, hbel⟩
      have hn3 := hown.len
      have hc3 := hown.cap
      have HN3 := hide hn3
      have HO3 := hide hown
      have HB3 := hide (below_step HB2.out hbel)
      clear hown hbel hn3
      go_wp2_with fail
      refine (PClean_of H4.out H3.out _ (by have := HJL.out; omega)).mono ?_
      rintro e w4 ⟨rfl, hbel⟩
      have HB4 := hide (below_step HB3.out hbel)
      have HO34 := hide (HO3.out.below hbel)
      clear hbel
      unfold st
      go_wp2_with fail
      refine (PJoin_any _ HO34.out.rd (by have := HN3.out; have := HLEN2.out.1; omega) hc3 (by have := HLEN2.out.2; omega)).mono ?_
      rw [H2.out]
      unfold st
      rintro e w5 ⟨rfl, hbel⟩
      have HB5 := hide (below_step HB4.out hbel)
      clear hbel
      go_wp2_with fail
      refine (awake4_any _).mono ?_
      rintro e w6 ⟨rfl, hbel⟩
      have HB6 := hide (below_step HB5.out hbel)
      clear hbel
      go_wp2_with fail
      go_ret
      exact LawOk.of HB6.out
end Go.Proofs.Ytbdakjepdkmcdaa
