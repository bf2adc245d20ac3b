/- The law ClaimTells: its walk (layer 11). -/
import Derived.Test.YtnllbdigpnopoaaClaM
namespace Go.Proofs.Ytnllbdigpnopoaa
open Go.RowKit Go.Shelf Plain

set_option maxRecDepth 100000 in
set_option maxHeartbeats 1600000 in
theorem law_ClaimTells {A : Option Addr} {n c : Nat} {l : List InoV} (m ino k b : Int) (w : World) (h : RdE inoEn w (Under w.heap.size) A n l) (hm : w64 m) (hb : w64 b) :
    Calls Try.prog 3 #[.slice A n c, .int .i64 m, .int .i64 ino, .int .i64 k, .int .i64 b] w (LawOk w) := by
  have H := hide h
  have HM := hide hm
  have HB := hide hb
  clear h hm hb
  by_cases hfew : n ≤ 30
  case neg =>
    have hf : decide (n ≤ 30) = false := by simpa using hfew
    clear H HM HB hfew
    go_enter Try.func3, Try.ntmps3
    go_wp2_with fail
    refine (few_any w hf).mono ?_
    rintro e w' ⟨rfl, rfl⟩
    go_wp2_with fail
    refine (awake11_any w).mono ?_
    rintro e w' ⟨rfl, hb1⟩
    go_wp2_with fail
    go_ret
    exact LawOk.of hb1
  have hf : decide (n ≤ 30) = true := by simpa using hfew
  have HN := hide hfew
  obtain ⟨r, hr⟩ : ∃ r, ownQ (flatP l) m b = r := ⟨_, rfl⟩
  have HR := hide hr
  obtain ⟨v, hv⟩ : ∃ v, validS l m ino k = v := ⟨_, rfl⟩
  have HV := hide hv
  obtain ⟨oi, hoi⟩ : ∃ oi, ownI r = oi := ⟨_, rfl⟩
  obtain ⟨ok, hok⟩ : ∃ ok, ownK r = ok := ⟨_, rfl⟩
  obtain ⟨os, hos⟩ : ∃ os, r.isSome = os := ⟨_, rfl⟩
  have HO : Hid (ownV r = .tuple #[.int .i64 oi, .int .i64 ok, .bool os]) := hide (by unfold ownV; rw [hoi, hok, hos])
  have e1 : (oi != oi) = false := by simp
  have e2 : (ok != ok) = false := by simp
  have e3 : (os != os) = false := by simp
  have e4 : (v != v) = false := by simp
  clear hr hv hoi hok hos hfew
  go_enter Try.func3, Try.ntmps3
  go_wp2_with fail
  refine (few_any w hf).mono ?_
  rintro e w' ⟨rfl, rfl⟩
  clear hf
  go_wp2_with fail
  refine (Owner_any w H.out (by have := HN.out; omega) HM.out HB.out).mono ?_
  rintro e w1 ⟨rfl, hb1⟩
  rw [HR.out, HO.out]
  have H1 := hide (H.out.on hb1)
  have K1 := hide hb1
  clear hb1
  go_wp2_with fail
  refine (ROwner_any w1 H1.out (by have := HN.out; omega) HM.out HB.out).mono ?_
  rintro e w2 ⟨rfl, hb2⟩
  rw [HR.out, HO.out]
  have H2 := hide (H1.out.on hb2)
  have K2 := hide (below_step K1.out hb2)
  clear hb2 K1 H1
  go_wp2_with fail
  refine (Valid_any w2 H2.out (by have := HN.out; omega) HM.out).mono ?_
  rintro e w3 ⟨rfl, hb3⟩
  rw [HV.out]
  have H3 := hide (H2.out.on hb3)
  have K3 := hide (below_step K2.out hb3)
  clear hb3 K2 H2
  go_wp2_with fail
  refine (RValid_any w3 H3.out (by have := HN.out; omega)).mono ?_
  rintro e w4 ⟨rfl, hb4⟩
  rw [HV.out]
  have H4 := hide (H3.out.on hb4)
  have K4 := hide (below_step K3.out hb4)
  clear hb4 K3 H3
  go_wp2_with fail
  refine (Bad_any w4 H4.out (by have := HN.out; omega)).mono ?_
  rintro e w5 ⟨A5, n5, c5, rfl, ho5, hb5⟩
  have P5 := hide (PRd.of_own ho5)
  have H5 := hide (H4.out.on hb5)
  have K5 := hide (below_step K4.out hb5)
  clear hb5 K4 H4 ho5
  go_wp2_with fail
  refine (RBad_any w5 H5.out (by have := HN.out; omega)).mono ?_
  rintro e w6 ⟨A6, n6, c6, rfl, ho6, hb6⟩
  have P6 := hide (P5.out.on hb6)
  have Q6 := hide (PRd.of_own ho6)
  have H6 := hide (H5.out.on hb6)
  have K6 := hide (below_step K5.out hb6)
  clear hb6 K5 H5 ho6 P5
  go_wp2_with fail
  refine (EqualP_same w6 P6.out Q6.out (by have := badQ_len (flatP l) m (5 * n); have := P6.out.1; have := HN.out; omega)).mono ?_
  rintro e w7 ⟨rfl, hb7⟩
  have H7 := hide (H6.out.on hb7)
  have K7 := hide (below_step K6.out hb7)
  clear hb7 K6 H6 P6 Q6
  have hw : ∀ w8, Below w.heap.size w w8 → Calls Try.prog 6 #[] w8 (fun e w' => e = .returned (.bool true) ∧ Below w.heap.size w w') := fun w8 hb8 => (awake11_any w8).mono (fun e w' ⟨he, hb⟩ => ⟨he, below_step hb8 hb⟩)
  have HW := hide hw
  clear hw
  by_cases hbig : 100 < m ∧ m ≤ 512
  · obtain ⟨g1, g2⟩ := hbig
    go_wp2_with fail
    refine (HW.out _ K7.out).mono ?_
    rintro e w8 ⟨rfl, hb8⟩
    go_wp2_with fail
    go_ret
    exact LawOk.of hb8
  · by_cases g1 : 100 < m
    · have g2 : ¬ m ≤ 512 := fun h => hbig ⟨g1, h⟩
      have g3 : decide (m ≤ 512) = false := by simpa using g2
      clear hbig
      go_wp2_with fail
      refine (Used_any w7 H7.out (by have := HN.out; omega)).mono ?_
      rintro e w8 ⟨A8, c8, rfl, ho8, hb8⟩
      have P8 := hide ho8
      have H8 := hide (H7.out.on hb8)
      have K8 := hide (below_step K7.out hb8)
      clear hb8 ho8 K7 H7
      go_wp2_with fail
      refine (RUsed_any w8 H8.out (by have := HN.out; omega)).mono ?_
      rintro e w9 ⟨A9, c9, rfl, ho9, hb9⟩
      have P9 := hide (P8.out.below hb9)
      have Q9 := hide ho9
      have K9 := hide (below_step K8.out hb9)
      clear hb9 ho9 K8 H8 P8
      go_wp2_with fail
      refine (EqualB_any w9 P9.out.rd Q9.out.rd (by have := lenB (flatP l) m; omega)).mono ?_
      rintro e w10 ⟨rfl, hb10⟩
      rw [show (usedS (flatP l) m == usedS (flatP l) m) = true from by simp]
      have K10 := hide (below_step K9.out hb10)
      clear hb10 K9 P9 Q9
      go_wp2_with fail
      refine (HW.out _ K10.out).mono ?_
      rintro e w11 ⟨rfl, hb11⟩
      go_wp2_with fail
      go_ret
      exact LawOk.of hb11
    · have g3 : decide (100 < m) = false := by simpa using g1
      clear hbig
      go_wp2_with fail
      refine (Used_any w7 H7.out (by have := HN.out; omega)).mono ?_
      rintro e w8 ⟨A8, c8, rfl, ho8, hb8⟩
      have P8 := hide ho8
      have H8 := hide (H7.out.on hb8)
      have K8 := hide (below_step K7.out hb8)
      clear hb8 ho8 K7 H7
      go_wp2_with fail
      refine (RUsed_any w8 H8.out (by have := HN.out; omega)).mono ?_
      rintro e w9 ⟨A9, c9, rfl, ho9, hb9⟩
      have P9 := hide (P8.out.below hb9)
      have Q9 := hide ho9
      have K9 := hide (below_step K8.out hb9)
      clear hb9 ho9 K8 H8 P8
      go_wp2_with fail
      refine (EqualB_any w9 P9.out.rd Q9.out.rd (by have := lenB (flatP l) m; omega)).mono ?_
      rintro e w10 ⟨rfl, hb10⟩
      rw [show (usedS (flatP l) m == usedS (flatP l) m) = true from by simp]
      have K10 := hide (below_step K9.out hb10)
      clear hb10 K9 P9 Q9
      go_wp2_with fail
      refine (HW.out _ K10.out).mono ?_
      rintro e w11 ⟨rfl, hb11⟩
      go_wp2_with fail
      go_ret
      exact LawOk.of hb11
end Go.Proofs.Ytnllbdigpnopoaa
