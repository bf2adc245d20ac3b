/- Contracts of bytes.HasPrefix and the program's geo.Get. -/
import Derived.Test.YtpflpampogngiaaGeoC
namespace Go.Proofs.Ytpflpampogngiaa
open Go.RowKit Plain

set_option maxHeartbeats 400000 in
theorem HasPre_b {A B : Option Addr} {n c m d : Nat} {l k : List UInt8} {W1 W2 : Nat} {r : Bool} (h : (decide (m ≤ n) && (l.take m == k)) = r) (w : World) (ha : Bs w W1 A n l) (hb : Bs w W2 B m k) (hnc : n ≤ c) :
    Calls Try.prog 67 #[.slice A n c, .slice B m d] w fun e w' => e = .returned (.bool r) ∧ w = w' := by
  subst h
  by_cases h1 : m ≤ n
  · have d1 : decide (m ≤ n) = true := by simpa using h1
    have hcut := ha.pre h1
    have HC := hide hcut
    have HB := hide hb
    have hmc : m ≤ c := by omega
    obtain ⟨r, hr⟩ : ∃ r, (l.take m == k) = r := ⟨_, rfl⟩
    rw [d1, Bool.true_and, hr]
    have HR := hide hr
    clear ha hb hcut hr
    go_enter Try.func67, Try.ntmps67
    go_wp2_with fail
    refine (Equal_any _ HC.out HB.out).mono ?_
    rw [HR.out]
    rintro e w' ⟨rfl, rfl⟩
    go_wp2_with fail
    go_ret
    exact ⟨rfl, rfl⟩
  · have d1 : decide (m ≤ n) = false := by simpa using h1
    rw [d1, Bool.false_and]
    clear ha hb
    go_enter Try.func67, Try.ntmps67
    go_wp2_with fail
    go_ret
    exact ⟨rfl, rfl⟩
theorem putG_no {a b c d : Int} (h : geoB a b c d = false) : putG a b c d = [] := by simp [putG, h]
theorem putG_yes {a b c d : Int} (h : geoB a b c d = true) : putG a b c d = sealS (hdS a b c d) ∧ (putG a b c d).length = 64 := by
  have e : putG a b c d = sealS (hdS a b c d) := by simp [putG, h]
  exact ⟨e, by rw [e, sealS_length]⟩
set_option maxRecDepth 100000 in
set_option maxHeartbeats 1600000 in
theorem GGet_any {A : Option Addr} {m cc : Nat} {l : List UInt8} (w : World) (ha : Bs w w.heap.size A m l) (hm : m ≤ 100000) (hmc : m ≤ cc) :
    Calls Try.prog 35 #[.slice A m cc] w (VRet w (getV l)) := by
  obtain ⟨a, ea⟩ : ∃ a, gN l 5 = a := ⟨_, rfl⟩
  obtain ⟨b, eb⟩ : ∃ a, gN l 6 = a := ⟨_, rfl⟩
  obtain ⟨c, ec⟩ : ∃ a, gN l 7 = a := ⟨_, rfl⟩
  obtain ⟨d, ed⟩ : ∃ a, gN l 8 = a := ⟨_, rfl⟩
  have hbe : getB l = (decide (64 ≤ m) && (geoB a b c d && ((l.take 64 == sealS (hdS a b c d)) && decide ((m : Int) = 64 * totZ a b c d)))) := by
    unfold getB
    rw [ea, eb, ec, ed, ha.len]
  have hve : getV l = if getB l = true then .tuple #[geoV a b c d, .int .i64 0] else .tuple #[geoV 0 0 0 0, .int .i64 2] := by unfold getV; rw [ea, eb, ec, ed]
  rw [hve, hbe]
  have HA := hide ha
  have HEA := hide ea
  have HEB := hide eb
  have HEC := hide ec
  have HED := hide ed
  clear ha ea eb ec ed hve hbe
  cases hg : geoB a b c d with
  | false =>
    have HE := hide (geoE_no hg)
    simp only [Bool.false_and, Bool.and_false, Bool.false_eq_true, if_false]
    clear hg
    have HA0 := hide (HA.out.alloc (Nat.le_refl _) (.cells #[Value.int .i64 0, Value.int .i64 0, Value.int .i64 0, Value.int .i64 0] 58))
    go_enter Try.func35, Try.ntmps35
    go_wp2_with fail
    refine (GTold_any _ (HA0.out.more (by simp)) hm hmc HEA.out HEB.out HEC.out HED.out).mono ?_
    rintro e w1 ⟨rfl, hbel⟩
    have HB1 := hide (below_step (below_new (below_self w) _) hbel)
    have HZ := hide ((RowL.new w 58 [Value.int .i64 0, .int .i64 0, .int .i64 0, .int .i64 0]).on hbel)
    clear hbel
    go_wp2_with fail
    have HG : Hid (RowL (w1.alloc (.cells #[Value.int .i64 a, Value.int .i64 b, Value.int .i64 c, Value.int .i64 d] 58)) w1.heap.size 58 [Value.int .i64 a, .int .i64 b, .int .i64 c, .int .i64 d]) := hide (RowL.new w1 _ _)
    have hB : Below w1.heap.size w1 (w1.alloc (.cells #[Value.int .i64 a, Value.int .i64 b, Value.int .i64 c, Value.int .i64 d] 58)) := below_new (below_self w1) _
    generalize hW : w1.alloc (.cells #[Value.int .i64 a, Value.int .i64 b, Value.int .i64 c, Value.int .i64 d] 58) = w2 at HG hB ⊢
    have HB2 := hide (below_step HB1.out hB)
    have HZ2 := hide (HZ.out.on hB)
    clear hW hB HZ
    obtain ⟨⟨c0, c1, c2, c3⟩, f0, f1, f2, f3⟩ := RowL.four HG.out
    go_wp2_with fail
    refine (GPut_e HE.out _).mono ?_
    rintro e w3 ⟨A3, n3, k3, rfl, hown, hbel⟩
    have HO := hide hown
    have HB3 := hide (below_step HB2.out hbel)
    have HG3 := hide (HG.out.on hbel)
    have HZ3 := hide (HZ2.out.on hbel)
    clear hown hbel c0 c1 c2 c3 f0 f1 f2 f3 HG HZ2
    obtain ⟨⟨z0, z1, z2, z3⟩, g0, g1, g2, g3⟩ := RowL.four HZ3.out
    go_wp2_with fail
    exact bodyPost_ret (v := .tuple #[geoV 0 0 0 0, .int .i64 2]) (by simp [results, Try.results35, go_sem, geoV, *]) rfl (VRet.of ((((HB3.out.setCell (Nat.le_refl _) _).setCell (Nat.le_refl _) _).setCell (Nat.le_refl _) _).setCell (Nat.le_refl _) _))
  | true =>
    obtain ⟨hp, hpl⟩ := putG_yes hg
    have HE := hide (geoE_yes hg)
    have htb := tot_bound hg
    obtain ⟨t, ht⟩ : ∃ t, totZ a b c d = t := ⟨_, rfl⟩
    rw [ht] at htb ⊢
    have HT := hide ht
    rw [← hp]
    simp only [Bool.true_and]
    obtain ⟨p, hpe⟩ : ∃ p, putG a b c d = p := ⟨_, rfl⟩
    rw [hpe] at hpl ⊢
    have HP := hide hpe
    have HPL := hide hpl
    rw [← Bool.and_assoc]
    obtain ⟨r, hr⟩ : ∃ r, (decide (64 ≤ m) && (l.take 64 == p)) = r := ⟨_, rfl⟩
    rw [hr]
    have HR := hide hr
    have hw1 : IntKind.i64.wrap (t * 64) = t * 64 := IntWalk.i64_in _ (by omega)
    clear hg hp hpl ht hpe hr htb
    cases r with
    | false =>
      simp only [Bool.false_and, Bool.false_eq_true, if_false]
      have HA0 := hide (HA.out.alloc (Nat.le_refl _) (.cells #[Value.int .i64 0, Value.int .i64 0, Value.int .i64 0, Value.int .i64 0] 58))
      go_enter Try.func35, Try.ntmps35
      go_wp2_with fail
      refine (GTold_any _ (HA0.out.more (by simp)) hm hmc HEA.out HEB.out HEC.out HED.out).mono ?_
      rintro e w1 ⟨rfl, hbel⟩
      have HB1 := hide (below_step (below_new (below_self w) _) hbel)
      have HZ := hide ((RowL.new w 58 [Value.int .i64 0, .int .i64 0, .int .i64 0, .int .i64 0]).on hbel)
      clear hbel
      go_wp2_with fail
      have HG : Hid (RowL (w1.alloc (.cells #[Value.int .i64 a, Value.int .i64 b, Value.int .i64 c, Value.int .i64 d] 58)) w1.heap.size 58 [Value.int .i64 a, .int .i64 b, .int .i64 c, .int .i64 d]) := hide (RowL.new w1 _ _)
      have hB : Below w1.heap.size w1 (w1.alloc (.cells #[Value.int .i64 a, Value.int .i64 b, Value.int .i64 c, Value.int .i64 d] 58)) := below_new (below_self w1) _
      generalize hW : w1.alloc (.cells #[Value.int .i64 a, Value.int .i64 b, Value.int .i64 c, Value.int .i64 d] 58) = w2 at HG hB ⊢
      have HB2 := hide (below_step HB1.out hB)
      have HZ2 := hide (HZ.out.on hB)
      clear hW hB HZ
      obtain ⟨⟨c0, c1, c2, c3⟩, f0, f1, f2, f3⟩ := RowL.four HG.out
      go_wp2_with fail
      refine (GPut_e HE.out _).mono ?_
      rintro e w3 ⟨A3, n3, k3, rfl, hown, hbel⟩
      rw [HP.out] at hown
      obtain rfl : n3 = 64 := by have := hown.len; have := HPL.out; omega
      have HO := hide hown
      have HB3 := hide (below_step HB2.out hbel)
      have HG3 := hide (HG.out.on hbel)
      have HZ3 := hide (HZ2.out.on hbel)
      clear hown hbel c0 c1 c2 c3 f0 f1 f2 f3 HG HZ2
      have HAx := hide (HA.out.below HB3.out)
      go_wp2_with fail
      refine (HasPre_b HR.out _ HAx.out HO.out.bs hmc).mono ?_
      rintro e w' ⟨rfl, rfl⟩
      obtain ⟨⟨z0, z1, z2, z3⟩, g0, g1, g2, g3⟩ := RowL.four HZ3.out
      go_wp2_with fail
      exact bodyPost_ret (v := .tuple #[geoV 0 0 0 0, .int .i64 2]) (by simp [results, Try.results35, go_sem, geoV, *]) rfl (VRet.of ((((HB3.out.setCell (Nat.le_refl _) _).setCell (Nat.le_refl _) _).setCell (Nat.le_refl _) _).setCell (Nat.le_refl _) _))
    | true =>
      simp only [Bool.true_and]
      cases hd : decide ((m : Int) = 64 * t) with
      | false =>
        have hd1 : ((m : Int) != t * 64) = true := by simp at hd ⊢; omega
        have hd2 : ((m : Int) == t * 64) = false := by simp at hd ⊢; omega
        simp only [Bool.false_eq_true, if_false]
        clear hd
        have HA0 := hide (HA.out.alloc (Nat.le_refl _) (.cells #[Value.int .i64 0, Value.int .i64 0, Value.int .i64 0, Value.int .i64 0] 58))
        go_enter Try.func35, Try.ntmps35
        go_wp2_with fail
        refine (GTold_any _ (HA0.out.more (by simp)) hm hmc HEA.out HEB.out HEC.out HED.out).mono ?_
        rintro e w1 ⟨rfl, hbel⟩
        have HB1 := hide (below_step (below_new (below_self w) _) hbel)
        have HZ := hide ((RowL.new w 58 [Value.int .i64 0, .int .i64 0, .int .i64 0, .int .i64 0]).on hbel)
        clear hbel
        go_wp2_with fail
        have HG : Hid (RowL (w1.alloc (.cells #[Value.int .i64 a, Value.int .i64 b, Value.int .i64 c, Value.int .i64 d] 58)) w1.heap.size 58 [Value.int .i64 a, .int .i64 b, .int .i64 c, .int .i64 d]) := hide (RowL.new w1 _ _)
        have hB : Below w1.heap.size w1 (w1.alloc (.cells #[Value.int .i64 a, Value.int .i64 b, Value.int .i64 c, Value.int .i64 d] 58)) := below_new (below_self w1) _
        generalize hW : w1.alloc (.cells #[Value.int .i64 a, Value.int .i64 b, Value.int .i64 c, Value.int .i64 d] 58) = w2 at HG hB ⊢
        have HB2 := hide (below_step HB1.out hB)
        have HZ2 := hide (HZ.out.on hB)
        clear hW hB HZ
        obtain ⟨⟨c0, c1, c2, c3⟩, f0, f1, f2, f3⟩ := RowL.four HG.out
        go_wp2_with fail
        refine (GPut_e HE.out _).mono ?_
        rintro e w3 ⟨A3, n3, k3, rfl, hown, hbel⟩
        rw [HP.out] at hown
        obtain rfl : n3 = 64 := by have := hown.len; have := HPL.out; omega
        have HO := hide hown
        have HB3 := hide (below_step HB2.out hbel)
        have HG3 := hide (HG.out.on hbel)
        have HZ3 := hide (HZ2.out.on hbel)
        clear hown hbel c0 c1 c2 c3 f0 f1 f2 f3 HG HZ2
        have HAx := hide (HA.out.below HB3.out)
        go_wp2_with fail
        refine (HasPre_b HR.out _ HAx.out HO.out.bs hmc).mono ?_
        rintro e w' ⟨rfl, rfl⟩
        obtain ⟨⟨c0, c1, c2, c3⟩, f0, f1, f2, f3⟩ := RowL.four HG3.out
        go_wp2_with fail
        refine (GTotal_e HT.out _).mono ?_
        rintro e w4 ⟨rfl, hbel⟩
        have HB4 := hide (below_step HB3.out hbel)
        have HG4 := hide (HG3.out.on hbel)
        have HZ4 := hide (HZ3.out.on hbel)
        clear hbel c0 c1 c2 c3 f0 f1 f2 f3 HG3 HZ3
        obtain ⟨⟨z0, z1, z2, z3⟩, g0, g1, g2, g3⟩ := RowL.four HZ4.out
        go_wp2_with fail
        exact bodyPost_ret (v := .tuple #[geoV 0 0 0 0, .int .i64 2]) (by simp [results, Try.results35, go_sem, geoV, *]) rfl (VRet.of ((((HB4.out.setCell (Nat.le_refl _) _).setCell (Nat.le_refl _) _).setCell (Nat.le_refl _) _).setCell (Nat.le_refl _) _))
      | true =>
        have hd1 : ((m : Int) != t * 64) = false := by simp at hd ⊢; omega
        have hd2 : ((m : Int) == t * 64) = true := by simp at hd ⊢; omega
        simp only [if_true]
        clear hd
        have HA0 := hide (HA.out.alloc (Nat.le_refl _) (.cells #[Value.int .i64 0, Value.int .i64 0, Value.int .i64 0, Value.int .i64 0] 58))
        go_enter Try.func35, Try.ntmps35
        go_wp2_with fail
        refine (GTold_any _ (HA0.out.more (by simp)) hm hmc HEA.out HEB.out HEC.out HED.out).mono ?_
        rintro e w1 ⟨rfl, hbel⟩
        have HB1 := hide (below_step (below_new (below_self w) _) hbel)
        have HZ := hide ((RowL.new w 58 [Value.int .i64 0, .int .i64 0, .int .i64 0, .int .i64 0]).on hbel)
        clear hbel
        go_wp2_with fail
        have HG : Hid (RowL (w1.alloc (.cells #[Value.int .i64 a, Value.int .i64 b, Value.int .i64 c, Value.int .i64 d] 58)) w1.heap.size 58 [Value.int .i64 a, .int .i64 b, .int .i64 c, .int .i64 d]) := hide (RowL.new w1 _ _)
        have hB : Below w1.heap.size w1 (w1.alloc (.cells #[Value.int .i64 a, Value.int .i64 b, Value.int .i64 c, Value.int .i64 d] 58)) := below_new (below_self w1) _
        generalize hW : w1.alloc (.cells #[Value.int .i64 a, Value.int .i64 b, Value.int .i64 c, Value.int .i64 d] 58) = w2 at HG hB ⊢
        have HB2 := hide (below_step HB1.out hB)
        have HZ2 := hide (HZ.out.on hB)
        clear hW hB HZ
        obtain ⟨⟨c0, c1, c2, c3⟩, f0, f1, f2, f3⟩ := RowL.four HG.out
        go_wp2_with fail
        refine (GPut_e HE.out _).mono ?_
        rintro e w3 ⟨A3, n3, k3, rfl, hown, hbel⟩
        rw [HP.out] at hown
        obtain rfl : n3 = 64 := by have := hown.len; have := HPL.out; omega
        have HO := hide hown
        have HB3 := hide (below_step HB2.out hbel)
        have HG3 := hide (HG.out.on hbel)
        have HZ3 := hide (HZ2.out.on hbel)
        clear hown hbel c0 c1 c2 c3 f0 f1 f2 f3 HG HZ2
        have HAx := hide (HA.out.below HB3.out)
        go_wp2_with fail
        refine (HasPre_b HR.out _ HAx.out HO.out.bs hmc).mono ?_
        rintro e w' ⟨rfl, rfl⟩
        obtain ⟨⟨c0, c1, c2, c3⟩, f0, f1, f2, f3⟩ := RowL.four HG3.out
        go_wp2_with fail
        refine (GTotal_e HT.out _).mono ?_
        rintro e w4 ⟨rfl, hbel⟩
        have HB4 := hide (below_step HB3.out hbel)
        have HG4 := hide (HG3.out.on hbel)
        have HZ4 := hide (HZ3.out.on hbel)
        clear hbel c0 c1 c2 c3 f0 f1 f2 f3 HG3 HZ3
        obtain ⟨⟨z0, z1, z2, z3⟩, g0, g1, g2, g3⟩ := RowL.four HZ4.out
        obtain ⟨⟨c0, c1, c2, c3⟩, f0, f1, f2, f3⟩ := RowL.four HG4.out
        go_wp2_with fail
        exact bodyPost_ret (v := .tuple #[geoV a b c d, .int .i64 0]) (by simp [results, Try.results35, go_sem, geoV, *]) rfl (VRet.of ((((HB4.out.setCell (Nat.le_refl _) _).setCell (Nat.le_refl _) _).setCell (Nat.le_refl _) _).setCell (Nat.le_refl _) _))
end Go.Proofs.Ytpflpampogngiaa
