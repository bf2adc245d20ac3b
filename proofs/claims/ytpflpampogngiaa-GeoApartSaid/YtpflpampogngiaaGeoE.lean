/- The awake of the laws of layer 6. -/
import Derived.Test.YtpflpampogngiaaGeoD
import Derived.Test.YtpflpampogngiaaMemZ
namespace Go.Proofs.Ytpflpampogngiaa
open Go.RowKit Plain

theorem g1_geoB : geoB 1 4 2 3 = true := by decide
theorem g1_geoE : geoE 1 4 2 3 = 0 := by decide
theorem g1_tot : totZ 1 4 2 3 = 18 := by decide
theorem g1_start : startZ 1 4 2 3 0 = 8 := by decide
theorem g1_log : logZ 1 4 2 3 = 15 := by decide
theorem g1_up14 : upperB 1 4 2 3 14 = true := by decide
theorem g1_up15 : upperB 1 4 2 3 15 = false := by decide
theorem g1_len : (putG 1 4 2 3).length = 64 := (putG_yes g1_geoB).2
theorem g1_byte (z : List UInt8) : gN (putG 1 4 2 3 ++ z) 5 = 1 ∧ gN (putG 1 4 2 3 ++ z) 6 = 4 ∧ gN (putG 1 4 2 3 ++ z) 7 = 2 ∧ gN (putG 1 4 2 3 ++ z) 8 = 3 := by
  have k : ∀ i, i < 64 → gN (putG 1 4 2 3 ++ z) i = gN (putG 1 4 2 3) i := by
    intro i hi
    unfold gN
    rw [List.getD, List.getD, List.getElem?_append_left (by rw [g1_len]; exact hi)]
  rw [k 5 (by omega), k 6 (by omega), k 7 (by omega), k 8 (by omega), (putG_yes g1_geoB).1]
  have e : ∀ i, i < 60 → gN (sealS (hdS 1 4 2 3)) i = gN (bodyS (hdS 1 4 2 3)) i := by
    intro i hi
    unfold gN sealS
    rw [List.getD, List.getD, List.getElem?_append_left (by rw [bodyS_length]; exact hi)]
  rw [e 5 (by omega), e 6 (by omega), e 7 (by omega), e 8 (by omega)]
  decide +kernel
theorem g1_get_yes : getV (putG 1 4 2 3 ++ zeros 1088) = .tuple #[.agg #[.int .i64 1, .int .i64 4, .int .i64 2, .int .i64 3], .int .i64 0] := by
  obtain ⟨h5, h6, h7, h8⟩ := g1_byte (zeros 1088)
  have hl : (putG 1 4 2 3 ++ zeros 1088).length = 1152 := by rw [List.length_append, g1_len, zeros_length]
  have hb : getB (putG 1 4 2 3 ++ zeros 1088) = true := by
    unfold getB
    rw [h5, h6, h7, h8, hl, g1_geoB, g1_tot, ← (putG_yes g1_geoB).1]
    have : (putG 1 4 2 3 ++ zeros 1088).take 64 = putG 1 4 2 3 := by
      have e := g1_len
      rw [← e]
      exact List.take_left
    rw [this]
    simp
  unfold getV
  rw [hb, h5, h6, h7, h8]
  rfl
theorem g1_get_no : getV (putG 1 4 2 3) = .tuple #[.agg #[.int .i64 0, .int .i64 0, .int .i64 0, .int .i64 0], .int .i64 2] := by
  obtain ⟨h5, h6, h7, h8⟩ := g1_byte []
  rw [List.append_nil] at h5 h6 h7 h8
  have hb : getB (putG 1 4 2 3) = false := by
    unfold getB
    rw [h5, h6, h7, h8, g1_len, g1_geoB, g1_tot]
    simp
  unfold getV
  rw [hb]
  rfl

set_option maxRecDepth 100000 in
set_option maxHeartbeats 3200000 in
theorem awake6_any (w : World) : Calls Try.prog 32 #[] w (LawOk w) := by
  go_enter Try.func32, Try.ntmps32
  go_wp2_with fail
  have HG : Hid (RowL (w.alloc (.cells #[Value.int .i64 1, Value.int .i64 4, Value.int .i64 2, Value.int .i64 3] 58)) w.heap.size 58 [Value.int .i64 1, .int .i64 4, .int .i64 2, .int .i64 3]) := hide (RowL.new w _ _)
  have hB : Below w.heap.size w (w.alloc (.cells #[Value.int .i64 1, Value.int .i64 4, Value.int .i64 2, Value.int .i64 3] 58)) := below_new (below_self w) _
  generalize hW : w.alloc (.cells #[Value.int .i64 1, Value.int .i64 4, Value.int .i64 2, Value.int .i64 3] 58) = w1 at HG hB ⊢
  have HB1 := hide hB
  have HL1 := hide HG.out.lt
  clear hW hB
  obtain ⟨⟨c0, c1, c2, c3⟩, f0, f1, f2, f3⟩ := RowL.four HG.out
  go_wp2_with fail
  refine (GPut_e g1_geoE _).mono ?_
  rintro e w2 ⟨A2, n2, k2, rfl, hown, hbel⟩
  obtain rfl : n2 = 64 := by have := hown.len; have := g1_len; omega
  have HO := hide hown
  have HB2 := hide (below_step HB1.out hbel)
  have HG2 := hide (HG.out.on hbel)
  have HS := hide hbel.size
  clear hown hbel c0 c1 c2 c3 f0 f1 f2 f3 HG
  go_wp2_with (at_builtin; refine wpList_append_zeros _ rfl (.tmp 15) (.const (.int .i64 1088)) 22 3 rfl w1.heap.size 5 Try.underlying22 Try.underlying3 info_u8 rfl HO.out (by omega) 1088 1088 rfl rfl (by omega) (by omega) HS.out ?_; intro A3 k3 w3 hown3 hbs3 hbel3; have HO3 := hide hown3; have HBS3 := hide hbs3; have HB3 := hide (HB2.out.trans (hbel3.mono HB1.out.size)); have HG3 : Hid (RowL w3 w.heap.size 58 [Value.int .i64 1, .int .i64 4, .int .i64 2, .int .i64 3]) := hide ((hbel3.block w.heap.size HL1.out).trans HG2.out); clear hown3 hbs3 hbel3)
  refine (GGet_any _ HO3.out.bs (by omega) HO3.out.cap).mono ?_
  rw [g1_get_yes]
  rintro e w4 ⟨rfl, hbel⟩
  have HB4 := hide (below_step HB3.out hbel)
  have HG4 := hide (HG3.out.on hbel)
  have HBS4 := hide ((HBS3.out.below hbel).more hbel.size)
  clear hbel HG2 HG3
  go_wp2_with fail
  have HX : Hid (RowL (w4.alloc (.cells #[Value.int .i64 1, Value.int .i64 4, Value.int .i64 2, Value.int .i64 3] 58)) w4.heap.size 58 [Value.int .i64 1, .int .i64 4, .int .i64 2, .int .i64 3]) := hide (RowL.new w4 _ _)
  have hB : Below w4.heap.size w4 (w4.alloc (.cells #[Value.int .i64 1, Value.int .i64 4, Value.int .i64 2, Value.int .i64 3] 58)) := below_new (below_self w4) _
  generalize hW : w4.alloc (.cells #[Value.int .i64 1, Value.int .i64 4, Value.int .i64 2, Value.int .i64 3] 58) = w5 at HX hB ⊢
  have HB5 := hide (below_step HB4.out hB)
  have HG5 := hide (HG4.out.on hB)
  have HBS5 := hide ((HBS4.out.below hB).more hB.size)
  clear hW hB HG4
  go_wp2_with fail
  refine (GGet_any _ HBS5.out (by omega) HO.out.cap).mono ?_
  rw [g1_get_no]
  rintro e w6 ⟨rfl, hbel⟩
  have HB6 := hide (below_step HB5.out hbel)
  have HG6 := hide (HG5.out.on hbel)
  have HX6 := hide (HX.out.on hbel)
  clear hbel HG5 HX
  obtain ⟨⟨c0, c1, c2, c3⟩, f0, f1, f2, f3⟩ := RowL.four HG6.out
  obtain ⟨⟨x0, x1, x2, x3⟩, y0, y1, y2, y3⟩ := RowL.four HX6.out
  have l1 := HG6.out.lt
  have l2 := HX6.out.lt
  go_wp2_with fail
  clear c0 c1 c2 c3 f0 f1 f2 f3 x0 x1 x2 x3 y0 y1 y2 y3 l1 l2
  have hB : Below w6.heap.size w6 (w6.alloc (.cells #[Value.int .i64 0, Value.int .i64 0, Value.int .i64 0, Value.int .i64 0] 58)) := below_new (below_self w6) _
  generalize hW : w6.alloc (.cells #[Value.int .i64 0, Value.int .i64 0, Value.int .i64 0, Value.int .i64 0] 58) = w7 at hB ⊢
  have HB7 := hide (below_step HB6.out hB)
  have HG7 := hide (HG6.out.on hB)
  clear hW hB HG6 HX6
  refine (GTotal_e g1_tot _).mono ?_
  rintro e w8 ⟨rfl, hbel⟩
  have HB8 := hide (below_step HB7.out hbel)
  have HG8 := hide (HG7.out.on hbel)
  clear hbel HG7
  obtain ⟨⟨c0, c1, c2, c3⟩, f0, f1, f2, f3⟩ := RowL.four HG8.out
  go_wp2_with fail
  refine (GBitmap_e g1_start _).mono ?_
  rintro e w9 ⟨rfl, hbel⟩
  have HB9 := hide (below_step HB8.out hbel)
  have HG9 := hide (HG8.out.on hbel)
  clear hbel c0 c1 c2 c3 f0 f1 f2 f3 HG8
  obtain ⟨⟨c0, c1, c2, c3⟩, f0, f1, f2, f3⟩ := RowL.four HG9.out
  go_wp2_with fail
  refine (GLog_e g1_log _).mono ?_
  rintro e w10 ⟨rfl, hbel⟩
  have HB10 := hide (below_step HB9.out hbel)
  have HG10 := hide (HG9.out.on hbel)
  clear hbel c0 c1 c2 c3 f0 f1 f2 f3 HG9
  obtain ⟨⟨c0, c1, c2, c3⟩, f0, f1, f2, f3⟩ := RowL.four HG10.out
  go_wp2_with fail
  refine (GUpper_b g1_up14 _).mono ?_
  rintro e w11 ⟨rfl, hbel⟩
  have HB11 := hide (below_step HB10.out hbel)
  have HG11 := hide (HG10.out.on hbel)
  clear hbel c0 c1 c2 c3 f0 f1 f2 f3 HG10
  obtain ⟨⟨c0, c1, c2, c3⟩, f0, f1, f2, f3⟩ := RowL.four HG11.out
  go_wp2_with fail
  refine (GUpper_b g1_up15 _).mono ?_
  rintro e w12 ⟨rfl, hbel⟩
  have HB12 := hide (below_step HB11.out hbel)
  have HG12 := hide (HG11.out.on hbel)
  clear hbel c0 c1 c2 c3 f0 f1 f2 f3 HG11
  obtain ⟨⟨c0, c1, c2, c3⟩, f0, f1, f2, f3⟩ := RowL.four HG12.out
  go_wp2_with fail
  go_ret
  exact LawOk.of HB12.out
end Go.Proofs.Ytpflpampogngiaa
