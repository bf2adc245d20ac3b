/- The walk of the law GeoBytes. -/
import Derived.Test.YtpflpampogngiaaGeoE
namespace Go.Proofs.Ytpflpampogngiaa
open Go.RowKit Plain

theorem getV_form (l : List UInt8) : ∃ p q r s h, getV l = .tuple #[.agg #[.int .i64 p, .int .i64 q, .int .i64 r, .int .i64 s], .int .i64 h] := by
  unfold getV
  split
  · exact ⟨_, _, _, _, _, rfl⟩
  · exact ⟨_, _, _, _, _, rfl⟩
theorem GGet_e {A : Option Addr} {m cc : Nat} {l : List UInt8} {v : Value} (h : getV l = v) (w : World) (ha : Bs w w.heap.size A m l) (hm : m ≤ 100000) (hmc : m ≤ cc) :
    Calls Try.prog 35 #[.slice A m cc] w (VRet w v) := by rw [← h]; exact GGet_any w ha hm hmc
theorem RGGet_e {A : Option Addr} {m cc : Nat} {l : List UInt8} {v : Value} (h : getV l = v) (w : World) (ha : Bs w w.heap.size A m l) (hm : m ≤ 100000) (hmc : m ≤ cc) :
    Calls Try.prog 36 #[.slice A m cc] w (VRet w v) := by rw [← h]; exact RGGet_any w ha hmc hm
def Four (w : World) (g : Nat) (a b c d : Value) : Prop := w.cell? ⟨g, 0, none⟩ = some a ∧ w.cell? ⟨g, 1, none⟩ = some b ∧ w.cell? ⟨g, 2, none⟩ = some c ∧ w.cell? ⟨g, 3, none⟩ = some d
theorem Four.on {w w' : World} {g : Nat} {a b c d : Value} (h : Four w g a b c d) (hb : Below w.heap.size w w') (hg : g < w.heap.size) : Four w' g a b c d :=
  ⟨(hb.cell (p := ⟨g, 0, none⟩) hg).trans h.1, (hb.cell (p := ⟨g, 1, none⟩) hg).trans h.2.1, (hb.cell (p := ⟨g, 2, none⟩) hg).trans h.2.2.1, (hb.cell (p := ⟨g, 3, none⟩) hg).trans h.2.2.2⟩
theorem held12 {w1 W W' : World} {g1 g2 g3 : Nat} {a b c d e f g h i j k l : Value} (hbel : Below W.heap.size W W') (h1 : g1 < w1.heap.size) (h2 : g2 < w1.heap.size) (h3 : g3 < w1.heap.size)
    (hh : Below w1.heap.size w1 W ∧ (W.cell? ⟨g1, 0, none⟩ = some a ∧ W.cell? ⟨g1, 1, none⟩ = some b ∧ W.cell? ⟨g1, 2, none⟩ = some c ∧ W.cell? ⟨g1, 3, none⟩ = some d) ∧ (W.cell? ⟨g2, 0, none⟩ = some e ∧ W.cell? ⟨g2, 1, none⟩ = some f ∧ W.cell? ⟨g2, 2, none⟩ = some g ∧ W.cell? ⟨g2, 3, none⟩ = some h) ∧ (W.cell? ⟨g3, 0, none⟩ = some i ∧ W.cell? ⟨g3, 1, none⟩ = some j ∧ W.cell? ⟨g3, 2, none⟩ = some k ∧ W.cell? ⟨g3, 3, none⟩ = some l)) :
    Below w1.heap.size w1 W' ∧ (W'.cell? ⟨g1, 0, none⟩ = some a ∧ W'.cell? ⟨g1, 1, none⟩ = some b ∧ W'.cell? ⟨g1, 2, none⟩ = some c ∧ W'.cell? ⟨g1, 3, none⟩ = some d) ∧ (W'.cell? ⟨g2, 0, none⟩ = some e ∧ W'.cell? ⟨g2, 1, none⟩ = some f ∧ W'.cell? ⟨g2, 2, none⟩ = some g ∧ W'.cell? ⟨g2, 3, none⟩ = some h) ∧ (W'.cell? ⟨g3, 0, none⟩ = some i ∧ W'.cell? ⟨g3, 1, none⟩ = some j ∧ W'.cell? ⟨g3, 2, none⟩ = some k ∧ W'.cell? ⟨g3, 3, none⟩ = some l) := by
  have hs := hh.1.size
  exact ⟨below_step hh.1 hbel, Four.on hh.2.1 hbel (by omega), Four.on hh.2.2.1 hbel (by omega), Four.on hh.2.2.2 hbel (by omega)⟩
theorem RGPut_e {a b c d e : Int} (h : geoE a b c d = e) (w : World) : Calls Try.prog 34 #[.agg #[.int .i64 a, .int .i64 b, .int .i64 c, .int .i64 d]] w (BERet w 5 (putG a b c d) e) := by
  rw [← h]; exact RGPut_any a b c d w
theorem GEqual_y {A B : Option Addr} {n m c d : Nat} {l : List UInt8} {W1 W2 : Nat} (w : World) (ha : Bs w W1 A n l) (hb : Bs w W2 B m l) :
    Calls Try.prog 15 #[.slice A n c, .slice B m d] w (VRet w (.bool true)) :=
  (Equal_any w ha hb).mono fun _ _ ⟨h1, h2⟩ => ⟨by rw [h1]; simp, h2 ▸ below_self w⟩
set_option maxHeartbeats 800000 in
theorem law_GeoBytes_long {A : Option Addr} {m cc : Nat} {a b c d : Int} (w : World) (hm : 40000 < m) :
    Calls Try.prog 6 #[.agg #[.int .i64 a, .int .i64 b, .int .i64 c, .int .i64 d], .slice A m cc] w (LawOk w) := by
  have hd : decide ((40000 : Int) < (m : Int)) = true := by simp; omega
  clear hm
  go_enter Try.func6, Try.ntmps6
  go_wp2_with fail
  refine (awake6_any _).mono ?_
  rintro e w1 ⟨rfl, hbel⟩
  have HB := hide (below_step (below_new (below_self w) _) hbel)
  clear hbel
  go_wp2_with fail
  go_ret
  exact LawOk.of HB.out
set_option maxRecDepth 100000 in
set_option maxHeartbeats 6400000 in
theorem law_GeoBytes_short {A : Option Addr} {m cc : Nat} {l : List UInt8} {a b c d : Int} (w : World) (ha : Bs w w.heap.size A m l) (hmc : m ≤ cc) (hm : m ≤ 40000) :
    Calls Try.prog 6 #[.agg #[.int .i64 a, .int .i64 b, .int .i64 c, .int .i64 d], .slice A m cc] w (LawOk w) := by
  have hd : decide ((40000 : Int) < (m : Int)) = false := by simp; omega
  obtain ⟨p, q, r, s, hh, hv⟩ := getV_form l
  obtain ⟨ge, hge⟩ : ∃ e, geoE a b c d = e := ⟨_, rfl⟩
  obtain ⟨tt, htt⟩ : ∃ e, totZ a b c d = e := ⟨_, rfl⟩
  have HA := hide ha
  have HV := hide hv
  have HE := hide hge
  have HT := hide htt
  clear ha hv hge htt
  go_enter Try.func6, Try.ntmps6
  go_wp2_with fail
  have HX : Hid (RowL (w.alloc (.cells #[Value.int .i64 a, Value.int .i64 b, Value.int .i64 c, Value.int .i64 d] 58)) w.heap.size 58 [Value.int .i64 a, Value.int .i64 b, Value.int .i64 c, Value.int .i64 d]) := hide (RowL.new w _ _)
  have hB : Below w.heap.size w (w.alloc (.cells #[Value.int .i64 a, Value.int .i64 b, Value.int .i64 c, Value.int .i64 d] 58)) := below_new (below_self w) _
  generalize hW : (w.alloc (.cells #[Value.int .i64 a, Value.int .i64 b, Value.int .i64 c, Value.int .i64 d] 58)) = w1 at HX hB ⊢
  have HB1 := hide hB
  have HG1 := hide HX.out
  have HA1 := hide ((HA.out.below hB).more hB.size)
  clear hW hB HX
  obtain ⟨⟨c0, c1, c2, c3⟩, f0, f1, f2, f3⟩ := RowL.four HG1.out
  go_wp2_with fail
  refine (GPut_e HE.out _).mono ?_
  rintro e w2 ⟨A2, n2, k2, rfl, hown, hbel⟩
  have HO2 := hide hown.bs
  have HB2 := hide (below_step HB1.out hbel)
  have HG2 := hide (HG1.out.on hbel)
  have HA2 := hide ((HA1.out.below hbel).more hbel.size)
  clear hown hbel c0 c1 c2 c3 f0 f1 f2 f3 HG1 HA1
  obtain ⟨⟨c0, c1, c2, c3⟩, f0, f1, f2, f3⟩ := RowL.four HG2.out
  go_wp2_with fail
  refine (RGPut_e HE.out _).mono ?_
  rintro e w3 ⟨A3, n3, k3, rfl, hown, hbel⟩
  have HO3 := hide hown.bs
  have HO23 := hide ((HO2.out.below hbel).more hbel.size)
  have HB3 := hide (below_step HB2.out hbel)
  have HG3 := hide (HG2.out.on hbel)
  have HA3 := hide ((HA2.out.below hbel).more hbel.size)
  clear hown hbel c0 c1 c2 c3 f0 f1 f2 f3 HG2 HA2 HO2
  go_wp2_with fail
  refine (GGet_e HV.out _ HA3.out (by omega) hmc).mono ?_
  rintro e w4 ⟨rfl, hbel⟩
  have HO34 := hide ((HO3.out.below hbel).more hbel.size)
  have HO24 := hide ((HO23.out.below hbel).more hbel.size)
  have HB4 := hide (below_step HB3.out hbel)
  have HG4 := hide (HG3.out.on hbel)
  have HA4 := hide ((HA3.out.below hbel).more hbel.size)
  clear hbel HG3 HA3 HO3 HO23
  go_wp2_with fail
  have HX : Hid (RowL (w4.alloc (.cells #[Value.int .i64 p, Value.int .i64 q, Value.int .i64 r, Value.int .i64 s] 58)) w4.heap.size 58 [Value.int .i64 p, Value.int .i64 q, Value.int .i64 r, Value.int .i64 s]) := hide (RowL.new w4 _ _)
  have hB : Below w4.heap.size w4 (w4.alloc (.cells #[Value.int .i64 p, Value.int .i64 q, Value.int .i64 r, Value.int .i64 s] 58)) := below_new (below_self w4) _
  generalize hW : (w4.alloc (.cells #[Value.int .i64 p, Value.int .i64 q, Value.int .i64 r, Value.int .i64 s] 58)) = w5 at HX hB ⊢
  have HB5 := hide (below_step HB4.out hB)
  have HG5 := hide (HG4.out.on hB)
  have HA5 := hide ((HA4.out.below hB).more hB.size)
  have HO35 := hide ((HO34.out.below hB).more hB.size)
  have HO25 := hide ((HO24.out.below hB).more hB.size)
  have HX5 := hide HX.out
  clear hW hB HX HG4 HA4 HO34 HO24
  go_wp2_with fail
  refine (RGGet_e HV.out _ HA5.out (by omega) hmc).mono ?_
  rintro e w6 ⟨rfl, hbel⟩
  have HO36 := hide ((HO35.out.below hbel).more hbel.size)
  have HO26 := hide ((HO25.out.below hbel).more hbel.size)
  have HB6 := hide (below_step HB5.out hbel)
  have HG6 := hide (HG5.out.on hbel)
  have HX6 := hide (HX5.out.on hbel)
  clear hbel HG5 HA5 HX5 HO35 HO25
  go_wp2_with fail
  have HX : Hid (RowL (w6.alloc (.cells #[Value.int .i64 p, Value.int .i64 q, Value.int .i64 r, Value.int .i64 s] 58)) w6.heap.size 58 [Value.int .i64 p, Value.int .i64 q, Value.int .i64 r, Value.int .i64 s]) := hide (RowL.new w6 _ _)
  have hB : Below w6.heap.size w6 (w6.alloc (.cells #[Value.int .i64 p, Value.int .i64 q, Value.int .i64 r, Value.int .i64 s] 58)) := below_new (below_self w6) _
  generalize hW : (w6.alloc (.cells #[Value.int .i64 p, Value.int .i64 q, Value.int .i64 r, Value.int .i64 s] 58)) = w7 at HX hB ⊢
  have HB7 := hide (below_step HB6.out hB)
  have HG7 := hide (HG6.out.on hB)
  have HX7 := hide (HX6.out.on hB)
  have HY7 := hide HX.out
  have HS2 := hide ((HO26.out.below hB).more hB.size)
  have HS3 := hide ((HO36.out.below hB).more hB.size)
  have L1 := hide HG7.out.lt
  have L2 := hide HX7.out.lt
  have L3 := hide HY7.out.lt
  clear hW hB HX HG6 HX6 HO26 HO36
  refine wp_region_plan (fun w' => Below w7.heap.size w7 w' ∧ (w'.cell? ⟨w.heap.size, 0, none⟩ = some (.int .i64 a) ∧ w'.cell? ⟨w.heap.size, 1, none⟩ = some (.int .i64 b) ∧ w'.cell? ⟨w.heap.size, 2, none⟩ = some (.int .i64 c) ∧ w'.cell? ⟨w.heap.size, 3, none⟩ = some (.int .i64 d)) ∧ (w'.cell? ⟨w4.heap.size, 0, none⟩ = some (.int .i64 p) ∧ w'.cell? ⟨w4.heap.size, 1, none⟩ = some (.int .i64 q) ∧ w'.cell? ⟨w4.heap.size, 2, none⟩ = some (.int .i64 r) ∧ w'.cell? ⟨w4.heap.size, 3, none⟩ = some (.int .i64 s)) ∧ (w'.cell? ⟨w6.heap.size, 0, none⟩ = some (.int .i64 p) ∧ w'.cell? ⟨w6.heap.size, 1, none⟩ = some (.int .i64 q) ∧ w'.cell? ⟨w6.heap.size, 2, none⟩ = some (.int .i64 r) ∧ w'.cell? ⟨w6.heap.size, 3, none⟩ = some (.int .i64 s))) [(0, true), (2, true), (1, false), (3, false), (4, true), (5, true), (6, true), (8, true), (7, false), (9, false), (10, true), (11, true), (12, true), (13, true), (14, true), (15, false), (16, true), (17, true), (18, true), (19, true), (20, true), (21, true), (22, true), (23, true), (24, true), (25, true), (26, true), (27, true), (28, true), (29, true), (30, true), (31, true), (32, true), (33, false), (34, true), (35, true)] (by kernel_rfl) (by kernel_rfl) (by kernel_rfl) (by kernel_rfl) rfl (fun _ _ _ _ _ h => h) ⟨below_drewN (below_self w7) 1, HG7.out.four.1, HX7.out.four.1, HY7.out.four.1⟩ (fun hHeld => ?_)
  simp only [planOps, List.filterMap_cons, List.filterMap_nil, List.getElem?_toArray, List.getElem?_cons_succ, List.getElem?_cons_zero, Option.map_some]
  refine wpPlan_take (v := ?_) (by kernel_rfl) (fun wS hSw => ?_) ?_
  rotate_left
  · (try dsimp only at hSw); go_simp; (try with_reducible rfl)
  (try simp only [Act.put, List.setIfInBounds_toArray, List.set_cons_zero, List.set_cons_succ])
  refine wpPlan_take (v := ?_) (by kernel_rfl) (fun wS hSw => ?_) ?_
  rotate_left
  · (try dsimp only at hSw); go_simp; (try with_reducible rfl)
  (try simp only [Act.put, List.setIfInBounds_toArray, List.set_cons_zero, List.set_cons_succ])
  refine wpPlan_call (by kernel_rfl) (fun K hK => ?_)
  have hOld := hide hHeld
  clear hHeld
  go_simp
  go_at_call 37
  refine (GCheck_e HE.out _).mono ?_
  rintro e w' ⟨rfl, hbel⟩
  refine hK.out _ _ (held12 hbel L1.out L2.out L3.out hOld.out) (fun hHeld => ?_)
  clear hK K
  (try simp only [Act.put, List.setIfInBounds_toArray, List.set_cons_zero, List.set_cons_succ])
  refine wpPlan_call (by kernel_rfl) (fun K hK => ?_)
  have hOld := hide hHeld
  clear hHeld
  go_simp
  go_at_call 38
  refine (RGCheck_e HE.out _).mono ?_
  rintro e w' ⟨rfl, hbel⟩
  refine hK.out _ _ (held12 hbel L1.out L2.out L3.out hOld.out) (fun hHeld => ?_)
  clear hK K
  (try simp only [Act.put, List.setIfInBounds_toArray, List.set_cons_zero, List.set_cons_succ])
  refine wpPlan_take (v := ?_) (by kernel_rfl) (fun wS hSw => ?_) ?_
  rotate_left
  · (try dsimp only at hSw); go_simp; (try with_reducible rfl)
  (try simp only [Act.put, List.setIfInBounds_toArray, List.set_cons_zero, List.set_cons_succ])
  refine wpPlan_take (v := ?_) (by kernel_rfl) (fun wS hSw => ?_) ?_
  rotate_left
  · (try dsimp only at hSw); go_simp; (try with_reducible rfl)
  (try simp only [Act.put, List.setIfInBounds_toArray, List.set_cons_zero, List.set_cons_succ])
  refine wpPlan_take (v := ?_) (by kernel_rfl) (fun wS hSw => ?_) ?_
  rotate_left
  · (try dsimp only at hSw); go_simp; (try with_reducible rfl)
  (try simp only [Act.put, List.setIfInBounds_toArray, List.set_cons_zero, List.set_cons_succ])
  refine wpPlan_take (v := ?_) (by kernel_rfl) (fun wS hSw => ?_) ?_
  rotate_left
  · (try dsimp only at hSw); go_simp; (try with_reducible rfl)
  (try simp only [Act.put, List.setIfInBounds_toArray, List.set_cons_zero, List.set_cons_succ])
  refine wpPlan_call (by kernel_rfl) (fun K hK => ?_)
  have hOld := hide hHeld
  clear hHeld
  go_simp
  go_at_call 39
  refine (GTotal_e HT.out _).mono ?_
  rintro e w' ⟨rfl, hbel⟩
  refine hK.out _ _ (held12 hbel L1.out L2.out L3.out hOld.out) (fun hHeld => ?_)
  clear hK K
  (try simp only [Act.put, List.setIfInBounds_toArray, List.set_cons_zero, List.set_cons_succ])
  refine wpPlan_call (by kernel_rfl) (fun K hK => ?_)
  have hOld := hide hHeld
  clear hHeld
  go_simp
  go_at_call 40
  refine (RGTotal_e HT.out _).mono ?_
  rintro e w' ⟨rfl, hbel⟩
  refine hK.out _ _ (held12 hbel L1.out L2.out L3.out hOld.out) (fun hHeld => ?_)
  clear hK K
  (try simp only [Act.put, List.setIfInBounds_toArray, List.set_cons_zero, List.set_cons_succ])
  refine wpPlan_take (v := ?_) (by kernel_rfl) (fun wS hSw => ?_) ?_
  rotate_left
  · (try dsimp only at hSw); go_simp; (try with_reducible rfl)
  (try simp only [Act.put, List.setIfInBounds_toArray, List.set_cons_zero, List.set_cons_succ])
  refine wpPlan_take (v := ?_) (by kernel_rfl) (fun wS hSw => ?_) ?_
  rotate_left
  · (try dsimp only at hSw); go_simp; (try with_reducible rfl)
  (try simp only [Act.put, List.setIfInBounds_toArray, List.set_cons_zero, List.set_cons_succ])
  refine wpPlan_take (v := ?_) (by kernel_rfl) (fun wS hSw => ?_) ?_
  rotate_left
  · (try dsimp only at hSw); go_simp; (try with_reducible rfl)
  (try simp only [Act.put, List.setIfInBounds_toArray, List.set_cons_zero, List.set_cons_succ])
  refine wpPlan_take (v := ?_) (by kernel_rfl) (fun wS hSw => ?_) ?_
  rotate_left
  · (try dsimp only at hSw); go_simp; (try with_reducible rfl)
  (try simp only [Act.put, List.setIfInBounds_toArray, List.set_cons_zero, List.set_cons_succ])
  refine wpPlan_take (v := ?_) (by kernel_rfl) (fun wS hSw => ?_) ?_
  rotate_left
  · (try dsimp only at hSw); go_simp; (try with_reducible rfl)
  (try simp only [Act.put, List.setIfInBounds_toArray, List.set_cons_zero, List.set_cons_succ])
  refine wpPlan_call (by kernel_rfl) (fun K hK => ?_)
  have hOld := hide hHeld
  clear hHeld
  go_simp
  go_at_call 15
  refine (GEqual_y _ (HS2.out.below hOld.out.1) (HS3.out.below hOld.out.1)).mono ?_
  rintro e w' ⟨rfl, hbel⟩
  refine hK.out _ _ (held12 hbel L1.out L2.out L3.out hOld.out) (fun hHeld => ?_)
  clear hK K
  (try simp only [Act.put, List.setIfInBounds_toArray, List.set_cons_zero, List.set_cons_succ])
  refine wpPlan_take (v := ?_) (by kernel_rfl) (fun wS hSw => ?_) ?_
  rotate_left
  · (try dsimp only at hSw); go_simp; (try with_reducible rfl)
  (try simp only [Act.put, List.setIfInBounds_toArray, List.set_cons_zero, List.set_cons_succ])
  refine wpPlan_take (v := ?_) (by kernel_rfl) (fun wS hSw => ?_) ?_
  rotate_left
  · (try dsimp only at hSw); go_simp; (try with_reducible rfl)
  (try simp only [Act.put, List.setIfInBounds_toArray, List.set_cons_zero, List.set_cons_succ])
  refine wpPlan_take (v := ?_) (by kernel_rfl) (fun wS hSw => ?_) ?_
  rotate_left
  · (try dsimp only at hSw); go_simp; (try with_reducible rfl)
  (try simp only [Act.put, List.setIfInBounds_toArray, List.set_cons_zero, List.set_cons_succ])
  refine wpPlan_take (v := ?_) (by kernel_rfl) (fun wS hSw => ?_) ?_
  rotate_left
  · (try dsimp only at hSw); go_simp; (try with_reducible rfl)
  (try simp only [Act.put, List.setIfInBounds_toArray, List.set_cons_zero, List.set_cons_succ])
  refine wpPlan_take (v := ?_) (by kernel_rfl) (fun wS hSw => ?_) ?_
  rotate_left
  · (try dsimp only at hSw); go_simp; (try with_reducible rfl)
  (try simp only [Act.put, List.setIfInBounds_toArray, List.set_cons_zero, List.set_cons_succ])
  refine wpPlan_take (v := ?_) (by kernel_rfl) (fun wS hSw => ?_) ?_
  rotate_left
  · (try dsimp only at hSw); go_simp; (try with_reducible rfl)
  (try simp only [Act.put, List.setIfInBounds_toArray, List.set_cons_zero, List.set_cons_succ])
  refine wpPlan_take (v := ?_) (by kernel_rfl) (fun wS hSw => ?_) ?_
  rotate_left
  · (try dsimp only at hSw); go_simp; (try with_reducible rfl)
  (try simp only [Act.put, List.setIfInBounds_toArray, List.set_cons_zero, List.set_cons_succ])
  refine wpPlan_take (v := ?_) (by kernel_rfl) (fun wS hSw => ?_) ?_
  rotate_left
  · (try dsimp only at hSw); go_simp; (try with_reducible rfl)
  (try simp only [Act.put, List.setIfInBounds_toArray, List.set_cons_zero, List.set_cons_succ])
  refine wpPlan_take (v := ?_) (by kernel_rfl) (fun wS hSw => ?_) ?_
  rotate_left
  · (try dsimp only at hSw); go_simp; (try with_reducible rfl)
  (try simp only [Act.put, List.setIfInBounds_toArray, List.set_cons_zero, List.set_cons_succ])
  refine wpPlan_take (v := ?_) (by kernel_rfl) (fun wS hSw => ?_) ?_
  rotate_left
  · (try dsimp only at hSw); go_simp; (try with_reducible rfl)
  (try simp only [Act.put, List.setIfInBounds_toArray, List.set_cons_zero, List.set_cons_succ])
  refine wpPlan_take (v := ?_) (by kernel_rfl) (fun wS hSw => ?_) ?_
  rotate_left
  · (try dsimp only at hSw); go_simp; (try with_reducible rfl)
  (try simp only [Act.put, List.setIfInBounds_toArray, List.set_cons_zero, List.set_cons_succ])
  refine wpPlan_take (v := ?_) (by kernel_rfl) (fun wS hSw => ?_) ?_
  rotate_left
  · (try dsimp only at hSw); go_simp; (try with_reducible rfl)
  (try simp only [Act.put, List.setIfInBounds_toArray, List.set_cons_zero, List.set_cons_succ])
  refine wpPlan_take (v := ?_) (by kernel_rfl) (fun wS hSw => ?_) ?_
  rotate_left
  · (try dsimp only at hSw); go_simp; (try with_reducible rfl)
  (try simp only [Act.put, List.setIfInBounds_toArray, List.set_cons_zero, List.set_cons_succ])
  refine wpPlan_take (v := ?_) (by kernel_rfl) (fun wS hSw => ?_) ?_
  rotate_left
  · (try dsimp only at hSw); go_simp; (try with_reducible rfl)
  (try simp only [Act.put, List.setIfInBounds_toArray, List.set_cons_zero, List.set_cons_succ])
  refine wpPlan_take (v := ?_) (by kernel_rfl) (fun wS hSw => ?_) ?_
  rotate_left
  · (try dsimp only at hSw); go_simp; (try with_reducible rfl)
  (try simp only [Act.put, List.setIfInBounds_toArray, List.set_cons_zero, List.set_cons_succ])
  refine wpPlan_take (v := ?_) (by kernel_rfl) (fun wS hSw => ?_) ?_
  rotate_left
  · (try dsimp only at hSw); go_simp; (try with_reducible rfl)
  (try simp only [Act.put, List.setIfInBounds_toArray, List.set_cons_zero, List.set_cons_succ])
  refine wpPlan_take (v := ?_) (by kernel_rfl) (fun wS hSw => ?_) ?_
  rotate_left
  · (try dsimp only at hSw); go_simp; (try with_reducible rfl)
  (try simp only [Act.put, List.setIfInBounds_toArray, List.set_cons_zero, List.set_cons_succ])
  refine wpPlan_call (by kernel_rfl) (fun K hK => ?_)
  have hOld := hide hHeld
  clear hHeld
  go_simp
  go_at_call 32
  refine (awake6_any _).mono ?_
  rintro e w' ⟨rfl, hbel⟩
  refine hK.out _ _ (held12 hbel L1.out L2.out L3.out hOld.out) (fun hHeld => ?_)
  clear hK K
  (try simp only [Act.put, List.setIfInBounds_toArray, List.set_cons_zero, List.set_cons_succ])
  refine wpPlan_take (v := ?_) (by kernel_rfl) (fun wS hSw => ?_) ?_
  rotate_left
  · (try dsimp only at hSw); go_simp; (try with_reducible rfl)
  (try simp only [Act.put, List.setIfInBounds_toArray, List.set_cons_zero, List.set_cons_succ])
  refine wpPlan_take (v := ?_) (by kernel_rfl) (fun wS hSw => ?_) ?_
  rotate_left
  · (try dsimp only at hSw); go_simp; (try with_reducible rfl)
  (try simp only [Act.put, List.setIfInBounds_toArray, List.set_cons_zero, List.set_cons_succ])
  refine wpPlan_end ?_
  have HH := hide hHeld.1
  clear hHeld
  go_wp2_with fail
  go_ret
  exact LawOk.of (below_step HB7.out HH.out)
theorem law_GeoBytes {A : Option Addr} {m cc : Nat} {l : List UInt8} {a b c d : Int} (w : World) (ha : Bs w w.heap.size A m l) (hmc : m ≤ cc) :
    Calls Try.prog 6 #[.agg #[.int .i64 a, .int .i64 b, .int .i64 c, .int .i64 d], .slice A m cc] w (LawOk w) := by
  by_cases hm : 40000 < m
  · exact law_GeoBytes_long w hm
  · exact law_GeoBytes_short w ha hmc (by omega)
end Go.Proofs.Ytpflpampogngiaa
