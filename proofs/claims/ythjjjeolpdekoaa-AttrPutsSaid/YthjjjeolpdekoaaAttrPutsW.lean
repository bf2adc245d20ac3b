/- The law AttrPuts (layer 9): its walk. -/
import Derived.Test.YthjjjeolpdekoaaAttM
import Derived.Test.YthjjjeolpdekoaaAttG
import Derived.Test.YthjjjeolpdekoaaPlanG
namespace Go.Proofs.Ythjjjeolpdekoaa
open Go.RowKit Plain

theorem RAPut_c (x : AttV) {b : List UInt8} {k : Int} (h1 : putA x = b) (h2 : errA x = k) (w : World) : Calls Try.prog 27 #[.agg #[.int .i64 x.h, .int .i64 x.o, .string ⟨x.r.toArray⟩, .int .i64 x.l, .int .i64 x.i, .int .i64 x.g, .int .i64 x.s]] w (BERet w 5 b k) := by
  subst h1 h2; exact RAPut_any x w
theorem RAGet_c {A : Option Addr} {m c : Nat} {l : List UInt8} {y : AttV} {b : Bool} (h1 : attG l = y) (h2 : gotA l = b) (w : World) (ha : Bs w w.heap.size A m l) (hmc : m ≤ c) (hm : m ≤ 100000) : Calls Try.prog 29 #[.slice A m c] w (ARet w y b) := by
  subst h1 h2; exact RAGet_any w ha hmc hm
set_option maxRecDepth 100000 in
set_option maxHeartbeats 6400000 in
theorem law_AttrPuts (x : AttV) {A : Option Addr} {m c : Nat} {l : List UInt8} (w : World) (ha : Bs w w.heap.size A m l) (hmc : m ≤ c) (hl : x.r.length ≤ 9223372036854775807) : Calls Try.prog 5 #[.agg #[.int .i64 x.h, .int .i64 x.o, .string ⟨x.r.toArray⟩, .int .i64 x.l, .int .i64 x.i, .int .i64 x.g, .int .i64 x.s], .slice A m c] w (LawOk w) := by
  obtain ⟨hr1, hb, hsz⟩ := rows1 w [.int .i64 x.h, .int .i64 x.o, .string ⟨x.r.toArray⟩, .int .i64 x.l, .int .i64 x.i, .int .i64 x.g, .int .i64 x.s] 48
  have HR1 := hide hr1
  have HB1 := hide hb
  have HA1 := hide ((ha.below hb).more hb.size)
  clear hr1 hb hsz ha
  by_cases h1 : 2000 < m
  · have hd : decide ((2000 : Int) < (m : Int)) = true := by simp; omega
    go_enter Try.func5, Try.ntmps5
    go_wp2_with fail
    refine (awake9_any _).mono ?_
    rintro e w1 ⟨rfl, hbel⟩
    have HBa := hide (below_step HB1.out hbel)
    clear hbel
    go_wp2_with fail
    go_ret
    exact LawOk.of HBa.out
  have hd : decide ((2000 : Int) < (m : Int)) = false := by simp; omega
  by_cases h2 : 100 < x.r.length
  · skip
    go_enter Try.func5, Try.ntmps5
    go_wp2_with fail
    refine (awake9_any _).mono ?_
    rintro e w1 ⟨rfl, hbel⟩
    have HBa := hide (below_step HB1.out hbel)
    clear hbel
    go_wp2_with fail
    go_ret
    exact LawOk.of HBa.out
  obtain ⟨r, hr⟩ : ∃ r, rightA x = r := ⟨_, rfl⟩
  obtain ⟨ok, hok⟩ : ∃ ok, gotA l = ok := ⟨_, rfl⟩
  obtain ⟨y, hy⟩ : ∃ y, attG l = y := ⟨_, rfl⟩
  obtain ⟨k, hk⟩ : ∃ k, errA x = k := ⟨_, rfl⟩
  have HXR := hide hr
  have HOK := hide hok
  have HY := hide hy
  have HK := hide hk
  have hm : m ≤ 100000 := by omega
  clear hr hok hy hk
  have hNE := neq_att (x := y) (y := y) (b := false) (by simp)
  go_enter Try.func5, Try.ntmps5
  go_wp2_with fail
  refine (APut_c x rfl HK.out _).mono ?_
  rintro e w2 ⟨A2, n2, c2, rfl, hown, hbel⟩
  have HO2 := hide hown
  have hcap := hown.cap
  have HB2 := hide (below_step HB1.out hbel)
  have HR2 := hide (HR1.out.on hbel)
  have HA2 := hide ((HA1.out.below hbel).more hbel.size)
  have c0 : w2.cell? ⟨w.heap.size, 0, none⟩ = some (.int .i64 x.h) := HR2.out.cell 0
  have c1 : w2.cell? ⟨w.heap.size, 1, none⟩ = some (.int .i64 x.o) := HR2.out.cell 1
  have c2 : w2.cell? ⟨w.heap.size, 2, none⟩ = some (.string ⟨x.r.toArray⟩) := HR2.out.cell 2
  have c3 : w2.cell? ⟨w.heap.size, 3, none⟩ = some (.int .i64 x.l) := HR2.out.cell 3
  have c4 : w2.cell? ⟨w.heap.size, 4, none⟩ = some (.int .i64 x.i) := HR2.out.cell 4
  have c5 : w2.cell? ⟨w.heap.size, 5, none⟩ = some (.int .i64 x.g) := HR2.out.cell 5
  have c6 : w2.cell? ⟨w.heap.size, 6, none⟩ = some (.int .i64 x.s) := HR2.out.cell 6
  have cg : w.heap.size < w2.heap.size := HR2.out.lt
  clear hown hbel HB1 HR1 HA1
  go_wp2_with fail
  refine (RAPut_c x rfl HK.out _).mono ?_
  rintro e w3 ⟨A3, n3, c3', rfl, hown, hbel⟩
  have HO3 := hide (HO2.out.below hbel)
  have HQ3 := hide hown
  have HB3 := hide (below_step HB2.out hbel)
  have HR3 := hide (HR2.out.on hbel)
  have HA3 := hide ((HA2.out.below hbel).more hbel.size)
  clear c0 c1 c2 c3 c4 c5 c6 cg
  clear hown hbel HB2 HR2 HA2 HO2
  go_wp2_with fail
  refine (AGet_c HY.out HOK.out _ HA3.out hmc).mono ?_
  rintro e w4 ⟨rfl, hbel⟩
  obtain ⟨hr5, hb5, hs5⟩ := rows1 w4 [.int .i64 y.h, .int .i64 y.o, .string ⟨y.r.toArray⟩, .int .i64 y.l, .int .i64 y.i, .int .i64 y.g, .int .i64 y.s] 48
  have hbb := hbel.trans (hb5.mono hbel.size)
  have HO5 := hide (HO3.out.below hbb)
  have HQ5 := hide (HQ3.out.below hbb)
  have HB5 := hide (below_step HB3.out hbb)
  have HR5 := hide (HR3.out.on hbb)
  have HY5 := hide hr5
  have HA5 := hide ((HA3.out.below hbb).more hbb.size)
  clear hbel hr5 hb5 hs5 hbb HO3 HQ3 HB3 HR3 HA3
  go_wp2_with fail
  generalize (w4.alloc (.cells #[.int .i64 y.h, .int .i64 y.o, .string ⟨y.r.toArray⟩, .int .i64 y.l, .int .i64 y.i, .int .i64 y.g, .int .i64 y.s] 48)) = w5 at *
  generalize w4.heap.size = g9 at *
  refine (RAGet_c HY.out HOK.out _ HA5.out hmc hm).mono ?_
  rintro e w6 ⟨rfl, hbel⟩
  obtain ⟨hr7, hb7, hs7⟩ := rows1 w6 [.int .i64 y.h, .int .i64 y.o, .string ⟨y.r.toArray⟩, .int .i64 y.l, .int .i64 y.i, .int .i64 y.g, .int .i64 y.s] 48
  have hbb := hbel.trans (hb7.mono hbel.size)
  have HO7 := hide (HO5.out.below hbb)
  have HQ7 := hide (HQ5.out.below hbb)
  have HB7 := hide (below_step HB5.out hbb)
  have HR7 := hide (HR5.out.on hbb)
  have HY7 := hide (HY5.out.on hbb)
  have HZ7 := hide hr7
  have HA7 := hide ((HA5.out.below hbb).more hbb.size)
  clear hbel hr7 hb7 hs7 hbb HO5 HQ5 HB5 HR5 HY5 HA5
  go_wp2_with fail
  generalize (w6.alloc (.cells #[.int .i64 y.h, .int .i64 y.o, .string ⟨y.r.toArray⟩, .int .i64 y.l, .int .i64 y.i, .int .i64 y.g, .int .i64 y.s] 48)) = w7 at *
  generalize w6.heap.size = g11 at *
  cases r <;> cases ok
  · obtain rfl : k = 1 := by rw [← HK.out]; unfold errA; rw [HXR.out]; rfl
    have hp0 : putA x = [] := by unfold putA; rw [HXR.out]; rfl
    have HGA : Hid (gotA (putA x) = false) := hide (by rw [hp0]; exact got_none.1)
    obtain ⟨z, hz⟩ : ∃ z, attG (putA x) = z := ⟨_, rfl⟩
    have HGX := hide hz
    clear hp0 hz
    obtain ⟨pb, hpb⟩ : ∃ b, putA y = b := ⟨_, rfl⟩
    obtain ⟨kb, hkb⟩ : ∃ b, errA y = b := ⟨_, rfl⟩
    have HPB := hide hpb
    have HKB := hide hkb
    clear hpb hkb
    refine wp_region_G (fun w' => Below w7.heap.size w7 w') (.take 0 (.take 2 (.alt 1 (.alt 3 (.take 4 (.take 5 (.take 6 (.take 7 (.alt 8 (.take 9 (.take 10 (.take 11 (.take 12 (.take 13 (.take 14 (.take 15 (.take 16 (.take 17 (.take 18 (.take 19 (.take 20 (.take 21 (.take 22 (.take 23 (.take 24 (.take 25 .leaf))))))))))))))))) .stop))))) .stop) .stop))) (by kernel_rfl) (by kernel_rfl) (by kernel_rfl) (by kernel_rfl) rfl (fun _ _ _ _ _ h => h) (below_drew (below_self w7)) (fun hHeld => ?_)
    simp only [PT.map, List.getElem?_toArray, List.getElem?_cons_succ, List.getElem?_cons_zero]
    refine wpPT_take (v := ?_) (by kernel_rfl) (fun wS hSw => ?_) ?_
    rotate_left
    · refine execOp_load (x := .tmp 2) (k := 7) (g := w.heap.size) (off := 0) (cs := [.int .i64 x.h, .int .i64 x.o, .string ⟨x.r.toArray⟩, .int .i64 x.l, .int .i64 x.i, .int .i64 x.g, .int .i64 x.s]) ?_ att_agg att_size ?_ (RowL.at0 (HR7.out.on hSw)) rfl <;> rfl
    (try simp only [Act.put, List.setIfInBounds_toArray, List.set_cons_zero, List.set_cons_succ])
    refine wpPT_take (v := ?_) (by kernel_rfl) (fun wS hSw => ?_) ?_
    rotate_left
    · refine execOp_load (x := .tmp 2) (k := 7) (g := w.heap.size) (off := 0) (cs := [.int .i64 x.h, .int .i64 x.o, .string ⟨x.r.toArray⟩, .int .i64 x.l, .int .i64 x.i, .int .i64 x.g, .int .i64 x.s]) ?_ att_agg att_size ?_ (RowL.at0 (HR7.out.on hSw)) rfl <;> rfl
    (try simp only [Act.put, List.setIfInBounds_toArray, List.set_cons_zero, List.set_cons_succ])
    refine wpPT_alt (by kernel_rfl) (fun K hK => ?_) ?_
    rotate_left
    · exact wpPT_stop
    have hOld := hide hHeld
    clear hHeld
    go_simp
    go_at_call 30
    refine (ARight_b x _ HXR.out).mono ?_
    rintro e w' ⟨rfl, hbel⟩
    refine hK.out _ _ (hOld.out.trans (hbel.mono hOld.out.size)) (fun hHeld => ?_)
    clear hK K
    (try simp only [Act.put, List.setIfInBounds_toArray, List.set_cons_zero, List.set_cons_succ])
    refine wpPT_alt (by kernel_rfl) (fun K hK => ?_) ?_
    rotate_left
    · exact wpPT_stop
    have hOld := hide hHeld
    clear hHeld
    go_simp
    go_at_call 31
    refine (RARight_b x _ HXR.out).mono ?_
    rintro e w' ⟨rfl, hbel⟩
    refine hK.out _ _ (hOld.out.trans (hbel.mono hOld.out.size)) (fun hHeld => ?_)
    clear hK K
    (try simp only [Act.put, List.setIfInBounds_toArray, List.set_cons_zero, List.set_cons_succ])
    refine wpPT_take (v := ?_) (by kernel_rfl) (fun wS hSw => ?_) ?_
    rotate_left
    · (try dsimp only at hSw); go_simp; (try with_reducible rfl)
    (try simp only [Act.put, List.setIfInBounds_toArray, List.set_cons_zero, List.set_cons_succ])
    refine wpPT_take (v := ?_) (by kernel_rfl) (fun wS hSw => ?_) ?_
    rotate_left
    · (try dsimp only at hSw); go_simp; (try with_reducible rfl)
    (try simp only [Act.put, List.setIfInBounds_toArray, List.set_cons_zero, List.set_cons_succ])
    refine wpPT_take (v := ?_) (by kernel_rfl) (fun wS hSw => ?_) ?_
    rotate_left
    · (try dsimp only at hSw); go_simp; (try with_reducible rfl)
    (try simp only [Act.put, List.setIfInBounds_toArray, List.set_cons_zero, List.set_cons_succ])
    refine wpPT_take (v := ?_) (by kernel_rfl) (fun wS hSw => ?_) ?_
    rotate_left
    · (try dsimp only at hSw); go_simp; (try with_reducible rfl)
    (try simp only [Act.put, List.setIfInBounds_toArray, List.set_cons_zero, List.set_cons_succ])
    refine wpPT_alt (by kernel_rfl) (fun K hK => ?_) ?_
    rotate_left
    · exact wpPT_stop
    have hOld := hide hHeld
    clear hHeld
    go_simp
    go_at_call 16
    refine (BEqual_b (b := true) _ (HO7.out.below hOld.out).bs (HQ7.out.below hOld.out).bs (by simp)).mono ?_
    rintro e w' ⟨rfl, rfl⟩
    refine hK.out _ _ (hOld.out) (fun hHeld => ?_)
    clear hK K
    (try simp only [Act.put, List.setIfInBounds_toArray, List.set_cons_zero, List.set_cons_succ])
    refine wpPT_take (v := ?_) (by kernel_rfl) (fun wS hSw => ?_) ?_
    rotate_left
    · (try dsimp only at hSw); go_simp; (try with_reducible rfl)
    (try simp only [Act.put, List.setIfInBounds_toArray, List.set_cons_zero, List.set_cons_succ])
    refine wpPT_take (v := ?_) (by kernel_rfl) (fun wS hSw => ?_) ?_
    rotate_left
    · (try dsimp only at hSw); go_simp; (try with_reducible rfl)
    (try simp only [Act.put, List.setIfInBounds_toArray, List.set_cons_zero, List.set_cons_succ])
    refine wpPT_take (v := ?_) (by kernel_rfl) (fun wS hSw => ?_) ?_
    rotate_left
    · (try dsimp only at hSw); go_simp; (try with_reducible rfl)
    (try simp only [Act.put, List.setIfInBounds_toArray, List.set_cons_zero, List.set_cons_succ])
    refine wpPT_take (v := ?_) (by kernel_rfl) (fun wS hSw => ?_) ?_
    rotate_left
    · (try dsimp only at hSw); go_simp; (try with_reducible rfl)
    (try simp only [Act.put, List.setIfInBounds_toArray, List.set_cons_zero, List.set_cons_succ])
    refine wpPT_take (v := ?_) (by kernel_rfl) (fun wS hSw => ?_) ?_
    rotate_left
    · (try dsimp only at hSw); go_simp; (try with_reducible rfl)
    (try simp only [Act.put, List.setIfInBounds_toArray, List.set_cons_zero, List.set_cons_succ])
    refine wpPT_take (v := ?_) (by kernel_rfl) (fun wS hSw => ?_) ?_
    rotate_left
    · (try dsimp only at hSw); go_simp; (try with_reducible rfl)
    (try simp only [Act.put, List.setIfInBounds_toArray, List.set_cons_zero, List.set_cons_succ])
    refine wpPT_take (v := ?_) (by kernel_rfl) (fun wS hSw => ?_) ?_
    rotate_left
    · (try dsimp only at hSw); go_simp; (try with_reducible rfl)
    (try simp only [Act.put, List.setIfInBounds_toArray, List.set_cons_zero, List.set_cons_succ])
    refine wpPT_take (v := ?_) (by kernel_rfl) (fun wS hSw => ?_) ?_
    rotate_left
    · (try dsimp only at hSw); go_simp; (try with_reducible rfl)
    (try simp only [Act.put, List.setIfInBounds_toArray, List.set_cons_zero, List.set_cons_succ])
    refine wpPT_take (v := ?_) (by kernel_rfl) (fun wS hSw => ?_) ?_
    rotate_left
    · refine execOp_load (x := .tmp 9) (k := 7) (g := g9) (off := 0) (cs := [.int .i64 y.h, .int .i64 y.o, .string ⟨y.r.toArray⟩, .int .i64 y.l, .int .i64 y.i, .int .i64 y.g, .int .i64 y.s]) ?_ att_agg att_size ?_ (RowL.at0 (HY7.out.on hSw)) rfl <;> rfl
    (try simp only [Act.put, List.setIfInBounds_toArray, List.set_cons_zero, List.set_cons_succ])
    refine wpPT_take (v := ?_) (by kernel_rfl) (fun wS hSw => ?_) ?_
    rotate_left
    · refine execOp_load (x := .tmp 11) (k := 7) (g := g11) (off := 0) (cs := [.int .i64 y.h, .int .i64 y.o, .string ⟨y.r.toArray⟩, .int .i64 y.l, .int .i64 y.i, .int .i64 y.g, .int .i64 y.s]) ?_ att_agg att_size ?_ (RowL.at0 (HZ7.out.on hSw)) rfl <;> rfl
    (try simp only [Act.put, List.setIfInBounds_toArray, List.set_cons_zero, List.set_cons_succ])
    refine wpPT_take (v := ?_) (by kernel_rfl) (fun wS hSw => ?_) ?_
    rotate_left
    · (try dsimp only at hSw); go_simp; (try with_reducible rfl)
    (try simp only [Act.put, List.setIfInBounds_toArray, List.set_cons_zero, List.set_cons_succ])
    refine wpPT_take (v := ?_) (by kernel_rfl) (fun wS hSw => ?_) ?_
    rotate_left
    · (try dsimp only at hSw); go_simp; (try with_reducible rfl)
    (try simp only [Act.put, List.setIfInBounds_toArray, List.set_cons_zero, List.set_cons_succ])
    refine wpPT_take (v := ?_) (by kernel_rfl) (fun wS hSw => ?_) ?_
    rotate_left
    · (try dsimp only at hSw); go_simp; (try with_reducible rfl)
    (try simp only [Act.put, List.setIfInBounds_toArray, List.set_cons_zero, List.set_cons_succ])
    refine wpPT_take (v := ?_) (by kernel_rfl) (fun wS hSw => ?_) ?_
    rotate_left
    · (try dsimp only at hSw); go_simp; (try with_reducible rfl)
    (try simp only [Act.put, List.setIfInBounds_toArray, List.set_cons_zero, List.set_cons_succ])
    refine wpPT_take (v := ?_) (by kernel_rfl) (fun wS hSw => ?_) ?_
    rotate_left
    · (try dsimp only at hSw); go_simp; (try with_reducible rfl)
    (try simp only [Act.put, List.setIfInBounds_toArray, List.set_cons_zero, List.set_cons_succ])
    refine wpPT_take (v := ?_) (by kernel_rfl) (fun wS hSw => ?_) ?_
    rotate_left
    · (try dsimp only at hSw); go_simp; (try with_reducible rfl)
    (try simp only [Act.put, List.setIfInBounds_toArray, List.set_cons_zero, List.set_cons_succ])
    refine wpPT_take (v := ?_) (by kernel_rfl) (fun wS hSw => ?_) ?_
    rotate_left
    · (try dsimp only at hSw); go_simp; (try with_reducible rfl)
    (try simp only [Act.put, List.setIfInBounds_toArray, List.set_cons_zero, List.set_cons_succ])
    refine wpPT_leaf ?_
    skip
    have HB8 := hide (HB7.out.trans (hHeld.mono HB7.out.size))
    have HO8 := hide (HO7.out.below hHeld)
    have HR8 := hide (HR7.out.on hHeld)
    have HY8 := hide (HY7.out.on hHeld)
    have HA8 := hide ((HA7.out.below hHeld).more hHeld.size)
    clear hHeld
    go_wp2_with fail
    refine (AGet_c HGX.out HGA.out _ HO8.out.bs hcap).mono ?_
    rintro e w9 ⟨rfl, hbel⟩
    obtain ⟨hr10, hb10, hs10⟩ := rows1 w9 [.int .i64 z.h, .int .i64 z.o, .string ⟨z.r.toArray⟩, .int .i64 z.l, .int .i64 z.i, .int .i64 z.g, .int .i64 z.s] 48
    have hbb := hbel.trans (hb10.mono hbel.size)
    have HB10 := hide (below_step HB8.out hbb)
    have HR10 := hide (HR8.out.on hbb)
    have HY10 := hide (HY8.out.on hbb)
    have HZ10 := hide hr10
    have HA10 := hide ((HA8.out.below hbb).more hbb.size)
    clear hbel hr10 hb10 hs10 hbb HB8 HO8 HR8 HY8 HA8 HB7 HO7 HQ7 HR7 HY7 HZ7 HA7
    have d0 : (w9.alloc (.cells #[.int .i64 z.h, .int .i64 z.o, .string ⟨z.r.toArray⟩, .int .i64 z.l, .int .i64 z.i, .int .i64 z.g, .int .i64 z.s] 48)).cell? ⟨g9, 0, none⟩ = some (.int .i64 y.h) := HY10.out.cell 0
    have d1 : (w9.alloc (.cells #[.int .i64 z.h, .int .i64 z.o, .string ⟨z.r.toArray⟩, .int .i64 z.l, .int .i64 z.i, .int .i64 z.g, .int .i64 z.s] 48)).cell? ⟨g9, 1, none⟩ = some (.int .i64 y.o) := HY10.out.cell 1
    have d2 : (w9.alloc (.cells #[.int .i64 z.h, .int .i64 z.o, .string ⟨z.r.toArray⟩, .int .i64 z.l, .int .i64 z.i, .int .i64 z.g, .int .i64 z.s] 48)).cell? ⟨g9, 2, none⟩ = some (.string ⟨y.r.toArray⟩) := HY10.out.cell 2
    have d3 : (w9.alloc (.cells #[.int .i64 z.h, .int .i64 z.o, .string ⟨z.r.toArray⟩, .int .i64 z.l, .int .i64 z.i, .int .i64 z.g, .int .i64 z.s] 48)).cell? ⟨g9, 3, none⟩ = some (.int .i64 y.l) := HY10.out.cell 3
    have d4 : (w9.alloc (.cells #[.int .i64 z.h, .int .i64 z.o, .string ⟨z.r.toArray⟩, .int .i64 z.l, .int .i64 z.i, .int .i64 z.g, .int .i64 z.s] 48)).cell? ⟨g9, 4, none⟩ = some (.int .i64 y.i) := HY10.out.cell 4
    have d5 : (w9.alloc (.cells #[.int .i64 z.h, .int .i64 z.o, .string ⟨z.r.toArray⟩, .int .i64 z.l, .int .i64 z.i, .int .i64 z.g, .int .i64 z.s] 48)).cell? ⟨g9, 5, none⟩ = some (.int .i64 y.g) := HY10.out.cell 5
    have d6 : (w9.alloc (.cells #[.int .i64 z.h, .int .i64 z.o, .string ⟨z.r.toArray⟩, .int .i64 z.l, .int .i64 z.i, .int .i64 z.g, .int .i64 z.s] 48)).cell? ⟨g9, 6, none⟩ = some (.int .i64 y.s) := HY10.out.cell 6
    have dg : g9 < (w9.alloc (.cells #[.int .i64 z.h, .int .i64 z.o, .string ⟨z.r.toArray⟩, .int .i64 z.l, .int .i64 z.i, .int .i64 z.g, .int .i64 z.s] 48)).heap.size := HY10.out.lt
    go_wp2_with fail
    generalize (w9.alloc (.cells #[.int .i64 z.h, .int .i64 z.o, .string ⟨z.r.toArray⟩, .int .i64 z.l, .int .i64 z.i, .int .i64 z.g, .int .i64 z.s] 48)) = w10 at *
    generalize w9.heap.size = g13 at *
    clear d0 d1 d2 d3 d4 d5 d6 dg
    refine (APut_c y HPB.out HKB.out _).mono ?_
    rintro e w11 ⟨A11, n11, c11, rfl, hown, hbel⟩
    have HO11 := hide hown
    have HB11 := hide (below_step HB10.out hbel)
    have HR11 := hide (HR10.out.on hbel)
    have HZ11 := hide (HZ10.out.on hbel)
    have HA11 := hide (HA10.out.below hbel)
    clear hown hbel HB10 HR10 HY10 HZ10 HA10
    go_wp2_with fail
    refine (awake9_any _).mono ?_
    rintro e w12 ⟨rfl, hbel⟩
    have HB12 := hide (below_step HB11.out hbel)
    clear hbel
    go_wp2_with fail
    go_ret
    exact LawOk.of HB12.out
  · obtain rfl : k = 1 := by rw [← HK.out]; unfold errA; rw [HXR.out]; rfl
    have hp0 : putA x = [] := by unfold putA; rw [HXR.out]; rfl
    have HGA : Hid (gotA (putA x) = false) := hide (by rw [hp0]; exact got_none.1)
    obtain ⟨z, hz⟩ : ∃ z, attG (putA x) = z := ⟨_, rfl⟩
    have HGX := hide hz
    clear hp0 hz
    have hpb : putA y = l := by rw [← HY.out]; exact (put_back HOK.out).1
    have hkb : errA y = 0 := by rw [← HY.out]; exact (put_back HOK.out).2
    have HPB := hide hpb
    have HKB := hide hkb
    clear hpb hkb
    refine wp_region_G (fun w' => Below w7.heap.size w7 w') (.take 0 (.take 2 (.alt 1 (.alt 3 (.take 4 (.take 5 (.take 6 (.take 7 (.alt 8 (.take 9 (.take 10 (.take 11 (.take 12 (.take 13 (.take 14 (.take 15 (.take 16 (.take 17 (.take 18 (.take 19 (.take 20 (.take 21 (.take 22 (.take 23 (.take 24 (.take 25 .leaf))))))))))))))))) .stop))))) .stop) .stop))) (by kernel_rfl) (by kernel_rfl) (by kernel_rfl) (by kernel_rfl) rfl (fun _ _ _ _ _ h => h) (below_drew (below_self w7)) (fun hHeld => ?_)
    simp only [PT.map, List.getElem?_toArray, List.getElem?_cons_succ, List.getElem?_cons_zero]
    refine wpPT_take (v := ?_) (by kernel_rfl) (fun wS hSw => ?_) ?_
    rotate_left
    · refine execOp_load (x := .tmp 2) (k := 7) (g := w.heap.size) (off := 0) (cs := [.int .i64 x.h, .int .i64 x.o, .string ⟨x.r.toArray⟩, .int .i64 x.l, .int .i64 x.i, .int .i64 x.g, .int .i64 x.s]) ?_ att_agg att_size ?_ (RowL.at0 (HR7.out.on hSw)) rfl <;> rfl
    (try simp only [Act.put, List.setIfInBounds_toArray, List.set_cons_zero, List.set_cons_succ])
    refine wpPT_take (v := ?_) (by kernel_rfl) (fun wS hSw => ?_) ?_
    rotate_left
    · refine execOp_load (x := .tmp 2) (k := 7) (g := w.heap.size) (off := 0) (cs := [.int .i64 x.h, .int .i64 x.o, .string ⟨x.r.toArray⟩, .int .i64 x.l, .int .i64 x.i, .int .i64 x.g, .int .i64 x.s]) ?_ att_agg att_size ?_ (RowL.at0 (HR7.out.on hSw)) rfl <;> rfl
    (try simp only [Act.put, List.setIfInBounds_toArray, List.set_cons_zero, List.set_cons_succ])
    refine wpPT_alt (by kernel_rfl) (fun K hK => ?_) ?_
    rotate_left
    · exact wpPT_stop
    have hOld := hide hHeld
    clear hHeld
    go_simp
    go_at_call 30
    refine (ARight_b x _ HXR.out).mono ?_
    rintro e w' ⟨rfl, hbel⟩
    refine hK.out _ _ (hOld.out.trans (hbel.mono hOld.out.size)) (fun hHeld => ?_)
    clear hK K
    (try simp only [Act.put, List.setIfInBounds_toArray, List.set_cons_zero, List.set_cons_succ])
    refine wpPT_alt (by kernel_rfl) (fun K hK => ?_) ?_
    rotate_left
    · exact wpPT_stop
    have hOld := hide hHeld
    clear hHeld
    go_simp
    go_at_call 31
    refine (RARight_b x _ HXR.out).mono ?_
    rintro e w' ⟨rfl, hbel⟩
    refine hK.out _ _ (hOld.out.trans (hbel.mono hOld.out.size)) (fun hHeld => ?_)
    clear hK K
    (try simp only [Act.put, List.setIfInBounds_toArray, List.set_cons_zero, List.set_cons_succ])
    refine wpPT_take (v := ?_) (by kernel_rfl) (fun wS hSw => ?_) ?_
    rotate_left
    · (try dsimp only at hSw); go_simp; (try with_reducible rfl)
    (try simp only [Act.put, List.setIfInBounds_toArray, List.set_cons_zero, List.set_cons_succ])
    refine wpPT_take (v := ?_) (by kernel_rfl) (fun wS hSw => ?_) ?_
    rotate_left
    · (try dsimp only at hSw); go_simp; (try with_reducible rfl)
    (try simp only [Act.put, List.setIfInBounds_toArray, List.set_cons_zero, List.set_cons_succ])
    refine wpPT_take (v := ?_) (by kernel_rfl) (fun wS hSw => ?_) ?_
    rotate_left
    · (try dsimp only at hSw); go_simp; (try with_reducible rfl)
    (try simp only [Act.put, List.setIfInBounds_toArray, List.set_cons_zero, List.set_cons_succ])
    refine wpPT_take (v := ?_) (by kernel_rfl) (fun wS hSw => ?_) ?_
    rotate_left
    · (try dsimp only at hSw); go_simp; (try with_reducible rfl)
    (try simp only [Act.put, List.setIfInBounds_toArray, List.set_cons_zero, List.set_cons_succ])
    refine wpPT_alt (by kernel_rfl) (fun K hK => ?_) ?_
    rotate_left
    · exact wpPT_stop
    have hOld := hide hHeld
    clear hHeld
    go_simp
    go_at_call 16
    refine (BEqual_b (b := true) _ (HO7.out.below hOld.out).bs (HQ7.out.below hOld.out).bs (by simp)).mono ?_
    rintro e w' ⟨rfl, rfl⟩
    refine hK.out _ _ (hOld.out) (fun hHeld => ?_)
    clear hK K
    (try simp only [Act.put, List.setIfInBounds_toArray, List.set_cons_zero, List.set_cons_succ])
    refine wpPT_take (v := ?_) (by kernel_rfl) (fun wS hSw => ?_) ?_
    rotate_left
    · (try dsimp only at hSw); go_simp; (try with_reducible rfl)
    (try simp only [Act.put, List.setIfInBounds_toArray, List.set_cons_zero, List.set_cons_succ])
    refine wpPT_take (v := ?_) (by kernel_rfl) (fun wS hSw => ?_) ?_
    rotate_left
    · (try dsimp only at hSw); go_simp; (try with_reducible rfl)
    (try simp only [Act.put, List.setIfInBounds_toArray, List.set_cons_zero, List.set_cons_succ])
    refine wpPT_take (v := ?_) (by kernel_rfl) (fun wS hSw => ?_) ?_
    rotate_left
    · (try dsimp only at hSw); go_simp; (try with_reducible rfl)
    (try simp only [Act.put, List.setIfInBounds_toArray, List.set_cons_zero, List.set_cons_succ])
    refine wpPT_take (v := ?_) (by kernel_rfl) (fun wS hSw => ?_) ?_
    rotate_left
    · (try dsimp only at hSw); go_simp; (try with_reducible rfl)
    (try simp only [Act.put, List.setIfInBounds_toArray, List.set_cons_zero, List.set_cons_succ])
    refine wpPT_take (v := ?_) (by kernel_rfl) (fun wS hSw => ?_) ?_
    rotate_left
    · (try dsimp only at hSw); go_simp; (try with_reducible rfl)
    (try simp only [Act.put, List.setIfInBounds_toArray, List.set_cons_zero, List.set_cons_succ])
    refine wpPT_take (v := ?_) (by kernel_rfl) (fun wS hSw => ?_) ?_
    rotate_left
    · (try dsimp only at hSw); go_simp; (try with_reducible rfl)
    (try simp only [Act.put, List.setIfInBounds_toArray, List.set_cons_zero, List.set_cons_succ])
    refine wpPT_take (v := ?_) (by kernel_rfl) (fun wS hSw => ?_) ?_
    rotate_left
    · (try dsimp only at hSw); go_simp; (try with_reducible rfl)
    (try simp only [Act.put, List.setIfInBounds_toArray, List.set_cons_zero, List.set_cons_succ])
    refine wpPT_take (v := ?_) (by kernel_rfl) (fun wS hSw => ?_) ?_
    rotate_left
    · (try dsimp only at hSw); go_simp; (try with_reducible rfl)
    (try simp only [Act.put, List.setIfInBounds_toArray, List.set_cons_zero, List.set_cons_succ])
    refine wpPT_take (v := ?_) (by kernel_rfl) (fun wS hSw => ?_) ?_
    rotate_left
    · refine execOp_load (x := .tmp 9) (k := 7) (g := g9) (off := 0) (cs := [.int .i64 y.h, .int .i64 y.o, .string ⟨y.r.toArray⟩, .int .i64 y.l, .int .i64 y.i, .int .i64 y.g, .int .i64 y.s]) ?_ att_agg att_size ?_ (RowL.at0 (HY7.out.on hSw)) rfl <;> rfl
    (try simp only [Act.put, List.setIfInBounds_toArray, List.set_cons_zero, List.set_cons_succ])
    refine wpPT_take (v := ?_) (by kernel_rfl) (fun wS hSw => ?_) ?_
    rotate_left
    · refine execOp_load (x := .tmp 11) (k := 7) (g := g11) (off := 0) (cs := [.int .i64 y.h, .int .i64 y.o, .string ⟨y.r.toArray⟩, .int .i64 y.l, .int .i64 y.i, .int .i64 y.g, .int .i64 y.s]) ?_ att_agg att_size ?_ (RowL.at0 (HZ7.out.on hSw)) rfl <;> rfl
    (try simp only [Act.put, List.setIfInBounds_toArray, List.set_cons_zero, List.set_cons_succ])
    refine wpPT_take (v := ?_) (by kernel_rfl) (fun wS hSw => ?_) ?_
    rotate_left
    · (try dsimp only at hSw); go_simp; (try with_reducible rfl)
    (try simp only [Act.put, List.setIfInBounds_toArray, List.set_cons_zero, List.set_cons_succ])
    refine wpPT_take (v := ?_) (by kernel_rfl) (fun wS hSw => ?_) ?_
    rotate_left
    · (try dsimp only at hSw); go_simp; (try with_reducible rfl)
    (try simp only [Act.put, List.setIfInBounds_toArray, List.set_cons_zero, List.set_cons_succ])
    refine wpPT_take (v := ?_) (by kernel_rfl) (fun wS hSw => ?_) ?_
    rotate_left
    · (try dsimp only at hSw); go_simp; (try with_reducible rfl)
    (try simp only [Act.put, List.setIfInBounds_toArray, List.set_cons_zero, List.set_cons_succ])
    refine wpPT_take (v := ?_) (by kernel_rfl) (fun wS hSw => ?_) ?_
    rotate_left
    · (try dsimp only at hSw); go_simp; (try with_reducible rfl)
    (try simp only [Act.put, List.setIfInBounds_toArray, List.set_cons_zero, List.set_cons_succ])
    refine wpPT_take (v := ?_) (by kernel_rfl) (fun wS hSw => ?_) ?_
    rotate_left
    · (try dsimp only at hSw); go_simp; (try with_reducible rfl)
    (try simp only [Act.put, List.setIfInBounds_toArray, List.set_cons_zero, List.set_cons_succ])
    refine wpPT_take (v := ?_) (by kernel_rfl) (fun wS hSw => ?_) ?_
    rotate_left
    · (try dsimp only at hSw); go_simp; (try with_reducible rfl)
    (try simp only [Act.put, List.setIfInBounds_toArray, List.set_cons_zero, List.set_cons_succ])
    refine wpPT_take (v := ?_) (by kernel_rfl) (fun wS hSw => ?_) ?_
    rotate_left
    · (try dsimp only at hSw); go_simp; (try with_reducible rfl)
    (try simp only [Act.put, List.setIfInBounds_toArray, List.set_cons_zero, List.set_cons_succ])
    refine wpPT_leaf ?_
    skip
    have HB8 := hide (HB7.out.trans (hHeld.mono HB7.out.size))
    have HO8 := hide (HO7.out.below hHeld)
    have HR8 := hide (HR7.out.on hHeld)
    have HY8 := hide (HY7.out.on hHeld)
    have HA8 := hide ((HA7.out.below hHeld).more hHeld.size)
    clear hHeld
    go_wp2_with fail
    refine (AGet_c HGX.out HGA.out _ HO8.out.bs hcap).mono ?_
    rintro e w9 ⟨rfl, hbel⟩
    obtain ⟨hr10, hb10, hs10⟩ := rows1 w9 [.int .i64 z.h, .int .i64 z.o, .string ⟨z.r.toArray⟩, .int .i64 z.l, .int .i64 z.i, .int .i64 z.g, .int .i64 z.s] 48
    have hbb := hbel.trans (hb10.mono hbel.size)
    have HB10 := hide (below_step HB8.out hbb)
    have HR10 := hide (HR8.out.on hbb)
    have HY10 := hide (HY8.out.on hbb)
    have HZ10 := hide hr10
    have HA10 := hide ((HA8.out.below hbb).more hbb.size)
    clear hbel hr10 hb10 hs10 hbb HB8 HO8 HR8 HY8 HA8 HB7 HO7 HQ7 HR7 HY7 HZ7 HA7
    have d0 : (w9.alloc (.cells #[.int .i64 z.h, .int .i64 z.o, .string ⟨z.r.toArray⟩, .int .i64 z.l, .int .i64 z.i, .int .i64 z.g, .int .i64 z.s] 48)).cell? ⟨g9, 0, none⟩ = some (.int .i64 y.h) := HY10.out.cell 0
    have d1 : (w9.alloc (.cells #[.int .i64 z.h, .int .i64 z.o, .string ⟨z.r.toArray⟩, .int .i64 z.l, .int .i64 z.i, .int .i64 z.g, .int .i64 z.s] 48)).cell? ⟨g9, 1, none⟩ = some (.int .i64 y.o) := HY10.out.cell 1
    have d2 : (w9.alloc (.cells #[.int .i64 z.h, .int .i64 z.o, .string ⟨z.r.toArray⟩, .int .i64 z.l, .int .i64 z.i, .int .i64 z.g, .int .i64 z.s] 48)).cell? ⟨g9, 2, none⟩ = some (.string ⟨y.r.toArray⟩) := HY10.out.cell 2
    have d3 : (w9.alloc (.cells #[.int .i64 z.h, .int .i64 z.o, .string ⟨z.r.toArray⟩, .int .i64 z.l, .int .i64 z.i, .int .i64 z.g, .int .i64 z.s] 48)).cell? ⟨g9, 3, none⟩ = some (.int .i64 y.l) := HY10.out.cell 3
    have d4 : (w9.alloc (.cells #[.int .i64 z.h, .int .i64 z.o, .string ⟨z.r.toArray⟩, .int .i64 z.l, .int .i64 z.i, .int .i64 z.g, .int .i64 z.s] 48)).cell? ⟨g9, 4, none⟩ = some (.int .i64 y.i) := HY10.out.cell 4
    have d5 : (w9.alloc (.cells #[.int .i64 z.h, .int .i64 z.o, .string ⟨z.r.toArray⟩, .int .i64 z.l, .int .i64 z.i, .int .i64 z.g, .int .i64 z.s] 48)).cell? ⟨g9, 5, none⟩ = some (.int .i64 y.g) := HY10.out.cell 5
    have d6 : (w9.alloc (.cells #[.int .i64 z.h, .int .i64 z.o, .string ⟨z.r.toArray⟩, .int .i64 z.l, .int .i64 z.i, .int .i64 z.g, .int .i64 z.s] 48)).cell? ⟨g9, 6, none⟩ = some (.int .i64 y.s) := HY10.out.cell 6
    have dg : g9 < (w9.alloc (.cells #[.int .i64 z.h, .int .i64 z.o, .string ⟨z.r.toArray⟩, .int .i64 z.l, .int .i64 z.i, .int .i64 z.g, .int .i64 z.s] 48)).heap.size := HY10.out.lt
    go_wp2_with fail
    generalize (w9.alloc (.cells #[.int .i64 z.h, .int .i64 z.o, .string ⟨z.r.toArray⟩, .int .i64 z.l, .int .i64 z.i, .int .i64 z.g, .int .i64 z.s] 48)) = w10 at *
    generalize w9.heap.size = g13 at *
    clear d0 d1 d2 d3 d4 d5 d6 dg
    refine (APut_c y HPB.out HKB.out _).mono ?_
    rintro e w11 ⟨A11, n11, c11, rfl, hown, hbel⟩
    have HO11 := hide hown
    have HB11 := hide (below_step HB10.out hbel)
    have HR11 := hide (HR10.out.on hbel)
    have HZ11 := hide (HZ10.out.on hbel)
    have HA11 := hide (HA10.out.below hbel)
    clear hown hbel HB10 HR10 HY10 HZ10 HA10
    go_wp2_with (go_at_call 16; (with_reducible refine (BEqual_b (b := true) _ HO11.out.bs HA11.out (by simp)).mono ?_); rintro e w' ⟨rfl, rfl⟩)
    refine (awake9_any _).mono ?_
    rintro e w12 ⟨rfl, hbel⟩
    have HB12 := hide (below_step HB11.out hbel)
    clear hbel
    go_wp2_with fail
    go_ret
    exact LawOk.of HB12.out
  · obtain rfl : k = 0 := by rw [← HK.out]; unfold errA; rw [HXR.out]; rfl
    obtain ⟨hga, hgx⟩ := got_put HXR.out
    have HGA := hide hga
    have HGX := hide hgx
    have hEZ := eq_att (x := x) (y := x) (b := true) (by simp)
    clear hga hgx
    obtain ⟨pb, hpb⟩ : ∃ b, putA y = b := ⟨_, rfl⟩
    obtain ⟨kb, hkb⟩ : ∃ b, errA y = b := ⟨_, rfl⟩
    have HPB := hide hpb
    have HKB := hide hkb
    clear hpb hkb
    refine wp_region_G (fun w' => Below w7.heap.size w7 w') (.take 0 (.take 2 (.alt 1 (.alt 3 (.take 4 (.take 5 (.take 6 (.take 7 (.alt 8 (.take 9 (.take 10 (.take 11 (.take 12 (.take 13 (.take 14 (.take 15 (.take 16 (.take 17 (.take 18 (.take 19 (.take 20 (.take 21 (.take 22 (.take 23 (.take 24 (.take 25 .leaf))))))))))))))))) .stop))))) .stop) .stop))) (by kernel_rfl) (by kernel_rfl) (by kernel_rfl) (by kernel_rfl) rfl (fun _ _ _ _ _ h => h) (below_drew (below_self w7)) (fun hHeld => ?_)
    simp only [PT.map, List.getElem?_toArray, List.getElem?_cons_succ, List.getElem?_cons_zero]
    refine wpPT_take (v := ?_) (by kernel_rfl) (fun wS hSw => ?_) ?_
    rotate_left
    · refine execOp_load (x := .tmp 2) (k := 7) (g := w.heap.size) (off := 0) (cs := [.int .i64 x.h, .int .i64 x.o, .string ⟨x.r.toArray⟩, .int .i64 x.l, .int .i64 x.i, .int .i64 x.g, .int .i64 x.s]) ?_ att_agg att_size ?_ (RowL.at0 (HR7.out.on hSw)) rfl <;> rfl
    (try simp only [Act.put, List.setIfInBounds_toArray, List.set_cons_zero, List.set_cons_succ])
    refine wpPT_take (v := ?_) (by kernel_rfl) (fun wS hSw => ?_) ?_
    rotate_left
    · refine execOp_load (x := .tmp 2) (k := 7) (g := w.heap.size) (off := 0) (cs := [.int .i64 x.h, .int .i64 x.o, .string ⟨x.r.toArray⟩, .int .i64 x.l, .int .i64 x.i, .int .i64 x.g, .int .i64 x.s]) ?_ att_agg att_size ?_ (RowL.at0 (HR7.out.on hSw)) rfl <;> rfl
    (try simp only [Act.put, List.setIfInBounds_toArray, List.set_cons_zero, List.set_cons_succ])
    refine wpPT_alt (by kernel_rfl) (fun K hK => ?_) ?_
    rotate_left
    · exact wpPT_stop
    have hOld := hide hHeld
    clear hHeld
    go_simp
    go_at_call 30
    refine (ARight_b x _ HXR.out).mono ?_
    rintro e w' ⟨rfl, hbel⟩
    refine hK.out _ _ (hOld.out.trans (hbel.mono hOld.out.size)) (fun hHeld => ?_)
    clear hK K
    (try simp only [Act.put, List.setIfInBounds_toArray, List.set_cons_zero, List.set_cons_succ])
    refine wpPT_alt (by kernel_rfl) (fun K hK => ?_) ?_
    rotate_left
    · exact wpPT_stop
    have hOld := hide hHeld
    clear hHeld
    go_simp
    go_at_call 31
    refine (RARight_b x _ HXR.out).mono ?_
    rintro e w' ⟨rfl, hbel⟩
    refine hK.out _ _ (hOld.out.trans (hbel.mono hOld.out.size)) (fun hHeld => ?_)
    clear hK K
    (try simp only [Act.put, List.setIfInBounds_toArray, List.set_cons_zero, List.set_cons_succ])
    refine wpPT_take (v := ?_) (by kernel_rfl) (fun wS hSw => ?_) ?_
    rotate_left
    · (try dsimp only at hSw); go_simp; (try with_reducible rfl)
    (try simp only [Act.put, List.setIfInBounds_toArray, List.set_cons_zero, List.set_cons_succ])
    refine wpPT_take (v := ?_) (by kernel_rfl) (fun wS hSw => ?_) ?_
    rotate_left
    · (try dsimp only at hSw); go_simp; (try with_reducible rfl)
    (try simp only [Act.put, List.setIfInBounds_toArray, List.set_cons_zero, List.set_cons_succ])
    refine wpPT_take (v := ?_) (by kernel_rfl) (fun wS hSw => ?_) ?_
    rotate_left
    · (try dsimp only at hSw); go_simp; (try with_reducible rfl)
    (try simp only [Act.put, List.setIfInBounds_toArray, List.set_cons_zero, List.set_cons_succ])
    refine wpPT_take (v := ?_) (by kernel_rfl) (fun wS hSw => ?_) ?_
    rotate_left
    · (try dsimp only at hSw); go_simp; (try with_reducible rfl)
    (try simp only [Act.put, List.setIfInBounds_toArray, List.set_cons_zero, List.set_cons_succ])
    refine wpPT_alt (by kernel_rfl) (fun K hK => ?_) ?_
    rotate_left
    · exact wpPT_stop
    have hOld := hide hHeld
    clear hHeld
    go_simp
    go_at_call 16
    refine (BEqual_b (b := true) _ (HO7.out.below hOld.out).bs (HQ7.out.below hOld.out).bs (by simp)).mono ?_
    rintro e w' ⟨rfl, rfl⟩
    refine hK.out _ _ (hOld.out) (fun hHeld => ?_)
    clear hK K
    (try simp only [Act.put, List.setIfInBounds_toArray, List.set_cons_zero, List.set_cons_succ])
    refine wpPT_take (v := ?_) (by kernel_rfl) (fun wS hSw => ?_) ?_
    rotate_left
    · (try dsimp only at hSw); go_simp; (try with_reducible rfl)
    (try simp only [Act.put, List.setIfInBounds_toArray, List.set_cons_zero, List.set_cons_succ])
    refine wpPT_take (v := ?_) (by kernel_rfl) (fun wS hSw => ?_) ?_
    rotate_left
    · (try dsimp only at hSw); go_simp; (try with_reducible rfl)
    (try simp only [Act.put, List.setIfInBounds_toArray, List.set_cons_zero, List.set_cons_succ])
    refine wpPT_take (v := ?_) (by kernel_rfl) (fun wS hSw => ?_) ?_
    rotate_left
    · (try dsimp only at hSw); go_simp; (try with_reducible rfl)
    (try simp only [Act.put, List.setIfInBounds_toArray, List.set_cons_zero, List.set_cons_succ])
    refine wpPT_take (v := ?_) (by kernel_rfl) (fun wS hSw => ?_) ?_
    rotate_left
    · (try dsimp only at hSw); go_simp; (try with_reducible rfl)
    (try simp only [Act.put, List.setIfInBounds_toArray, List.set_cons_zero, List.set_cons_succ])
    refine wpPT_take (v := ?_) (by kernel_rfl) (fun wS hSw => ?_) ?_
    rotate_left
    · (try dsimp only at hSw); go_simp; (try with_reducible rfl)
    (try simp only [Act.put, List.setIfInBounds_toArray, List.set_cons_zero, List.set_cons_succ])
    refine wpPT_take (v := ?_) (by kernel_rfl) (fun wS hSw => ?_) ?_
    rotate_left
    · (try dsimp only at hSw); go_simp; (try with_reducible rfl)
    (try simp only [Act.put, List.setIfInBounds_toArray, List.set_cons_zero, List.set_cons_succ])
    refine wpPT_take (v := ?_) (by kernel_rfl) (fun wS hSw => ?_) ?_
    rotate_left
    · (try dsimp only at hSw); go_simp; (try with_reducible rfl)
    (try simp only [Act.put, List.setIfInBounds_toArray, List.set_cons_zero, List.set_cons_succ])
    refine wpPT_take (v := ?_) (by kernel_rfl) (fun wS hSw => ?_) ?_
    rotate_left
    · (try dsimp only at hSw); go_simp; (try with_reducible rfl)
    (try simp only [Act.put, List.setIfInBounds_toArray, List.set_cons_zero, List.set_cons_succ])
    refine wpPT_take (v := ?_) (by kernel_rfl) (fun wS hSw => ?_) ?_
    rotate_left
    · refine execOp_load (x := .tmp 9) (k := 7) (g := g9) (off := 0) (cs := [.int .i64 y.h, .int .i64 y.o, .string ⟨y.r.toArray⟩, .int .i64 y.l, .int .i64 y.i, .int .i64 y.g, .int .i64 y.s]) ?_ att_agg att_size ?_ (RowL.at0 (HY7.out.on hSw)) rfl <;> rfl
    (try simp only [Act.put, List.setIfInBounds_toArray, List.set_cons_zero, List.set_cons_succ])
    refine wpPT_take (v := ?_) (by kernel_rfl) (fun wS hSw => ?_) ?_
    rotate_left
    · refine execOp_load (x := .tmp 11) (k := 7) (g := g11) (off := 0) (cs := [.int .i64 y.h, .int .i64 y.o, .string ⟨y.r.toArray⟩, .int .i64 y.l, .int .i64 y.i, .int .i64 y.g, .int .i64 y.s]) ?_ att_agg att_size ?_ (RowL.at0 (HZ7.out.on hSw)) rfl <;> rfl
    (try simp only [Act.put, List.setIfInBounds_toArray, List.set_cons_zero, List.set_cons_succ])
    refine wpPT_take (v := ?_) (by kernel_rfl) (fun wS hSw => ?_) ?_
    rotate_left
    · (try dsimp only at hSw); go_simp; (try with_reducible rfl)
    (try simp only [Act.put, List.setIfInBounds_toArray, List.set_cons_zero, List.set_cons_succ])
    refine wpPT_take (v := ?_) (by kernel_rfl) (fun wS hSw => ?_) ?_
    rotate_left
    · (try dsimp only at hSw); go_simp; (try with_reducible rfl)
    (try simp only [Act.put, List.setIfInBounds_toArray, List.set_cons_zero, List.set_cons_succ])
    refine wpPT_take (v := ?_) (by kernel_rfl) (fun wS hSw => ?_) ?_
    rotate_left
    · (try dsimp only at hSw); go_simp; (try with_reducible rfl)
    (try simp only [Act.put, List.setIfInBounds_toArray, List.set_cons_zero, List.set_cons_succ])
    refine wpPT_take (v := ?_) (by kernel_rfl) (fun wS hSw => ?_) ?_
    rotate_left
    · (try dsimp only at hSw); go_simp; (try with_reducible rfl)
    (try simp only [Act.put, List.setIfInBounds_toArray, List.set_cons_zero, List.set_cons_succ])
    refine wpPT_take (v := ?_) (by kernel_rfl) (fun wS hSw => ?_) ?_
    rotate_left
    · (try dsimp only at hSw); go_simp; (try with_reducible rfl)
    (try simp only [Act.put, List.setIfInBounds_toArray, List.set_cons_zero, List.set_cons_succ])
    refine wpPT_take (v := ?_) (by kernel_rfl) (fun wS hSw => ?_) ?_
    rotate_left
    · (try dsimp only at hSw); go_simp; (try with_reducible rfl)
    (try simp only [Act.put, List.setIfInBounds_toArray, List.set_cons_zero, List.set_cons_succ])
    refine wpPT_take (v := ?_) (by kernel_rfl) (fun wS hSw => ?_) ?_
    rotate_left
    · (try dsimp only at hSw); go_simp; (try with_reducible rfl)
    (try simp only [Act.put, List.setIfInBounds_toArray, List.set_cons_zero, List.set_cons_succ])
    refine wpPT_leaf ?_
    skip
    have HB8 := hide (HB7.out.trans (hHeld.mono HB7.out.size))
    have HO8 := hide (HO7.out.below hHeld)
    have HR8 := hide (HR7.out.on hHeld)
    have HY8 := hide (HY7.out.on hHeld)
    have HA8 := hide ((HA7.out.below hHeld).more hHeld.size)
    clear hHeld
    go_wp2_with fail
    refine (AGet_c HGX.out HGA.out _ HO8.out.bs hcap).mono ?_
    rintro e w9 ⟨rfl, hbel⟩
    obtain ⟨hr10, hb10, hs10⟩ := rows1 w9 [.int .i64 x.h, .int .i64 x.o, .string ⟨x.r.toArray⟩, .int .i64 x.l, .int .i64 x.i, .int .i64 x.g, .int .i64 x.s] 48
    have hbb := hbel.trans (hb10.mono hbel.size)
    have HB10 := hide (below_step HB8.out hbb)
    have HR10 := hide (HR8.out.on hbb)
    have HY10 := hide (HY8.out.on hbb)
    have HZ10 := hide hr10
    have HA10 := hide ((HA8.out.below hbb).more hbb.size)
    clear hbel hr10 hb10 hs10 hbb HB8 HO8 HR8 HY8 HA8 HB7 HO7 HQ7 HR7 HY7 HZ7 HA7
    have d0 : (w9.alloc (.cells #[.int .i64 x.h, .int .i64 x.o, .string ⟨x.r.toArray⟩, .int .i64 x.l, .int .i64 x.i, .int .i64 x.g, .int .i64 x.s] 48)).cell? ⟨g9, 0, none⟩ = some (.int .i64 y.h) := HY10.out.cell 0
    have d1 : (w9.alloc (.cells #[.int .i64 x.h, .int .i64 x.o, .string ⟨x.r.toArray⟩, .int .i64 x.l, .int .i64 x.i, .int .i64 x.g, .int .i64 x.s] 48)).cell? ⟨g9, 1, none⟩ = some (.int .i64 y.o) := HY10.out.cell 1
    have d2 : (w9.alloc (.cells #[.int .i64 x.h, .int .i64 x.o, .string ⟨x.r.toArray⟩, .int .i64 x.l, .int .i64 x.i, .int .i64 x.g, .int .i64 x.s] 48)).cell? ⟨g9, 2, none⟩ = some (.string ⟨y.r.toArray⟩) := HY10.out.cell 2
    have d3 : (w9.alloc (.cells #[.int .i64 x.h, .int .i64 x.o, .string ⟨x.r.toArray⟩, .int .i64 x.l, .int .i64 x.i, .int .i64 x.g, .int .i64 x.s] 48)).cell? ⟨g9, 3, none⟩ = some (.int .i64 y.l) := HY10.out.cell 3
    have d4 : (w9.alloc (.cells #[.int .i64 x.h, .int .i64 x.o, .string ⟨x.r.toArray⟩, .int .i64 x.l, .int .i64 x.i, .int .i64 x.g, .int .i64 x.s] 48)).cell? ⟨g9, 4, none⟩ = some (.int .i64 y.i) := HY10.out.cell 4
    have d5 : (w9.alloc (.cells #[.int .i64 x.h, .int .i64 x.o, .string ⟨x.r.toArray⟩, .int .i64 x.l, .int .i64 x.i, .int .i64 x.g, .int .i64 x.s] 48)).cell? ⟨g9, 5, none⟩ = some (.int .i64 y.g) := HY10.out.cell 5
    have d6 : (w9.alloc (.cells #[.int .i64 x.h, .int .i64 x.o, .string ⟨x.r.toArray⟩, .int .i64 x.l, .int .i64 x.i, .int .i64 x.g, .int .i64 x.s] 48)).cell? ⟨g9, 6, none⟩ = some (.int .i64 y.s) := HY10.out.cell 6
    have dg : g9 < (w9.alloc (.cells #[.int .i64 x.h, .int .i64 x.o, .string ⟨x.r.toArray⟩, .int .i64 x.l, .int .i64 x.i, .int .i64 x.g, .int .i64 x.s] 48)).heap.size := HY10.out.lt
    go_wp2_with fail
    generalize (w9.alloc (.cells #[.int .i64 x.h, .int .i64 x.o, .string ⟨x.r.toArray⟩, .int .i64 x.l, .int .i64 x.i, .int .i64 x.g, .int .i64 x.s] 48)) = w10 at *
    generalize w9.heap.size = g13 at *
    clear d0 d1 d2 d3 d4 d5 d6 dg
    refine (APut_c y HPB.out HKB.out _).mono ?_
    rintro e w11 ⟨A11, n11, c11, rfl, hown, hbel⟩
    have HO11 := hide hown
    have HB11 := hide (below_step HB10.out hbel)
    have HR11 := hide (HR10.out.on hbel)
    have HZ11 := hide (HZ10.out.on hbel)
    have HA11 := hide (HA10.out.below hbel)
    clear hown hbel HB10 HR10 HY10 HZ10 HA10
    have c0 : w11.cell? ⟨w.heap.size, 0, none⟩ = some (.int .i64 x.h) := HR11.out.cell 0
    have c1 : w11.cell? ⟨w.heap.size, 1, none⟩ = some (.int .i64 x.o) := HR11.out.cell 1
    have c2 : w11.cell? ⟨w.heap.size, 2, none⟩ = some (.string ⟨x.r.toArray⟩) := HR11.out.cell 2
    have c3 : w11.cell? ⟨w.heap.size, 3, none⟩ = some (.int .i64 x.l) := HR11.out.cell 3
    have c4 : w11.cell? ⟨w.heap.size, 4, none⟩ = some (.int .i64 x.i) := HR11.out.cell 4
    have c5 : w11.cell? ⟨w.heap.size, 5, none⟩ = some (.int .i64 x.g) := HR11.out.cell 5
    have c6 : w11.cell? ⟨w.heap.size, 6, none⟩ = some (.int .i64 x.s) := HR11.out.cell 6
    have cg : w.heap.size < w11.heap.size := HR11.out.lt
    have d0 : w11.cell? ⟨g13, 0, none⟩ = some (.int .i64 x.h) := HZ11.out.cell 0
    have d1 : w11.cell? ⟨g13, 1, none⟩ = some (.int .i64 x.o) := HZ11.out.cell 1
    have d2 : w11.cell? ⟨g13, 2, none⟩ = some (.string ⟨x.r.toArray⟩) := HZ11.out.cell 2
    have d3 : w11.cell? ⟨g13, 3, none⟩ = some (.int .i64 x.l) := HZ11.out.cell 3
    have d4 : w11.cell? ⟨g13, 4, none⟩ = some (.int .i64 x.i) := HZ11.out.cell 4
    have d5 : w11.cell? ⟨g13, 5, none⟩ = some (.int .i64 x.g) := HZ11.out.cell 5
    have d6 : w11.cell? ⟨g13, 6, none⟩ = some (.int .i64 x.s) := HZ11.out.cell 6
    have dg : g13 < w11.heap.size := HZ11.out.lt
    go_wp2_with fail
    refine (awake9_any _).mono ?_
    rintro e w12 ⟨rfl, hbel⟩
    have HB12 := hide (below_step HB11.out hbel)
    clear hbel
    go_wp2_with fail
    go_ret
    exact LawOk.of HB12.out
  · obtain rfl : k = 0 := by rw [← HK.out]; unfold errA; rw [HXR.out]; rfl
    obtain ⟨hga, hgx⟩ := got_put HXR.out
    have HGA := hide hga
    have HGX := hide hgx
    have hEZ := eq_att (x := x) (y := x) (b := true) (by simp)
    clear hga hgx
    have hpb : putA y = l := by rw [← HY.out]; exact (put_back HOK.out).1
    have hkb : errA y = 0 := by rw [← HY.out]; exact (put_back HOK.out).2
    have HPB := hide hpb
    have HKB := hide hkb
    clear hpb hkb
    refine wp_region_G (fun w' => Below w7.heap.size w7 w') (.take 0 (.take 2 (.alt 1 (.alt 3 (.take 4 (.take 5 (.take 6 (.take 7 (.alt 8 (.take 9 (.take 10 (.take 11 (.take 12 (.take 13 (.take 14 (.take 15 (.take 16 (.take 17 (.take 18 (.take 19 (.take 20 (.take 21 (.take 22 (.take 23 (.take 24 (.take 25 .leaf))))))))))))))))) .stop))))) .stop) .stop))) (by kernel_rfl) (by kernel_rfl) (by kernel_rfl) (by kernel_rfl) rfl (fun _ _ _ _ _ h => h) (below_drew (below_self w7)) (fun hHeld => ?_)
    simp only [PT.map, List.getElem?_toArray, List.getElem?_cons_succ, List.getElem?_cons_zero]
    refine wpPT_take (v := ?_) (by kernel_rfl) (fun wS hSw => ?_) ?_
    rotate_left
    · refine execOp_load (x := .tmp 2) (k := 7) (g := w.heap.size) (off := 0) (cs := [.int .i64 x.h, .int .i64 x.o, .string ⟨x.r.toArray⟩, .int .i64 x.l, .int .i64 x.i, .int .i64 x.g, .int .i64 x.s]) ?_ att_agg att_size ?_ (RowL.at0 (HR7.out.on hSw)) rfl <;> rfl
    (try simp only [Act.put, List.setIfInBounds_toArray, List.set_cons_zero, List.set_cons_succ])
    refine wpPT_take (v := ?_) (by kernel_rfl) (fun wS hSw => ?_) ?_
    rotate_left
    · refine execOp_load (x := .tmp 2) (k := 7) (g := w.heap.size) (off := 0) (cs := [.int .i64 x.h, .int .i64 x.o, .string ⟨x.r.toArray⟩, .int .i64 x.l, .int .i64 x.i, .int .i64 x.g, .int .i64 x.s]) ?_ att_agg att_size ?_ (RowL.at0 (HR7.out.on hSw)) rfl <;> rfl
    (try simp only [Act.put, List.setIfInBounds_toArray, List.set_cons_zero, List.set_cons_succ])
    refine wpPT_alt (by kernel_rfl) (fun K hK => ?_) ?_
    rotate_left
    · exact wpPT_stop
    have hOld := hide hHeld
    clear hHeld
    go_simp
    go_at_call 30
    refine (ARight_b x _ HXR.out).mono ?_
    rintro e w' ⟨rfl, hbel⟩
    refine hK.out _ _ (hOld.out.trans (hbel.mono hOld.out.size)) (fun hHeld => ?_)
    clear hK K
    (try simp only [Act.put, List.setIfInBounds_toArray, List.set_cons_zero, List.set_cons_succ])
    refine wpPT_alt (by kernel_rfl) (fun K hK => ?_) ?_
    rotate_left
    · exact wpPT_stop
    have hOld := hide hHeld
    clear hHeld
    go_simp
    go_at_call 31
    refine (RARight_b x _ HXR.out).mono ?_
    rintro e w' ⟨rfl, hbel⟩
    refine hK.out _ _ (hOld.out.trans (hbel.mono hOld.out.size)) (fun hHeld => ?_)
    clear hK K
    (try simp only [Act.put, List.setIfInBounds_toArray, List.set_cons_zero, List.set_cons_succ])
    refine wpPT_take (v := ?_) (by kernel_rfl) (fun wS hSw => ?_) ?_
    rotate_left
    · (try dsimp only at hSw); go_simp; (try with_reducible rfl)
    (try simp only [Act.put, List.setIfInBounds_toArray, List.set_cons_zero, List.set_cons_succ])
    refine wpPT_take (v := ?_) (by kernel_rfl) (fun wS hSw => ?_) ?_
    rotate_left
    · (try dsimp only at hSw); go_simp; (try with_reducible rfl)
    (try simp only [Act.put, List.setIfInBounds_toArray, List.set_cons_zero, List.set_cons_succ])
    refine wpPT_take (v := ?_) (by kernel_rfl) (fun wS hSw => ?_) ?_
    rotate_left
    · (try dsimp only at hSw); go_simp; (try with_reducible rfl)
    (try simp only [Act.put, List.setIfInBounds_toArray, List.set_cons_zero, List.set_cons_succ])
    refine wpPT_take (v := ?_) (by kernel_rfl) (fun wS hSw => ?_) ?_
    rotate_left
    · (try dsimp only at hSw); go_simp; (try with_reducible rfl)
    (try simp only [Act.put, List.setIfInBounds_toArray, List.set_cons_zero, List.set_cons_succ])
    refine wpPT_alt (by kernel_rfl) (fun K hK => ?_) ?_
    rotate_left
    · exact wpPT_stop
    have hOld := hide hHeld
    clear hHeld
    go_simp
    go_at_call 16
    refine (BEqual_b (b := true) _ (HO7.out.below hOld.out).bs (HQ7.out.below hOld.out).bs (by simp)).mono ?_
    rintro e w' ⟨rfl, rfl⟩
    refine hK.out _ _ (hOld.out) (fun hHeld => ?_)
    clear hK K
    (try simp only [Act.put, List.setIfInBounds_toArray, List.set_cons_zero, List.set_cons_succ])
    refine wpPT_take (v := ?_) (by kernel_rfl) (fun wS hSw => ?_) ?_
    rotate_left
    · (try dsimp only at hSw); go_simp; (try with_reducible rfl)
    (try simp only [Act.put, List.setIfInBounds_toArray, List.set_cons_zero, List.set_cons_succ])
    refine wpPT_take (v := ?_) (by kernel_rfl) (fun wS hSw => ?_) ?_
    rotate_left
    · (try dsimp only at hSw); go_simp; (try with_reducible rfl)
    (try simp only [Act.put, List.setIfInBounds_toArray, List.set_cons_zero, List.set_cons_succ])
    refine wpPT_take (v := ?_) (by kernel_rfl) (fun wS hSw => ?_) ?_
    rotate_left
    · (try dsimp only at hSw); go_simp; (try with_reducible rfl)
    (try simp only [Act.put, List.setIfInBounds_toArray, List.set_cons_zero, List.set_cons_succ])
    refine wpPT_take (v := ?_) (by kernel_rfl) (fun wS hSw => ?_) ?_
    rotate_left
    · (try dsimp only at hSw); go_simp; (try with_reducible rfl)
    (try simp only [Act.put, List.setIfInBounds_toArray, List.set_cons_zero, List.set_cons_succ])
    refine wpPT_take (v := ?_) (by kernel_rfl) (fun wS hSw => ?_) ?_
    rotate_left
    · (try dsimp only at hSw); go_simp; (try with_reducible rfl)
    (try simp only [Act.put, List.setIfInBounds_toArray, List.set_cons_zero, List.set_cons_succ])
    refine wpPT_take (v := ?_) (by kernel_rfl) (fun wS hSw => ?_) ?_
    rotate_left
    · (try dsimp only at hSw); go_simp; (try with_reducible rfl)
    (try simp only [Act.put, List.setIfInBounds_toArray, List.set_cons_zero, List.set_cons_succ])
    refine wpPT_take (v := ?_) (by kernel_rfl) (fun wS hSw => ?_) ?_
    rotate_left
    · (try dsimp only at hSw); go_simp; (try with_reducible rfl)
    (try simp only [Act.put, List.setIfInBounds_toArray, List.set_cons_zero, List.set_cons_succ])
    refine wpPT_take (v := ?_) (by kernel_rfl) (fun wS hSw => ?_) ?_
    rotate_left
    · (try dsimp only at hSw); go_simp; (try with_reducible rfl)
    (try simp only [Act.put, List.setIfInBounds_toArray, List.set_cons_zero, List.set_cons_succ])
    refine wpPT_take (v := ?_) (by kernel_rfl) (fun wS hSw => ?_) ?_
    rotate_left
    · refine execOp_load (x := .tmp 9) (k := 7) (g := g9) (off := 0) (cs := [.int .i64 y.h, .int .i64 y.o, .string ⟨y.r.toArray⟩, .int .i64 y.l, .int .i64 y.i, .int .i64 y.g, .int .i64 y.s]) ?_ att_agg att_size ?_ (RowL.at0 (HY7.out.on hSw)) rfl <;> rfl
    (try simp only [Act.put, List.setIfInBounds_toArray, List.set_cons_zero, List.set_cons_succ])
    refine wpPT_take (v := ?_) (by kernel_rfl) (fun wS hSw => ?_) ?_
    rotate_left
    · refine execOp_load (x := .tmp 11) (k := 7) (g := g11) (off := 0) (cs := [.int .i64 y.h, .int .i64 y.o, .string ⟨y.r.toArray⟩, .int .i64 y.l, .int .i64 y.i, .int .i64 y.g, .int .i64 y.s]) ?_ att_agg att_size ?_ (RowL.at0 (HZ7.out.on hSw)) rfl <;> rfl
    (try simp only [Act.put, List.setIfInBounds_toArray, List.set_cons_zero, List.set_cons_succ])
    refine wpPT_take (v := ?_) (by kernel_rfl) (fun wS hSw => ?_) ?_
    rotate_left
    · (try dsimp only at hSw); go_simp; (try with_reducible rfl)
    (try simp only [Act.put, List.setIfInBounds_toArray, List.set_cons_zero, List.set_cons_succ])
    refine wpPT_take (v := ?_) (by kernel_rfl) (fun wS hSw => ?_) ?_
    rotate_left
    · (try dsimp only at hSw); go_simp; (try with_reducible rfl)
    (try simp only [Act.put, List.setIfInBounds_toArray, List.set_cons_zero, List.set_cons_succ])
    refine wpPT_take (v := ?_) (by kernel_rfl) (fun wS hSw => ?_) ?_
    rotate_left
    · (try dsimp only at hSw); go_simp; (try with_reducible rfl)
    (try simp only [Act.put, List.setIfInBounds_toArray, List.set_cons_zero, List.set_cons_succ])
    refine wpPT_take (v := ?_) (by kernel_rfl) (fun wS hSw => ?_) ?_
    rotate_left
    · (try dsimp only at hSw); go_simp; (try with_reducible rfl)
    (try simp only [Act.put, List.setIfInBounds_toArray, List.set_cons_zero, List.set_cons_succ])
    refine wpPT_take (v := ?_) (by kernel_rfl) (fun wS hSw => ?_) ?_
    rotate_left
    · (try dsimp only at hSw); go_simp; (try with_reducible rfl)
    (try simp only [Act.put, List.setIfInBounds_toArray, List.set_cons_zero, List.set_cons_succ])
    refine wpPT_take (v := ?_) (by kernel_rfl) (fun wS hSw => ?_) ?_
    rotate_left
    · (try dsimp only at hSw); go_simp; (try with_reducible rfl)
    (try simp only [Act.put, List.setIfInBounds_toArray, List.set_cons_zero, List.set_cons_succ])
    refine wpPT_take (v := ?_) (by kernel_rfl) (fun wS hSw => ?_) ?_
    rotate_left
    · (try dsimp only at hSw); go_simp; (try with_reducible rfl)
    (try simp only [Act.put, List.setIfInBounds_toArray, List.set_cons_zero, List.set_cons_succ])
    refine wpPT_leaf ?_
    skip
    have HB8 := hide (HB7.out.trans (hHeld.mono HB7.out.size))
    have HO8 := hide (HO7.out.below hHeld)
    have HR8 := hide (HR7.out.on hHeld)
    have HY8 := hide (HY7.out.on hHeld)
    have HA8 := hide ((HA7.out.below hHeld).more hHeld.size)
    clear hHeld
    go_wp2_with fail
    refine (AGet_c HGX.out HGA.out _ HO8.out.bs hcap).mono ?_
    rintro e w9 ⟨rfl, hbel⟩
    obtain ⟨hr10, hb10, hs10⟩ := rows1 w9 [.int .i64 x.h, .int .i64 x.o, .string ⟨x.r.toArray⟩, .int .i64 x.l, .int .i64 x.i, .int .i64 x.g, .int .i64 x.s] 48
    have hbb := hbel.trans (hb10.mono hbel.size)
    have HB10 := hide (below_step HB8.out hbb)
    have HR10 := hide (HR8.out.on hbb)
    have HY10 := hide (HY8.out.on hbb)
    have HZ10 := hide hr10
    have HA10 := hide ((HA8.out.below hbb).more hbb.size)
    clear hbel hr10 hb10 hs10 hbb HB8 HO8 HR8 HY8 HA8 HB7 HO7 HQ7 HR7 HY7 HZ7 HA7
    have d0 : (w9.alloc (.cells #[.int .i64 x.h, .int .i64 x.o, .string ⟨x.r.toArray⟩, .int .i64 x.l, .int .i64 x.i, .int .i64 x.g, .int .i64 x.s] 48)).cell? ⟨g9, 0, none⟩ = some (.int .i64 y.h) := HY10.out.cell 0
    have d1 : (w9.alloc (.cells #[.int .i64 x.h, .int .i64 x.o, .string ⟨x.r.toArray⟩, .int .i64 x.l, .int .i64 x.i, .int .i64 x.g, .int .i64 x.s] 48)).cell? ⟨g9, 1, none⟩ = some (.int .i64 y.o) := HY10.out.cell 1
    have d2 : (w9.alloc (.cells #[.int .i64 x.h, .int .i64 x.o, .string ⟨x.r.toArray⟩, .int .i64 x.l, .int .i64 x.i, .int .i64 x.g, .int .i64 x.s] 48)).cell? ⟨g9, 2, none⟩ = some (.string ⟨y.r.toArray⟩) := HY10.out.cell 2
    have d3 : (w9.alloc (.cells #[.int .i64 x.h, .int .i64 x.o, .string ⟨x.r.toArray⟩, .int .i64 x.l, .int .i64 x.i, .int .i64 x.g, .int .i64 x.s] 48)).cell? ⟨g9, 3, none⟩ = some (.int .i64 y.l) := HY10.out.cell 3
    have d4 : (w9.alloc (.cells #[.int .i64 x.h, .int .i64 x.o, .string ⟨x.r.toArray⟩, .int .i64 x.l, .int .i64 x.i, .int .i64 x.g, .int .i64 x.s] 48)).cell? ⟨g9, 4, none⟩ = some (.int .i64 y.i) := HY10.out.cell 4
    have d5 : (w9.alloc (.cells #[.int .i64 x.h, .int .i64 x.o, .string ⟨x.r.toArray⟩, .int .i64 x.l, .int .i64 x.i, .int .i64 x.g, .int .i64 x.s] 48)).cell? ⟨g9, 5, none⟩ = some (.int .i64 y.g) := HY10.out.cell 5
    have d6 : (w9.alloc (.cells #[.int .i64 x.h, .int .i64 x.o, .string ⟨x.r.toArray⟩, .int .i64 x.l, .int .i64 x.i, .int .i64 x.g, .int .i64 x.s] 48)).cell? ⟨g9, 6, none⟩ = some (.int .i64 y.s) := HY10.out.cell 6
    have dg : g9 < (w9.alloc (.cells #[.int .i64 x.h, .int .i64 x.o, .string ⟨x.r.toArray⟩, .int .i64 x.l, .int .i64 x.i, .int .i64 x.g, .int .i64 x.s] 48)).heap.size := HY10.out.lt
    go_wp2_with fail
    generalize (w9.alloc (.cells #[.int .i64 x.h, .int .i64 x.o, .string ⟨x.r.toArray⟩, .int .i64 x.l, .int .i64 x.i, .int .i64 x.g, .int .i64 x.s] 48)) = w10 at *
    generalize w9.heap.size = g13 at *
    clear d0 d1 d2 d3 d4 d5 d6 dg
    refine (APut_c y HPB.out HKB.out _).mono ?_
    rintro e w11 ⟨A11, n11, c11, rfl, hown, hbel⟩
    have HO11 := hide hown
    have HB11 := hide (below_step HB10.out hbel)
    have HR11 := hide (HR10.out.on hbel)
    have HZ11 := hide (HZ10.out.on hbel)
    have HA11 := hide (HA10.out.below hbel)
    clear hown hbel HB10 HR10 HY10 HZ10 HA10
    have c0 : w11.cell? ⟨w.heap.size, 0, none⟩ = some (.int .i64 x.h) := HR11.out.cell 0
    have c1 : w11.cell? ⟨w.heap.size, 1, none⟩ = some (.int .i64 x.o) := HR11.out.cell 1
    have c2 : w11.cell? ⟨w.heap.size, 2, none⟩ = some (.string ⟨x.r.toArray⟩) := HR11.out.cell 2
    have c3 : w11.cell? ⟨w.heap.size, 3, none⟩ = some (.int .i64 x.l) := HR11.out.cell 3
    have c4 : w11.cell? ⟨w.heap.size, 4, none⟩ = some (.int .i64 x.i) := HR11.out.cell 4
    have c5 : w11.cell? ⟨w.heap.size, 5, none⟩ = some (.int .i64 x.g) := HR11.out.cell 5
    have c6 : w11.cell? ⟨w.heap.size, 6, none⟩ = some (.int .i64 x.s) := HR11.out.cell 6
    have cg : w.heap.size < w11.heap.size := HR11.out.lt
    have d0 : w11.cell? ⟨g13, 0, none⟩ = some (.int .i64 x.h) := HZ11.out.cell 0
    have d1 : w11.cell? ⟨g13, 1, none⟩ = some (.int .i64 x.o) := HZ11.out.cell 1
    have d2 : w11.cell? ⟨g13, 2, none⟩ = some (.string ⟨x.r.toArray⟩) := HZ11.out.cell 2
    have d3 : w11.cell? ⟨g13, 3, none⟩ = some (.int .i64 x.l) := HZ11.out.cell 3
    have d4 : w11.cell? ⟨g13, 4, none⟩ = some (.int .i64 x.i) := HZ11.out.cell 4
    have d5 : w11.cell? ⟨g13, 5, none⟩ = some (.int .i64 x.g) := HZ11.out.cell 5
    have d6 : w11.cell? ⟨g13, 6, none⟩ = some (.int .i64 x.s) := HZ11.out.cell 6
    have dg : g13 < w11.heap.size := HZ11.out.lt
    go_wp2_with (go_at_call 16; (with_reducible refine (BEqual_b (b := true) _ HO11.out.bs HA11.out (by simp)).mono ?_); rintro e w' ⟨rfl, rfl⟩)
    refine (awake9_any _).mono ?_
    rintro e w12 ⟨rfl, hbel⟩
    have HB12 := hide (below_step HB11.out hbel)
    clear hbel
    go_wp2_with fail
    go_ret
    exact LawOk.of HB12.out
end Go.Proofs.Ythjjjeolpdekoaa
