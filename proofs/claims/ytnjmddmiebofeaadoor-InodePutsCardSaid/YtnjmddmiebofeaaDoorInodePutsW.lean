/- The walk of the law InodePuts: it is true for any inode. -/
import Derived.Test.YtnjmddmiebofeaaDoorInoJ
import Derived.Test.YtnjmddmiebofeaaDoorPlanG
namespace Go.Proofs.YtnjmddmiebofeaaDoor
open Go.RowKit Plain

set_option maxRecDepth 100000 in
set_option maxHeartbeats 3200000 in
theorem law_InodePuts (x : InoV) (w : World) (hs : SzW w) : Calls Tryd.prog 3 #[.agg #[.int .i64 x.k, .int .i64 x.i, .int .i64 x.n, .int .i64 x.g, .int .i64 x.s, .int .i64 x.p, .int .i64 x.q, .int .i64 x.r, .int .i64 x.t, .int .i64 x.a]] w (LawOk w) := by
  obtain ⟨hr1, hb, hsz⟩ := rows1 w [.int .i64 x.k, .int .i64 x.i, .int .i64 x.n, .int .i64 x.g, .int .i64 x.s, .int .i64 x.p, .int .i64 x.q, .int .i64 x.r, .int .i64 x.t, .int .i64 x.a] 24
  have HR1 := hide hr1
  have HB1 := hide hb
  have HS1 := hide (hs.below hb)
  have hq := eq_self x
  have hqf := eq_self fr0
  simp only [fr0] at hqf
  clear hr1 hb hsz hs
  go_enter Tryd.func3, Tryd.ntmps3
  go_wp2_with fail
  refine (IPut_any x _ HS1.out).mono ?_
  rintro e w2 ⟨A2, n2, c2, rfl, hown, hbel⟩
  have HP2 := hide hown.bs
  have hc2 : n2 ≤ c2 := hown.cap
  have hn2 : (putI x).length = n2 := hown.len
  have hn64 : n2 ≤ 64 := by
    rw [← hn2]
    cases hr : rightI x with
    | false => unfold putI; rw [hr]; simp
    | true => rw [putI_len x hr]; exact Nat.le_refl _
  have HN2 := hide hn2
  have HB2 := hide (below_step HB1.out hbel)
  have HR2 := hide (HR1.out.on hbel)
  have HS2 := hide (HS1.out.below hbel)
  have z0 : w2.cell? ⟨w.heap.size, 0, none⟩ = some (.int .i64 x.k) := HR2.out.cell 0
  have z1 : w2.cell? ⟨w.heap.size, 1, none⟩ = some (.int .i64 x.i) := HR2.out.cell 1
  have z2 : w2.cell? ⟨w.heap.size, 2, none⟩ = some (.int .i64 x.n) := HR2.out.cell 2
  have z3 : w2.cell? ⟨w.heap.size, 3, none⟩ = some (.int .i64 x.g) := HR2.out.cell 3
  have z4 : w2.cell? ⟨w.heap.size, 4, none⟩ = some (.int .i64 x.s) := HR2.out.cell 4
  have z5 : w2.cell? ⟨w.heap.size, 5, none⟩ = some (.int .i64 x.p) := HR2.out.cell 5
  have z6 : w2.cell? ⟨w.heap.size, 6, none⟩ = some (.int .i64 x.q) := HR2.out.cell 6
  have z7 : w2.cell? ⟨w.heap.size, 7, none⟩ = some (.int .i64 x.r) := HR2.out.cell 7
  have z8 : w2.cell? ⟨w.heap.size, 8, none⟩ = some (.int .i64 x.t) := HR2.out.cell 8
  have z9 : w2.cell? ⟨w.heap.size, 9, none⟩ = some (.int .i64 x.a) := HR2.out.cell 9
  have hg2 : w.heap.size < w2.heap.size := HR2.out.lt
  clear hown hbel HB1 HR1 HS1 hn2
  obtain ⟨rr, hr⟩ : ∃ rr, rightI x = rr := ⟨_, rfl⟩
  have hrr : (rr != rr) = false := by simp
  have HR := hide hr
  obtain ⟨ee, he⟩ : ∃ ee, errI x = ee := ⟨_, rfl⟩
  have hee : (ee != ee) = false := by simp
  have HE := hide he
  rw [he]
  clear hr he
  go_wp2_with fail
  refine (RIPut_any x _).mono ?_
  rintro e w3 ⟨A3, n3, c3, rfl, hown, hbel⟩
  rw [HE.out]
  obtain rfl : n2 = n3 := by rw [← hown.len, HN2.out]
  have HQ3 := hide hown.bs
  have HB3 := hide (below_step HB2.out hbel)
  have HR3 := hide (HR2.out.on hbel)
  have HS3 := hide (HS2.out.below hbel)
  have HP3 := hide ((HP2.out.below hbel).more hbel.size)
  clear hown hbel HB2 HR2 HS2 HP2 hg2 z0 z1 z2 z3 z4 z5 z6 z7 z8 z9
  go_wp2_with fail
  refine wp_region_G (fun w' => Below w3.heap.size w3 w' ∧ RowL w' w.heap.size 24 [.int .i64 x.k, .int .i64 x.i, .int .i64 x.n, .int .i64 x.g, .int .i64 x.s, .int .i64 x.p, .int .i64 x.q, .int .i64 x.r, .int .i64 x.t, .int .i64 x.a]) (.take 0 (.take 2 (.alt 1 (.alt 3 (.take 4 (.take 5 (.take 6 (.take 7 (.alt 8 (.take 9 (.take 10 (.take 11 (.take 12 (.take 13 (.take 14 (.take 15 .leaf))))))) .stop))))) .stop) .stop))) (by kernel_rfl) (by kernel_rfl) (by kernel_rfl) (by kernel_rfl) rfl (fun _ _ _ _ _ h => h) ⟨below_drew (below_self w3), HR3.out.drew⟩ (fun hHeld => ?_)
  simp only [PT.map, List.getElem?_toArray, List.getElem?_cons_succ, List.getElem?_cons_zero]
  refine wpPT_take (v := ?_) (by kernel_rfl) (fun wS hSw => ?_) ?_
  rotate_left
  · have hcs := fun i => hSw.2.cell i; have d0 := hcs 0; have d1 := hcs 1; have d2 := hcs 2; have d3 := hcs 3; have d4 := hcs 4; have d5 := hcs 5; have d6 := hcs 6; have d7 := hcs 7; have d8 := hcs 8; have d9 := hcs 9; simp only [List.getElem?_cons_succ, List.getElem?_cons_zero] at d0 d1 d2 d3 d4 d5 d6 d7 d8 d9; clear hcs; go_simp; (try with_reducible rfl)
  (try simp only [Act.put, List.setIfInBounds_toArray, List.set_cons_zero, List.set_cons_succ])
  refine wpPT_take (v := ?_) (by kernel_rfl) (fun wS hSw => ?_) ?_
  rotate_left
  · have hcs := fun i => hSw.2.cell i; have d0 := hcs 0; have d1 := hcs 1; have d2 := hcs 2; have d3 := hcs 3; have d4 := hcs 4; have d5 := hcs 5; have d6 := hcs 6; have d7 := hcs 7; have d8 := hcs 8; have d9 := hcs 9; simp only [List.getElem?_cons_succ, List.getElem?_cons_zero] at d0 d1 d2 d3 d4 d5 d6 d7 d8 d9; clear hcs; go_simp; (try with_reducible rfl)
  (try simp only [Act.put, List.setIfInBounds_toArray, List.set_cons_zero, List.set_cons_succ])
  refine wpPT_alt (by kernel_rfl) (fun K hK => ?_) ?_
  rotate_left
  · exact wpPT_stop
  have hOld := hide hHeld
  clear hHeld
  go_simp
  go_at_call 7
  refine (IRight_any x _).mono ?_
  rintro e w' ⟨rfl, hbel⟩
  rw [HR.out]
  refine hK.out _ _ (⟨below_step hOld.out.1 hbel, hOld.out.2.on hbel⟩) (fun hHeld => ?_)
  clear hK K
  (try simp only [Act.put, List.setIfInBounds_toArray, List.set_cons_zero, List.set_cons_succ])
  refine wpPT_alt (by kernel_rfl) (fun K hK => ?_) ?_
  rotate_left
  · exact wpPT_stop
  have hOld := hide hHeld
  clear hHeld
  go_simp
  go_at_call 8
  refine (RIRight_any x _).mono ?_
  rintro e w' ⟨rfl, hbel⟩
  rw [HR.out]
  refine hK.out _ _ (⟨below_step hOld.out.1 hbel, hOld.out.2.on hbel⟩) (fun hHeld => ?_)
  clear hK K
  (try simp only [Act.put, List.setIfInBounds_toArray, List.set_cons_zero, List.set_cons_succ])
  refine wpPT_take (v := ?_) (by kernel_rfl) (fun wS hSw => ?_) ?_
  rotate_left
  · (try dsimp only at hSw); go_simp; (try with_reducible rfl)
  (try simp only [Act.put, List.setIfInBounds_toArray, List.set_cons_zero, List.set_cons_succ])
  refine wpPT_take (v := ?_) (by kernel_rfl) (fun wS hSw => ?_) ?_
  rotate_left
  · (try dsimp only at hSw); go_simp; (try with_reducible rfl)
  (try simp only [Act.put, List.setIfInBounds_toArray, List.set_cons_zero, List.set_cons_succ])
  refine wpPT_take (v := ?_) (by kernel_rfl) (fun wS hSw => ?_) ?_
  rotate_left
  · (try dsimp only at hSw); go_simp; (try with_reducible rfl)
  (try simp only [Act.put, List.setIfInBounds_toArray, List.set_cons_zero, List.set_cons_succ])
  refine wpPT_take (v := ?_) (by kernel_rfl) (fun wS hSw => ?_) ?_
  rotate_left
  · (try dsimp only at hSw); go_simp; (try with_reducible rfl)
  (try simp only [Act.put, List.setIfInBounds_toArray, List.set_cons_zero, List.set_cons_succ])
  refine wpPT_alt (by kernel_rfl) (fun K hK => ?_) ?_
  rotate_left
  · exact wpPT_stop
  have hOld := hide hHeld
  clear hHeld
  go_simp
  go_at_call 9
  refine (Equal_any _ (HP3.out.below hOld.out.1) (HQ3.out.below hOld.out.1)).mono ?_
  rintro e w' ⟨rfl, rfl⟩
  rw [beq_self_eq_true]
  refine hK.out _ _ (hOld.out) (fun hHeld => ?_)
  clear hK K
  (try simp only [Act.put, List.setIfInBounds_toArray, List.set_cons_zero, List.set_cons_succ])
  refine wpPT_take (v := ?_) (by kernel_rfl) (fun wS hSw => ?_) ?_
  rotate_left
  · (try dsimp only at hSw); go_simp; (try with_reducible rfl)
  (try simp only [Act.put, List.setIfInBounds_toArray, List.set_cons_zero, List.set_cons_succ])
  refine wpPT_take (v := ?_) (by kernel_rfl) (fun wS hSw => ?_) ?_
  rotate_left
  · (try dsimp only at hSw); go_simp; (try with_reducible rfl)
  (try simp only [Act.put, List.setIfInBounds_toArray, List.set_cons_zero, List.set_cons_succ])
  refine wpPT_take (v := ?_) (by kernel_rfl) (fun wS hSw => ?_) ?_
  rotate_left
  · (try dsimp only at hSw); go_simp; (try with_reducible rfl)
  (try simp only [Act.put, List.setIfInBounds_toArray, List.set_cons_zero, List.set_cons_succ])
  refine wpPT_take (v := ?_) (by kernel_rfl) (fun wS hSw => ?_) ?_
  rotate_left
  · (try dsimp only at hSw); go_simp; (try with_reducible rfl)
  (try simp only [Act.put, List.setIfInBounds_toArray, List.set_cons_zero, List.set_cons_succ])
  refine wpPT_take (v := ?_) (by kernel_rfl) (fun wS hSw => ?_) ?_
  rotate_left
  · (try dsimp only at hSw); go_simp; (try with_reducible rfl)
  (try simp only [Act.put, List.setIfInBounds_toArray, List.set_cons_zero, List.set_cons_succ])
  refine wpPT_take (v := ?_) (by kernel_rfl) (fun wS hSw => ?_) ?_
  rotate_left
  · (try dsimp only at hSw); go_simp; (try with_reducible rfl)
  (try simp only [Act.put, List.setIfInBounds_toArray, List.set_cons_zero, List.set_cons_succ])
  refine wpPT_take (v := ?_) (by kernel_rfl) (fun wS hSw => ?_) ?_
  rotate_left
  · (try dsimp only at hSw); go_simp; (try with_reducible rfl)
  (try simp only [Act.put, List.setIfInBounds_toArray, List.set_cons_zero, List.set_cons_succ])
  refine wpPT_leaf ?_
  have HH := hide hHeld
  clear hHeld
  go_wp2_with fail
  refine (IGet_any _ ((HP3.out.below HH.out.1).more HH.out.1.size) hc2 (by omega) (HS3.out.below HH.out.1)).mono ?_
  rintro e w6 ⟨rfl, hbel⟩
  obtain ⟨y, hy⟩ : ∃ y, gotI (putI x) = y := ⟨_, rfl⟩
  obtain ⟨ok, hok⟩ : ∃ ok, gotB (putI x) = ok := ⟨_, rfl⟩
  rw [hy, hok]
  have HY := hide hy
  have HOK := hide hok
  obtain ⟨hr7, hb7, hs7⟩ := rows1 w6 [.int .i64 y.k, .int .i64 y.i, .int .i64 y.n, .int .i64 y.g, .int .i64 y.s, .int .i64 y.p, .int .i64 y.q, .int .i64 y.r, .int .i64 y.t, .int .i64 y.a] 24
  have HB7 := hide (below_step (below_step (below_step HB3.out HH.out.1) hbel) hb7)
  have HR7 := hide ((HH.out.2.on hbel).on hb7)
  have HY7 := hide hr7
  have HS7 := hide (((HS3.out.below HH.out.1).below hbel).below hb7)
  clear hy hok hbel hr7 hb7 hs7 HB3 HR3 HS3 HP3 HQ3 HH
  have hg7 : w.heap.size < (w6.alloc (.cells [.int .i64 y.k, .int .i64 y.i, .int .i64 y.n, .int .i64 y.g, .int .i64 y.s, .int .i64 y.p, .int .i64 y.q, .int .i64 y.r, .int .i64 y.t, .int .i64 y.a].toArray 24)).heap.size := HR7.out.lt
  have z0 : (w6.alloc (.cells [.int .i64 y.k, .int .i64 y.i, .int .i64 y.n, .int .i64 y.g, .int .i64 y.s, .int .i64 y.p, .int .i64 y.q, .int .i64 y.r, .int .i64 y.t, .int .i64 y.a].toArray 24)).cell? ⟨w.heap.size, 0, none⟩ = some (.int .i64 x.k) := HR7.out.cell 0
  have z1 : (w6.alloc (.cells [.int .i64 y.k, .int .i64 y.i, .int .i64 y.n, .int .i64 y.g, .int .i64 y.s, .int .i64 y.p, .int .i64 y.q, .int .i64 y.r, .int .i64 y.t, .int .i64 y.a].toArray 24)).cell? ⟨w.heap.size, 1, none⟩ = some (.int .i64 x.i) := HR7.out.cell 1
  have z2 : (w6.alloc (.cells [.int .i64 y.k, .int .i64 y.i, .int .i64 y.n, .int .i64 y.g, .int .i64 y.s, .int .i64 y.p, .int .i64 y.q, .int .i64 y.r, .int .i64 y.t, .int .i64 y.a].toArray 24)).cell? ⟨w.heap.size, 2, none⟩ = some (.int .i64 x.n) := HR7.out.cell 2
  have z3 : (w6.alloc (.cells [.int .i64 y.k, .int .i64 y.i, .int .i64 y.n, .int .i64 y.g, .int .i64 y.s, .int .i64 y.p, .int .i64 y.q, .int .i64 y.r, .int .i64 y.t, .int .i64 y.a].toArray 24)).cell? ⟨w.heap.size, 3, none⟩ = some (.int .i64 x.g) := HR7.out.cell 3
  have z4 : (w6.alloc (.cells [.int .i64 y.k, .int .i64 y.i, .int .i64 y.n, .int .i64 y.g, .int .i64 y.s, .int .i64 y.p, .int .i64 y.q, .int .i64 y.r, .int .i64 y.t, .int .i64 y.a].toArray 24)).cell? ⟨w.heap.size, 4, none⟩ = some (.int .i64 x.s) := HR7.out.cell 4
  have z5 : (w6.alloc (.cells [.int .i64 y.k, .int .i64 y.i, .int .i64 y.n, .int .i64 y.g, .int .i64 y.s, .int .i64 y.p, .int .i64 y.q, .int .i64 y.r, .int .i64 y.t, .int .i64 y.a].toArray 24)).cell? ⟨w.heap.size, 5, none⟩ = some (.int .i64 x.p) := HR7.out.cell 5
  have z6 : (w6.alloc (.cells [.int .i64 y.k, .int .i64 y.i, .int .i64 y.n, .int .i64 y.g, .int .i64 y.s, .int .i64 y.p, .int .i64 y.q, .int .i64 y.r, .int .i64 y.t, .int .i64 y.a].toArray 24)).cell? ⟨w.heap.size, 6, none⟩ = some (.int .i64 x.q) := HR7.out.cell 6
  have z7 : (w6.alloc (.cells [.int .i64 y.k, .int .i64 y.i, .int .i64 y.n, .int .i64 y.g, .int .i64 y.s, .int .i64 y.p, .int .i64 y.q, .int .i64 y.r, .int .i64 y.t, .int .i64 y.a].toArray 24)).cell? ⟨w.heap.size, 7, none⟩ = some (.int .i64 x.r) := HR7.out.cell 7
  have z8 : (w6.alloc (.cells [.int .i64 y.k, .int .i64 y.i, .int .i64 y.n, .int .i64 y.g, .int .i64 y.s, .int .i64 y.p, .int .i64 y.q, .int .i64 y.r, .int .i64 y.t, .int .i64 y.a].toArray 24)).cell? ⟨w.heap.size, 8, none⟩ = some (.int .i64 x.t) := HR7.out.cell 8
  have z9 : (w6.alloc (.cells [.int .i64 y.k, .int .i64 y.i, .int .i64 y.n, .int .i64 y.g, .int .i64 y.s, .int .i64 y.p, .int .i64 y.q, .int .i64 y.r, .int .i64 y.t, .int .i64 y.a].toArray 24)).cell? ⟨w.heap.size, 9, none⟩ = some (.int .i64 x.a) := HR7.out.cell 9
  cases rr with
  | false =>
    obtain rfl : ee = 1 := by rw [← HE.out]; unfold errI; rw [HR.out]; rfl
    go_wp2_with fail
    refine (IFresh_any _).mono ?_
    rintro e w8 ⟨rfl, hbel⟩
    have HB8 := hide (below_step HB7.out hbel)
    have HS8 := hide (HS7.out.below hbel)
    clear hbel HB7 HR7 HY7 HS7 hg7 z0 z1 z2 z3 z4 z5 z6 z7 z8 z9
    go_wp2_with fail
    refine (RIFresh_any _).mono ?_
    rintro e w9 ⟨rfl, hbel⟩
    have HB9 := hide (below_step HB8.out hbel)
    have HS9 := hide (HS8.out.below hbel)
    clear hbel HB8 HS8
    go_wp2_with fail
    refine (awake7_any _ HS9.out).mono ?_
    rintro e w10 ⟨rfl, hbel⟩
    have HB10 := hide (below_step HB9.out hbel)
    clear hbel HB9
    go_wp2_with fail
    go_ret
    exact LawOk.of HB10.out
  | true =>
    obtain rfl : ee = 0 := by rw [← HE.out]; unfold errI; rw [HR.out]; rfl
    obtain rfl : ok = true := by rw [← HOK.out]; exact (got_put HR.out).1
    obtain rfl : y = x := by rw [← HY.out]; exact (got_put HR.out).2
    go_wp2_with fail
    refine (IFresh_any _).mono ?_
    rintro e w8 ⟨rfl, hbel⟩
    have HB8 := hide (below_step HB7.out hbel)
    have HS8 := hide (HS7.out.below hbel)
    clear hbel HB7 HR7 HY7 HS7 hg7 z0 z1 z2 z3 z4 z5 z6 z7 z8 z9
    go_wp2_with fail
    refine (RIFresh_any _).mono ?_
    rintro e w9 ⟨rfl, hbel⟩
    have HB9 := hide (below_step HB8.out hbel)
    have HS9 := hide (HS8.out.below hbel)
    clear hbel HB8 HS8
    go_wp2_with fail
    refine (awake7_any _ HS9.out).mono ?_
    rintro e w10 ⟨rfl, hbel⟩
    have HB10 := hide (below_step HB9.out hbel)
    clear hbel HB9
    go_wp2_with fail
    go_ret
    exact LawOk.of HB10.out
end Go.Proofs.YtnjmddmiebofeaaDoor
