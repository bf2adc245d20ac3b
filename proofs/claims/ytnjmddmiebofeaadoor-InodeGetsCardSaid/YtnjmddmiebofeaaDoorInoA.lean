/- inode: apart, together (layer 7). -/
import Derived.Test.YtnjmddmiebofeaaDoorMemI
import Derived.Test.YtnjmddmiebofeaaDoorPlanN
import Derived.Test.YtnjmddmiebofeaaDoorRefGeoD
namespace Go.Proofs.YtnjmddmiebofeaaDoor
open Go.RowKit Plain

theorem ino_agg : ∀ w, (isAgg 24).run Tryd.prog w = .ok true w := fun w => by simp [go_sem]
theorem ino_size : ∀ w, (Go.sizeOf 24).run Tryd.prog w = .ok 10 w := fun w => by simp [go_sem]
theorem num_agg : ∀ w, (isAgg 37).run Tryd.prog w = .ok true w := fun w => by simp [go_sem]
theorem num_size : ∀ w, (Go.sizeOf 37).run Tryd.prog w = .ok 10 w := fun w => by simp [go_sem]
theorem int_size : (Tryd.prog.info? 3).map (·.size) = some 1 := by kernel_rfl
set_option maxRecDepth 100000 in
set_option maxHeartbeats 800000 in
theorem apart_any (k i n g s p q r t a : Int) (w : World) : Calls Tryd.prog 15 #[.agg #[.int .i64 k, .int .i64 i, .int .i64 n, .int .i64 g, .int .i64 s, .int .i64 p, .int .i64 q, .int .i64 r, .int .i64 t, .int .i64 a]] w (VRet w (.agg #[.int .i64 k, .int .i64 i, .int .i64 n, .int .i64 g, .int .i64 s, .int .i64 p, .int .i64 q, .int .i64 r, .int .i64 t, .int .i64 a])) := by
  obtain ⟨hr1, hr2, hr3, hb3, hs3⟩ := rows3 w [.int .i64 k, .int .i64 i, .int .i64 n, .int .i64 g, .int .i64 s, .int .i64 p, .int .i64 q, .int .i64 r, .int .i64 t, .int .i64 a] [.int .i64 0, .int .i64 0, .int .i64 0, .int .i64 0, .int .i64 0, .int .i64 0, .int .i64 0, .int .i64 0, .int .i64 0, .int .i64 0] [.int .i64 k, .int .i64 i, .int .i64 n, .int .i64 g, .int .i64 s, .int .i64 0, .int .i64 0, .int .i64 0, .int .i64 0, .int .i64 0] 24 37 37
  have HB := hide hb3
  have HR1 := hide hr1
  have HR2 := hide hr2
  have HR3 := hide hr3
  clear hr1 hr2 hr3 hb3
  go_enter Tryd.func15, Tryd.ntmps15
  go_wp2_with fail
  generalize (((w.alloc (.cells #[.int .i64 k, .int .i64 i, .int .i64 n, .int .i64 g, .int .i64 s, .int .i64 p, .int .i64 q, .int .i64 r, .int .i64 t, .int .i64 a] 24)).alloc (.cells #[.int .i64 0, .int .i64 0, .int .i64 0, .int .i64 0, .int .i64 0, .int .i64 0, .int .i64 0, .int .i64 0, .int .i64 0, .int .i64 0] 37)).alloc (.cells #[.int .i64 k, .int .i64 i, .int .i64 n, .int .i64 g, .int .i64 s, .int .i64 0, .int .i64 0, .int .i64 0, .int .i64 0, .int .i64 0] 37)) = w3 at *
  refine wp_region_planN (fun w' => True) [(0, true), (1, true), (2, true), (3, false)] (by kernel_rfl) (by kernel_rfl) (by kernel_rfl) (by kernel_rfl) rfl (fun _ _ _ _ _ h => h) trivial (fun hHeld => ?_)
  simp only [planOps, List.filterMap_cons, List.filterMap_nil, List.getElem?_toArray, List.getElem?_cons_succ, List.getElem?_cons_zero, Option.map_some]
  refine wpPlan_take (v := ?_) (by kernel_rfl) (fun wS hSw => ?_) ?_
  rotate_left
  · (try dsimp only at hSw); go_simp; (try with_reducible rfl)
  (try simp only [Act.put, List.setIfInBounds_toArray, List.set_cons_zero, List.set_cons_succ])
  refine wpPlan_take (v := ?_) (by kernel_rfl) (fun wS hSw => ?_) ?_
  rotate_left
  · (try dsimp only at hSw); go_simp; (try with_reducible rfl)
  (try simp only [Act.put, List.setIfInBounds_toArray, List.set_cons_zero, List.set_cons_succ])
  refine wpPlan_take (v := ?_) (by kernel_rfl) (fun wS hSw => ?_) ?_
  rotate_left
  · (try dsimp only at hSw); go_simp; (try with_reducible rfl)
  (try simp only [Act.put, List.setIfInBounds_toArray, List.set_cons_zero, List.set_cons_succ])
  refine wpPlan_call (by kernel_rfl) (fun K hK => ?_)
  have hOld := hide hHeld
  clear hHeld
  clear hOld
  refine wp_copyC (.tmp 15) (.tmp 17) 47 47 rfl 3 1 Tryd.underlying47 int_size (w.heap.size + 1 + 1) 5 4 5 rfl [.int .i64 k, .int .i64 i, .int .i64 n, .int .i64 g, .int .i64 s, .int .i64 0, .int .i64 0, .int .i64 0, .int .i64 0, .int .i64 0] 37 HR3.out.drew ⟨w.heap.size, 5, none⟩ 4 4 rfl 4 rfl [.int .i64 p, .int .i64 q, .int .i64 r, .int .i64 t] rfl (HR1.out.drew.src rfl rfl) (by simp) (by simp [Value.oneCell']) ?_
  intro w4 hr4 hg4 hs4
  refine hK.out _ _ (trivial) (fun hHeld => ?_)
  clear hK K
  (try simp only [Act.put, List.setIfInBounds_toArray, List.set_cons_zero, List.set_cons_succ])
  refine wpPlan_end ?_
  clear hHeld
  have HR4 : Hid (RowL w4 (w.heap.size + 1 + 1) 37 [.int .i64 k, .int .i64 i, .int .i64 n, .int .i64 g, .int .i64 s, .int .i64 p, .int .i64 q, .int .i64 r, .int .i64 t, .int .i64 0]) := hide hr4
  have hg0 : w.heap.size < w4.heap.size := by rw [hs4]; show _ < w3.heap.size; omega
  have hg1 : w.heap.size + 1 < w4.heap.size := by rw [hs4]; show _ < w3.heap.size; omega
  have hg2 : w.heap.size + 1 + 1 < w4.heap.size := by rw [hs4]; show _ < w3.heap.size; omega
  have HB4 : Hid (Below w.heap.size w w4) := hide ((below_drew HB.out).grown hg4 (by show _ ≤ w3.heap.size; omega) (by intro g hg; have := Option.some.inj hg; omega))
  have HR14 : Hid (RowL w4 w.heap.size 24 [.int .i64 k, .int .i64 i, .int .i64 n, .int .i64 g, .int .i64 s, .int .i64 p, .int .i64 q, .int .i64 r, .int .i64 t, .int .i64 a]) := hide (HR1.out.drew.grown hg4 (by intro h; have := Option.some.inj h; omega))
  have HR24 : Hid (RowL w4 (w.heap.size + 1) 37 [.int .i64 0, .int .i64 0, .int .i64 0, .int .i64 0, .int .i64 0, .int .i64 0, .int .i64 0, .int .i64 0, .int .i64 0, .int .i64 0]) := hide (HR2.out.drew.grown hg4 (by intro h; have := Option.some.inj h; omega))
  clear hr4 hg4 hs4 hs3
  have i9 : w4.cell? ⟨w.heap.size, 9, none⟩ = some (.int .i64 a) := HR14.out.cell 9
  have c9 : w4.cell? ⟨w.heap.size + 1 + 1, 9, none⟩ = some (.int .i64 0) := HR4.out.cell 9
  have f9 : w4.frozen? ⟨w.heap.size + 1 + 1, 9, none⟩ = false := HR4.out.frozen 9
  have HR5 : Hid (RowL (w4.setCell ⟨w.heap.size + 1 + 1, 9, none⟩ (.int .i64 a)) (w.heap.size + 1 + 1) 37 [.int .i64 k, .int .i64 i, .int .i64 n, .int .i64 g, .int .i64 s, .int .i64 p, .int .i64 q, .int .i64 r, .int .i64 t, .int .i64 a]) := hide (HR4.out.set_ 9 (.int .i64 a))
  have HR25 : Hid (RowL (w4.setCell ⟨w.heap.size + 1 + 1, 9, none⟩ (.int .i64 a)) (w.heap.size + 1) 37 [.int .i64 0, .int .i64 0, .int .i64 0, .int .i64 0, .int .i64 0, .int .i64 0, .int .i64 0, .int .i64 0, .int .i64 0, .int .i64 0]) := hide (HR24.out.grown (row := some (w.heap.size + 1 + 1)) (grown_cell _ _ _ _) (by intro h; have := Option.some.inj h; omega))
  have HB5 : Hid (Below w.heap.size w (w4.setCell ⟨w.heap.size + 1 + 1, 9, none⟩ (.int .i64 a))) := hide (HB4.out.setCell (p := ⟨w.heap.size + 1 + 1, 9, none⟩) (by show _ ≤ w.heap.size + 1 + 1; omega) _)
  go_wp2_with (first
    | (with_reducible refine wpList_loadW rfl 37 (.tmp 3) rfl 10 num_agg num_size (w.heap.size + 1 + 1) 37 rfl [.int .i64 k, .int .i64 i, .int .i64 n, .int .i64 g, .int .i64 s, .int .i64 p, .int .i64 q, .int .i64 r, .int .i64 t, .int .i64 a] HR5.out len10 ?_)
    | ((with_reducible refine wpList_storeW rfl 37 (.tmp 2) (.tmp 22) rfl 10 num_size (w.heap.size + 1) 37 rfl [.int .i64 0, .int .i64 0, .int .i64 0, .int .i64 0, .int .i64 0, .int .i64 0, .int .i64 0, .int .i64 0, .int .i64 0, .int .i64 0] [.int .i64 k, .int .i64 i, .int .i64 n, .int .i64 g, .int .i64 s, .int .i64 p, .int .i64 q, .int .i64 r, .int .i64 t, .int .i64 a] rfl HR25.out len10 len10 ints10 ?_); intro w6 hr6 hg6 hs6; have HR6 := hide hr6; have HB6 := hide (HB5.out.grown hg6 HB5.out.size (fun g hg => by have := Option.some.inj hg; omega)); clear hr6 hg6 hs6))
  exact bodyPost_ret (res_cell Tryd.results15 rfl num_agg num_size HR6.out rfl) rfl (VRet.of HB6.out)

set_option maxRecDepth 100000 in
set_option maxHeartbeats 800000 in
theorem together_any (k i n g s p q r t a : Int) (w : World) : Calls Tryd.prog 32 #[.agg #[.int .i64 k, .int .i64 i, .int .i64 n, .int .i64 g, .int .i64 s, .int .i64 p, .int .i64 q, .int .i64 r, .int .i64 t, .int .i64 a]] w (VRet w (.agg #[.int .i64 k, .int .i64 i, .int .i64 n, .int .i64 g, .int .i64 s, .int .i64 p, .int .i64 q, .int .i64 r, .int .i64 t, .int .i64 a])) := by
  obtain ⟨hr1, hr2, hr3, hb3, hs3⟩ := rows3 w [.int .i64 k, .int .i64 i, .int .i64 n, .int .i64 g, .int .i64 s, .int .i64 p, .int .i64 q, .int .i64 r, .int .i64 t, .int .i64 a] [.int .i64 0, .int .i64 0, .int .i64 0, .int .i64 0, .int .i64 0, .int .i64 0, .int .i64 0, .int .i64 0, .int .i64 0, .int .i64 0] [.int .i64 k, .int .i64 i, .int .i64 n, .int .i64 g, .int .i64 s, .int .i64 0, .int .i64 0, .int .i64 0, .int .i64 0, .int .i64 a] 37 24 24
  have HB := hide hb3
  have HR1 := hide hr1
  have HR2 := hide hr2
  have HR3 := hide hr3
  clear hr1 hr2 hr3 hb3
  go_enter Tryd.func32, Tryd.ntmps32
  go_wp2_with fail
  generalize (((w.alloc (.cells #[.int .i64 k, .int .i64 i, .int .i64 n, .int .i64 g, .int .i64 s, .int .i64 p, .int .i64 q, .int .i64 r, .int .i64 t, .int .i64 a] 37)).alloc (.cells #[.int .i64 0, .int .i64 0, .int .i64 0, .int .i64 0, .int .i64 0, .int .i64 0, .int .i64 0, .int .i64 0, .int .i64 0, .int .i64 0] 24)).alloc (.cells #[.int .i64 k, .int .i64 i, .int .i64 n, .int .i64 g, .int .i64 s, .int .i64 0, .int .i64 0, .int .i64 0, .int .i64 0, .int .i64 a] 24)) = w3 at *
  refine wp_region_planN (fun w' => True) [(0, true), (1, true), (2, true), (3, false)] (by kernel_rfl) (by kernel_rfl) (by kernel_rfl) (by kernel_rfl) rfl (fun _ _ _ _ _ h => h) trivial (fun hHeld => ?_)
  simp only [planOps, List.filterMap_cons, List.filterMap_nil, List.getElem?_toArray, List.getElem?_cons_succ, List.getElem?_cons_zero, Option.map_some]
  refine wpPlan_take (v := ?_) (by kernel_rfl) (fun wS hSw => ?_) ?_
  rotate_left
  · (try dsimp only at hSw); go_simp; (try with_reducible rfl)
  (try simp only [Act.put, List.setIfInBounds_toArray, List.set_cons_zero, List.set_cons_succ])
  refine wpPlan_take (v := ?_) (by kernel_rfl) (fun wS hSw => ?_) ?_
  rotate_left
  · (try dsimp only at hSw); go_simp; (try with_reducible rfl)
  (try simp only [Act.put, List.setIfInBounds_toArray, List.set_cons_zero, List.set_cons_succ])
  refine wpPlan_take (v := ?_) (by kernel_rfl) (fun wS hSw => ?_) ?_
  rotate_left
  · (try dsimp only at hSw); go_simp; (try with_reducible rfl)
  (try simp only [Act.put, List.setIfInBounds_toArray, List.set_cons_zero, List.set_cons_succ])
  refine wpPlan_call (by kernel_rfl) (fun K hK => ?_)
  have hOld := hide hHeld
  clear hHeld
  clear hOld
  refine wp_copyC (.tmp 18) (.tmp 19) 47 47 rfl 3 1 Tryd.underlying47 int_size (w.heap.size + 1 + 1) 5 4 4 rfl [.int .i64 k, .int .i64 i, .int .i64 n, .int .i64 g, .int .i64 s, .int .i64 0, .int .i64 0, .int .i64 0, .int .i64 0, .int .i64 a] 24 HR3.out.drew ⟨w.heap.size, 5, none⟩ 4 5 rfl 4 rfl [.int .i64 p, .int .i64 q, .int .i64 r, .int .i64 t] rfl (HR1.out.drew.src rfl rfl) (by simp) (by simp [Value.oneCell']) ?_
  intro w4 hr4 hg4 hs4
  refine hK.out _ _ (trivial) (fun hHeld => ?_)
  clear hK K
  (try simp only [Act.put, List.setIfInBounds_toArray, List.set_cons_zero, List.set_cons_succ])
  refine wpPlan_end ?_
  clear hHeld
  have HR4 : Hid (RowL w4 (w.heap.size + 1 + 1) 24 [.int .i64 k, .int .i64 i, .int .i64 n, .int .i64 g, .int .i64 s, .int .i64 p, .int .i64 q, .int .i64 r, .int .i64 t, .int .i64 a]) := hide hr4
  have hg0 : w.heap.size < w4.heap.size := by rw [hs4]; show _ < w3.heap.size; omega
  have hg1 : w.heap.size + 1 < w4.heap.size := by rw [hs4]; show _ < w3.heap.size; omega
  have hg2 : w.heap.size + 1 + 1 < w4.heap.size := by rw [hs4]; show _ < w3.heap.size; omega
  have HB4 : Hid (Below w.heap.size w w4) := hide ((below_drew HB.out).grown hg4 (by show _ ≤ w3.heap.size; omega) (by intro g hg; have := Option.some.inj hg; omega))
  have HR14 : Hid (RowL w4 w.heap.size 37 [.int .i64 k, .int .i64 i, .int .i64 n, .int .i64 g, .int .i64 s, .int .i64 p, .int .i64 q, .int .i64 r, .int .i64 t, .int .i64 a]) := hide (HR1.out.drew.grown hg4 (by intro h; have := Option.some.inj h; omega))
  have HR24 : Hid (RowL w4 (w.heap.size + 1) 24 [.int .i64 0, .int .i64 0, .int .i64 0, .int .i64 0, .int .i64 0, .int .i64 0, .int .i64 0, .int .i64 0, .int .i64 0, .int .i64 0]) := hide (HR2.out.drew.grown hg4 (by intro h; have := Option.some.inj h; omega))
  clear hr4 hg4 hs4 hs3
  go_wp2_with (first
    | (with_reducible refine wpList_loadW rfl 24 (.tmp 3) rfl 10 ino_agg ino_size (w.heap.size + 1 + 1) 24 rfl [.int .i64 k, .int .i64 i, .int .i64 n, .int .i64 g, .int .i64 s, .int .i64 p, .int .i64 q, .int .i64 r, .int .i64 t, .int .i64 a] HR4.out len10 ?_)
    | ((with_reducible refine wpList_storeW rfl 24 (.tmp 2) (.tmp 21) rfl 10 ino_size (w.heap.size + 1) 24 rfl [.int .i64 0, .int .i64 0, .int .i64 0, .int .i64 0, .int .i64 0, .int .i64 0, .int .i64 0, .int .i64 0, .int .i64 0, .int .i64 0] [.int .i64 k, .int .i64 i, .int .i64 n, .int .i64 g, .int .i64 s, .int .i64 p, .int .i64 q, .int .i64 r, .int .i64 t, .int .i64 a] rfl HR24.out len10 len10 ints10 ?_); intro w6 hr6 hg6 hs6; have HR6 := hide hr6; have HB6 := hide (HB4.out.grown hg6 HB4.out.size (fun g hg => by have := Option.some.inj hg; omega)); clear hr6 hg6 hs6))
  exact bodyPost_ret (res_cell Tryd.results32 rfl ino_agg ino_size HR6.out rfl) rfl (VRet.of HB6.out)

end Go.Proofs.YtnjmddmiebofeaaDoor
