/- inode.greatest (layer 7). -/
import Derived.Test.YtnjmddmiebofeaaDoorInoB
namespace Go.Proofs.YtnjmddmiebofeaaDoor
open Go.RowKit Plain

/-- Of a kind's inodes no number is greater than these. -/
def mostI (k : Int) : InoV := ⟨k, 255, 65535, 268435455, if k = 2 ∨ k = 3 then 256 else 0, if k = 4 then 0 else 65535, if k = 4 then 0 else 65535, if k = 4 then 0 else 65535, if k = 4 then 0 else 65535, 65535⟩
/-- greatest's row when j pointers are done. -/
def grL (K S : Int) (j : Nat) : List Value := [.int .i64 K, .int .i64 255, .int .i64 65535, .int .i64 268435455, .int .i64 S, .int .i64 (if 0 < j then 65535 else 0), .int .i64 (if 1 < j then 65535 else 0), .int .i64 (if 2 < j then 65535 else 0), .int .i64 (if 3 < j then 65535 else 0), .int .i64 65535]
theorem grL_get (K S : Int) {j : Nat} (h : j < 4) : (grL K S j)[5 + j]? = some (.int .i64 0) := by
  obtain rfl | rfl | rfl | rfl : j = 0 ∨ j = 1 ∨ j = 2 ∨ j = 3 := by omega
  all_goals simp [grL]
theorem grL_set (K S : Int) {j : Nat} (h : j < 4) : (grL K S j).set (5 + j) (.int .i64 65535) = grL K S (j + 1) := by
  obtain rfl | rfl | rfl | rfl : j = 0 ∨ j = 1 ∨ j = 2 ∨ j = 3 := by omega
  all_goals simp [grL]
theorem grL_len (K S : Int) (j : Nat) : (grL K S j).length = 10 := rfl
theorem grL_one (K S : Int) (j : Nat) : ∀ v ∈ grL K S j, v.oneCell' = true := by simp [grL, Value.oneCell']

set_option maxRecDepth 100000 in
set_option maxHeartbeats 800000 in
theorem greatest_1 (w : World) : Calls Tryd.prog 19 #[.int .i64 1] w (VRet w (.agg #[.int .i64 1, .int .i64 255, .int .i64 65535, .int .i64 268435455, .int .i64 0, .int .i64 65535, .int .i64 65535, .int .i64 65535, .int .i64 65535, .int .i64 65535])) := by
  obtain ⟨hr1, hr2, hb, hs⟩ := rows2 w [.int .i64 0, .int .i64 0, .int .i64 0, .int .i64 0, .int .i64 0, .int .i64 0, .int .i64 0, .int .i64 0, .int .i64 0, .int .i64 0] (grL 1 0 0) 24 24
  have HR1 := hide hr1
  have HR2 := hide hr2
  have HB := hide hb
  have HS := hide hs
  clear hr1 hr2 hb hs
  simp only [grL, Nat.lt_irrefl, Nat.not_lt_zero, if_false] at HR1 HB HS
  go_enter Tryd.func19, Tryd.ntmps19
  go_wp2_with fail
  go_loopw [16] (fun iv wr => ∃ j : Nat, j ≤ 4 ∧ iv = .int .i64 j ∧ RowL wr (w.heap.size + 1) 24 (grL 1 0 j) ∧ RowL wr w.heap.size 24 [.int .i64 0, .int .i64 0, .int .i64 0, .int .i64 0, .int .i64 0, .int .i64 0, .int .i64 0, .int .i64 0, .int .i64 0, .int .i64 0] ∧ Below w.heap.size w wr ∧ wr.heap.size = w.heap.size + 2) (fun iv _ => 4 - (intOf iv).toNat)
  case atStart => exact ⟨0, by omega, rfl, HR2.out, HR1.out, HB.out, HS.out⟩
  case round =>
    obtain ⟨j, hj, rfl, hrk, hr0, hbk, hsz⟩ := hrel
    have hg0 : w.heap.size < wr.heap.size := by omega
    have hg1 : w.heap.size + 1 < wr.heap.size := by omega
    have HRk := hide hrk
    have HR0 := hide hr0
    have HBk := hide hbk
    have HSk := hide hsz
    clear HR2 HR1 HB HS hrk hr0 hbk hsz
    by_cases hlt : j < 4
    · have hc : wr.cell? ⟨w.heap.size + 1, 5 + j, none⟩ = some (.int .i64 0) := by rw [HRk.out.cell, grL_get _ _ hlt]
      have hf : wr.frozen? ⟨w.heap.size + 1, 5 + j, none⟩ = false := HRk.out.frozen _
      go_wp2_with fail
      go_roundw
      case rel => exact ⟨j + 1, by omega, by go_num, by rw [← grL_set _ _ hlt]; exact HRk.out.set_ _ _, HR0.out.grown (grown_cell _ _ _ _) (by intro h; have := Option.some.inj h; omega), HBk.out.setCell (p := ⟨w.heap.size + 1, 5 + j, none⟩) (by show _ ≤ w.heap.size + 1; omega) _, by rw [← HSk.out]; simp⟩
      case measure => simp [intOf]; omega
    · obtain rfl : j = 4 := by omega
      have HRf : Hid (RowL wr (w.heap.size + 1) 24 [.int .i64 1, .int .i64 255, .int .i64 65535, .int .i64 268435455, .int .i64 0, .int .i64 65535, .int .i64 65535, .int .i64 65535, .int .i64 65535, .int .i64 65535]) := hide (by have := HRk.out; simpa [grL] using this)
      clear HRk
      go_wp2_with (first
        | (with_reducible refine wpList_loadW rfl 24 (.tmp 3) rfl 10 ino_agg ino_size (w.heap.size + 1) 24 rfl [.int .i64 1, .int .i64 255, .int .i64 65535, .int .i64 268435455, .int .i64 0, .int .i64 65535, .int .i64 65535, .int .i64 65535, .int .i64 65535, .int .i64 65535] HRf.out len10 ?_)
        | ((with_reducible refine wpList_storeW rfl 24 (.tmp 2) (.tmp 23) rfl 10 ino_size w.heap.size 24 rfl [.int .i64 0, .int .i64 0, .int .i64 0, .int .i64 0, .int .i64 0, .int .i64 0, .int .i64 0, .int .i64 0, .int .i64 0, .int .i64 0] [.int .i64 1, .int .i64 255, .int .i64 65535, .int .i64 268435455, .int .i64 0, .int .i64 65535, .int .i64 65535, .int .i64 65535, .int .i64 65535, .int .i64 65535] rfl HR0.out len10 len10 ints10 ?_); intro w6 hr6 hg6 hs6; have HR6 := hide hr6; have HB6 := hide (HBk.out.grown hg6 HBk.out.size (fun g hg => by have := Option.some.inj hg; omega)); clear hr6 hg6 hs6))
      exact bodyPost_ret (res_cell Tryd.results19 rfl ino_agg ino_size HR6.out len10) rfl (VRet.of HB6.out)

set_option maxRecDepth 100000 in
set_option maxHeartbeats 800000 in
theorem greatest_2 (w : World) : Calls Tryd.prog 19 #[.int .i64 2] w (VRet w (.agg #[.int .i64 2, .int .i64 255, .int .i64 65535, .int .i64 268435455, .int .i64 256, .int .i64 65535, .int .i64 65535, .int .i64 65535, .int .i64 65535, .int .i64 65535])) := by
  obtain ⟨hr1, hr2, hb, hs⟩ := rows2 w [.int .i64 0, .int .i64 0, .int .i64 0, .int .i64 0, .int .i64 0, .int .i64 0, .int .i64 0, .int .i64 0, .int .i64 0, .int .i64 0] (grL 2 256 0) 24 24
  have HR1 := hide hr1
  have HR2 := hide hr2
  have HB := hide hb
  have HS := hide hs
  clear hr1 hr2 hb hs
  simp only [grL, Nat.lt_irrefl, Nat.not_lt_zero, if_false] at HR1 HB HS
  go_enter Tryd.func19, Tryd.ntmps19
  go_wp2_with fail
  go_loopw [16] (fun iv wr => ∃ j : Nat, j ≤ 4 ∧ iv = .int .i64 j ∧ RowL wr (w.heap.size + 1) 24 (grL 2 256 j) ∧ RowL wr w.heap.size 24 [.int .i64 0, .int .i64 0, .int .i64 0, .int .i64 0, .int .i64 0, .int .i64 0, .int .i64 0, .int .i64 0, .int .i64 0, .int .i64 0] ∧ Below w.heap.size w wr ∧ wr.heap.size = w.heap.size + 2) (fun iv _ => 4 - (intOf iv).toNat)
  case atStart => exact ⟨0, by omega, rfl, HR2.out, HR1.out, HB.out, HS.out⟩
  case round =>
    obtain ⟨j, hj, rfl, hrk, hr0, hbk, hsz⟩ := hrel
    have hg0 : w.heap.size < wr.heap.size := by omega
    have hg1 : w.heap.size + 1 < wr.heap.size := by omega
    have HRk := hide hrk
    have HR0 := hide hr0
    have HBk := hide hbk
    have HSk := hide hsz
    clear HR2 HR1 HB HS hrk hr0 hbk hsz
    by_cases hlt : j < 4
    · have hc : wr.cell? ⟨w.heap.size + 1, 5 + j, none⟩ = some (.int .i64 0) := by rw [HRk.out.cell, grL_get _ _ hlt]
      have hf : wr.frozen? ⟨w.heap.size + 1, 5 + j, none⟩ = false := HRk.out.frozen _
      go_wp2_with fail
      go_roundw
      case rel => exact ⟨j + 1, by omega, by go_num, by rw [← grL_set _ _ hlt]; exact HRk.out.set_ _ _, HR0.out.grown (grown_cell _ _ _ _) (by intro h; have := Option.some.inj h; omega), HBk.out.setCell (p := ⟨w.heap.size + 1, 5 + j, none⟩) (by show _ ≤ w.heap.size + 1; omega) _, by rw [← HSk.out]; simp⟩
      case measure => simp [intOf]; omega
    · obtain rfl : j = 4 := by omega
      have HRf : Hid (RowL wr (w.heap.size + 1) 24 [.int .i64 2, .int .i64 255, .int .i64 65535, .int .i64 268435455, .int .i64 256, .int .i64 65535, .int .i64 65535, .int .i64 65535, .int .i64 65535, .int .i64 65535]) := hide (by have := HRk.out; simpa [grL] using this)
      clear HRk
      go_wp2_with (first
        | (with_reducible refine wpList_loadW rfl 24 (.tmp 3) rfl 10 ino_agg ino_size (w.heap.size + 1) 24 rfl [.int .i64 2, .int .i64 255, .int .i64 65535, .int .i64 268435455, .int .i64 256, .int .i64 65535, .int .i64 65535, .int .i64 65535, .int .i64 65535, .int .i64 65535] HRf.out len10 ?_)
        | ((with_reducible refine wpList_storeW rfl 24 (.tmp 2) (.tmp 23) rfl 10 ino_size w.heap.size 24 rfl [.int .i64 0, .int .i64 0, .int .i64 0, .int .i64 0, .int .i64 0, .int .i64 0, .int .i64 0, .int .i64 0, .int .i64 0, .int .i64 0] [.int .i64 2, .int .i64 255, .int .i64 65535, .int .i64 268435455, .int .i64 256, .int .i64 65535, .int .i64 65535, .int .i64 65535, .int .i64 65535, .int .i64 65535] rfl HR0.out len10 len10 ints10 ?_); intro w6 hr6 hg6 hs6; have HR6 := hide hr6; have HB6 := hide (HBk.out.grown hg6 HBk.out.size (fun g hg => by have := Option.some.inj hg; omega)); clear hr6 hg6 hs6))
      exact bodyPost_ret (res_cell Tryd.results19 rfl ino_agg ino_size HR6.out len10) rfl (VRet.of HB6.out)

set_option maxRecDepth 100000 in
set_option maxHeartbeats 800000 in
theorem greatest_3 (w : World) : Calls Tryd.prog 19 #[.int .i64 3] w (VRet w (.agg #[.int .i64 3, .int .i64 255, .int .i64 65535, .int .i64 268435455, .int .i64 256, .int .i64 65535, .int .i64 65535, .int .i64 65535, .int .i64 65535, .int .i64 65535])) := by
  obtain ⟨hr1, hr2, hb, hs⟩ := rows2 w [.int .i64 0, .int .i64 0, .int .i64 0, .int .i64 0, .int .i64 0, .int .i64 0, .int .i64 0, .int .i64 0, .int .i64 0, .int .i64 0] (grL 3 256 0) 24 24
  have HR1 := hide hr1
  have HR2 := hide hr2
  have HB := hide hb
  have HS := hide hs
  clear hr1 hr2 hb hs
  simp only [grL, Nat.lt_irrefl, Nat.not_lt_zero, if_false] at HR1 HB HS
  go_enter Tryd.func19, Tryd.ntmps19
  go_wp2_with fail
  go_loopw [16] (fun iv wr => ∃ j : Nat, j ≤ 4 ∧ iv = .int .i64 j ∧ RowL wr (w.heap.size + 1) 24 (grL 3 256 j) ∧ RowL wr w.heap.size 24 [.int .i64 0, .int .i64 0, .int .i64 0, .int .i64 0, .int .i64 0, .int .i64 0, .int .i64 0, .int .i64 0, .int .i64 0, .int .i64 0] ∧ Below w.heap.size w wr ∧ wr.heap.size = w.heap.size + 2) (fun iv _ => 4 - (intOf iv).toNat)
  case atStart => exact ⟨0, by omega, rfl, HR2.out, HR1.out, HB.out, HS.out⟩
  case round =>
    obtain ⟨j, hj, rfl, hrk, hr0, hbk, hsz⟩ := hrel
    have hg0 : w.heap.size < wr.heap.size := by omega
    have hg1 : w.heap.size + 1 < wr.heap.size := by omega
    have HRk := hide hrk
    have HR0 := hide hr0
    have HBk := hide hbk
    have HSk := hide hsz
    clear HR2 HR1 HB HS hrk hr0 hbk hsz
    by_cases hlt : j < 4
    · have hc : wr.cell? ⟨w.heap.size + 1, 5 + j, none⟩ = some (.int .i64 0) := by rw [HRk.out.cell, grL_get _ _ hlt]
      have hf : wr.frozen? ⟨w.heap.size + 1, 5 + j, none⟩ = false := HRk.out.frozen _
      go_wp2_with fail
      go_roundw
      case rel => exact ⟨j + 1, by omega, by go_num, by rw [← grL_set _ _ hlt]; exact HRk.out.set_ _ _, HR0.out.grown (grown_cell _ _ _ _) (by intro h; have := Option.some.inj h; omega), HBk.out.setCell (p := ⟨w.heap.size + 1, 5 + j, none⟩) (by show _ ≤ w.heap.size + 1; omega) _, by rw [← HSk.out]; simp⟩
      case measure => simp [intOf]; omega
    · obtain rfl : j = 4 := by omega
      have HRf : Hid (RowL wr (w.heap.size + 1) 24 [.int .i64 3, .int .i64 255, .int .i64 65535, .int .i64 268435455, .int .i64 256, .int .i64 65535, .int .i64 65535, .int .i64 65535, .int .i64 65535, .int .i64 65535]) := hide (by have := HRk.out; simpa [grL] using this)
      clear HRk
      go_wp2_with (first
        | (with_reducible refine wpList_loadW rfl 24 (.tmp 3) rfl 10 ino_agg ino_size (w.heap.size + 1) 24 rfl [.int .i64 3, .int .i64 255, .int .i64 65535, .int .i64 268435455, .int .i64 256, .int .i64 65535, .int .i64 65535, .int .i64 65535, .int .i64 65535, .int .i64 65535] HRf.out len10 ?_)
        | ((with_reducible refine wpList_storeW rfl 24 (.tmp 2) (.tmp 23) rfl 10 ino_size w.heap.size 24 rfl [.int .i64 0, .int .i64 0, .int .i64 0, .int .i64 0, .int .i64 0, .int .i64 0, .int .i64 0, .int .i64 0, .int .i64 0, .int .i64 0] [.int .i64 3, .int .i64 255, .int .i64 65535, .int .i64 268435455, .int .i64 256, .int .i64 65535, .int .i64 65535, .int .i64 65535, .int .i64 65535, .int .i64 65535] rfl HR0.out len10 len10 ints10 ?_); intro w6 hr6 hg6 hs6; have HR6 := hide hr6; have HB6 := hide (HBk.out.grown hg6 HBk.out.size (fun g hg => by have := Option.some.inj hg; omega)); clear hr6 hg6 hs6))
      exact bodyPost_ret (res_cell Tryd.results19 rfl ino_agg ino_size HR6.out len10) rfl (VRet.of HB6.out)

set_option maxRecDepth 100000 in
set_option maxHeartbeats 800000 in
theorem greatest_4 (w : World) : Calls Tryd.prog 19 #[.int .i64 4] w (VRet w (.agg #[.int .i64 4, .int .i64 255, .int .i64 65535, .int .i64 268435455, .int .i64 0, .int .i64 0, .int .i64 0, .int .i64 0, .int .i64 0, .int .i64 65535])) := by
  obtain ⟨hr1, hr2, hb, hs⟩ := rows2 w [.int .i64 0, .int .i64 0, .int .i64 0, .int .i64 0, .int .i64 0, .int .i64 0, .int .i64 0, .int .i64 0, .int .i64 0, .int .i64 0] (grL 4 0 0) 24 24
  have HR1 := hide hr1
  have HR2 := hide hr2
  have HB := hide hb
  have HS := hide hs
  clear hr1 hr2 hb hs
  simp only [grL, Nat.lt_irrefl, Nat.not_lt_zero, if_false] at HR1 HB HS
  go_enter Tryd.func19, Tryd.ntmps19
  have HRk : Hid (RowL ((w.alloc (.cells [.int .i64 0, .int .i64 0, .int .i64 0, .int .i64 0, .int .i64 0, .int .i64 0, .int .i64 0, .int .i64 0, .int .i64 0, .int .i64 0].toArray 24)).alloc (.cells [.int .i64 4, .int .i64 255, .int .i64 65535, .int .i64 268435455, .int .i64 0, .int .i64 0, .int .i64 0, .int .i64 0, .int .i64 0, .int .i64 65535].toArray 24)) (w.heap.size + 1) 24 (grL 4 0 0)) := HR2
  have HR0 := HR1
  have HBk := HB
  clear HR1 HR2 HB
  have HRf : Hid (RowL ((w.alloc (.cells [.int .i64 0, .int .i64 0, .int .i64 0, .int .i64 0, .int .i64 0, .int .i64 0, .int .i64 0, .int .i64 0, .int .i64 0, .int .i64 0].toArray 24)).alloc (.cells [.int .i64 4, .int .i64 255, .int .i64 65535, .int .i64 268435455, .int .i64 0, .int .i64 0, .int .i64 0, .int .i64 0, .int .i64 0, .int .i64 65535].toArray 24)) (w.heap.size + 1) 24 [.int .i64 4, .int .i64 255, .int .i64 65535, .int .i64 268435455, .int .i64 0, .int .i64 0, .int .i64 0, .int .i64 0, .int .i64 0, .int .i64 65535]) := hide (by have := HRk.out; simpa [grL] using this)
  clear HRk
  go_wp2_with (first
    | (with_reducible refine wpList_loadW rfl 24 (.tmp 3) rfl 10 ino_agg ino_size (w.heap.size + 1) 24 rfl [.int .i64 4, .int .i64 255, .int .i64 65535, .int .i64 268435455, .int .i64 0, .int .i64 0, .int .i64 0, .int .i64 0, .int .i64 0, .int .i64 65535] HRf.out len10 ?_)
    | ((with_reducible refine wpList_storeW rfl 24 (.tmp 2) (.tmp 23) rfl 10 ino_size w.heap.size 24 rfl [.int .i64 0, .int .i64 0, .int .i64 0, .int .i64 0, .int .i64 0, .int .i64 0, .int .i64 0, .int .i64 0, .int .i64 0, .int .i64 0] [.int .i64 4, .int .i64 255, .int .i64 65535, .int .i64 268435455, .int .i64 0, .int .i64 0, .int .i64 0, .int .i64 0, .int .i64 0, .int .i64 65535] rfl HR0.out len10 len10 ints10 ?_); intro w6 hr6 hg6 hs6; have HR6 := hide hr6; have HB6 := hide (HBk.out.grown hg6 HBk.out.size (fun g hg => by have := Option.some.inj hg; omega)); clear hr6 hg6 hs6))
  exact bodyPost_ret (res_cell Tryd.results19 rfl ino_agg ino_size HR6.out len10) rfl (VRet.of HB6.out)
end Go.Proofs.YtnjmddmiebofeaaDoor
