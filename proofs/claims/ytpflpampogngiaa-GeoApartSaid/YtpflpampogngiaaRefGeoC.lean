/- Contracts of the reference's Inode, Block, Log, Upper (layer 6). -/
import Derived.Test.YtpflpampogngiaaRefGeoB
namespace Go.Proofs.Ytpflpampogngiaa
open Go.RowKit Plain

theorem start_lt {a b c d k : Int} (h : startZ a b c d k < 0) : startZ a b c d k = -1 ∧ ¬ (geoB a b c d = true ∧ 0 ≤ k ∧ k ≤ a) := by
  by_cases hh : geoB a b c d = true ∧ 0 ≤ k ∧ k ≤ a
  · have := start_bound hh.1 hh.2.1 hh.2.2
    omega
  · exact ⟨start_no hh, hh⟩
theorem start_ge {a b c d k : Int} (h : ¬ startZ a b c d k < 0) : geoB a b c d = true ∧ 0 ≤ k ∧ k ≤ a := by
  by_cases hh : geoB a b c d = true ∧ 0 ≤ k ∧ k ≤ a
  · exact hh
  · rw [start_no hh] at h
    omega

set_option maxHeartbeats 800000 in
theorem RGInode_any (a b c d k i : Int) (w : World) : Calls Try.prog 44 #[.agg #[.int .i64 a, .int .i64 b, .int .i64 c, .int .i64 d], .int .i64 k, .int .i64 i] w (VRet w (.int .i64 (inodeZ a b c d k i))) := by
  obtain ⟨s, hs⟩ : ∃ s, startZ a b c d k = s := ⟨_, rfl⟩
  have HS := hide hs
  by_cases h0 : s < 0
  · have he : inodeZ a b c d k i = -1 := by
      rw [← hs] at h0
      unfold inodeZ
      rw [if_neg (fun h => (start_lt h0).2 h.1)]
    rw [he]
    have d0 : decide (s < 0) = true := by simpa using h0
    clear he hs
    go_enter Try.func44, Try.ntmps44
    go_wp2_with fail
    refine (RGStart_e HS.out _).mono ?_
    rintro e w1 ⟨rfl, hbel⟩
    have hB1 := below_step (below_new (below_self w) _) hbel
    have c0 := (hbel.cell (p := ⟨w.heap.size, 0, none⟩) (by simp)).trans (by simp : _ = some (Value.int .i64 a))
    have c1 := (hbel.cell (p := ⟨w.heap.size, 1, none⟩) (by simp)).trans (by simp : _ = some (Value.int .i64 b))
    have c2 := (hbel.cell (p := ⟨w.heap.size, 2, none⟩) (by simp)).trans (by simp : _ = some (Value.int .i64 c))
    have c3 := (hbel.cell (p := ⟨w.heap.size, 3, none⟩) (by simp)).trans (by simp : _ = some (Value.int .i64 d))
    have HB1 := hide hB1
    have hlt : w.heap.size < w1.heap.size := by have := hbel.size; simp at this; omega
    clear hbel hB1
    go_wp2_with fail
    go_ret
    exact VRet.of HB1.out
  have d0 : decide (s < 0) = false := by simpa using h0
  by_cases h1 : i < 1
  · have he : inodeZ a b c d k i = -1 := by unfold inodeZ; rw [if_neg (by omega)]
    rw [he]
    have d1 : decide (i < 1) = true := by simpa using h1
    clear he hs
    go_enter Try.func44, Try.ntmps44
    go_wp2_with fail
    refine (RGStart_e HS.out _).mono ?_
    rintro e w1 ⟨rfl, hbel⟩
    have hB1 := below_step (below_new (below_self w) _) hbel
    have c0 := (hbel.cell (p := ⟨w.heap.size, 0, none⟩) (by simp)).trans (by simp : _ = some (Value.int .i64 a))
    have c1 := (hbel.cell (p := ⟨w.heap.size, 1, none⟩) (by simp)).trans (by simp : _ = some (Value.int .i64 b))
    have c2 := (hbel.cell (p := ⟨w.heap.size, 2, none⟩) (by simp)).trans (by simp : _ = some (Value.int .i64 c))
    have c3 := (hbel.cell (p := ⟨w.heap.size, 3, none⟩) (by simp)).trans (by simp : _ = some (Value.int .i64 d))
    have HB1 := hide hB1
    have hlt : w.heap.size < w1.heap.size := by have := hbel.size; simp at this; omega
    clear hbel hB1
    go_wp2_with fail
    go_ret
    exact VRet.of HB1.out
  have d1 : decide (i < 1) = false := by simpa using h1
  by_cases h2 : b < i
  · have he : inodeZ a b c d k i = -1 := by unfold inodeZ; rw [if_neg (by omega)]
    rw [he]
    have d2 : decide (b < i) = true := by simpa using h2
    clear he hs
    go_enter Try.func44, Try.ntmps44
    go_wp2_with fail
    refine (RGStart_e HS.out _).mono ?_
    rintro e w1 ⟨rfl, hbel⟩
    have hB1 := below_step (below_new (below_self w) _) hbel
    have c0 := (hbel.cell (p := ⟨w.heap.size, 0, none⟩) (by simp)).trans (by simp : _ = some (Value.int .i64 a))
    have c1 := (hbel.cell (p := ⟨w.heap.size, 1, none⟩) (by simp)).trans (by simp : _ = some (Value.int .i64 b))
    have c2 := (hbel.cell (p := ⟨w.heap.size, 2, none⟩) (by simp)).trans (by simp : _ = some (Value.int .i64 c))
    have c3 := (hbel.cell (p := ⟨w.heap.size, 3, none⟩) (by simp)).trans (by simp : _ = some (Value.int .i64 d))
    have HB1 := hide hB1
    have hlt : w.heap.size < w1.heap.size := by have := hbel.size; simp at this; omega
    clear hbel hB1
    go_wp2_with fail
    go_ret
    exact VRet.of HB1.out
  have d2 : decide (b < i) = false := by simpa using h2
  have hg := start_ge (a := a) (b := b) (c := c) (d := d) (k := k) (by rw [hs]; exact h0)
  have hb := start_bound hg.1 hg.2.1 hg.2.2
  have hh := geo_yes hg.1
  rw [hs] at hb
  have he : inodeZ a b c d k i = s + i := by unfold inodeZ; rw [if_pos ⟨hg, by omega⟩, hs]
  rw [he]
  have hw1 : IntKind.i64.wrap (s + i) = s + i := IntWalk.i64_in _ (by omega)
  clear he hs hg hh
  go_enter Try.func44, Try.ntmps44
  go_wp2_with fail
  refine (RGStart_e HS.out _).mono ?_
  rintro e w1 ⟨rfl, hbel⟩
  have hB1 := below_step (below_new (below_self w) _) hbel
  have c0 := (hbel.cell (p := ⟨w.heap.size, 0, none⟩) (by simp)).trans (by simp : _ = some (Value.int .i64 a))
  have c1 := (hbel.cell (p := ⟨w.heap.size, 1, none⟩) (by simp)).trans (by simp : _ = some (Value.int .i64 b))
  have c2 := (hbel.cell (p := ⟨w.heap.size, 2, none⟩) (by simp)).trans (by simp : _ = some (Value.int .i64 c))
  have c3 := (hbel.cell (p := ⟨w.heap.size, 3, none⟩) (by simp)).trans (by simp : _ = some (Value.int .i64 d))
  have HB1 := hide hB1
  have hlt : w.heap.size < w1.heap.size := by have := hbel.size; simp at this; omega
  clear hbel hB1
  go_wp2_with fail
  refine (RGStart_e HS.out _).mono ?_
  rintro e w2 ⟨rfl, hbel⟩
  have HB2 := hide (below_step HB1.out hbel)
  have c0 := (hbel.cell (p := ⟨w.heap.size, 0, none⟩) (by omega)).trans c0
  have c1 := (hbel.cell (p := ⟨w.heap.size, 1, none⟩) (by omega)).trans c1
  have c2 := (hbel.cell (p := ⟨w.heap.size, 2, none⟩) (by omega)).trans c2
  have c3 := (hbel.cell (p := ⟨w.heap.size, 3, none⟩) (by omega)).trans c3
  have hlt : w.heap.size < w2.heap.size := by have := hbel.size; omega
  clear hbel
  go_wp2_with fail
  go_ret
  exact VRet.of HB2.out

set_option maxHeartbeats 800000 in
theorem RGBlock_any (a b c d k i : Int) (w : World) : Calls Try.prog 46 #[.agg #[.int .i64 a, .int .i64 b, .int .i64 c, .int .i64 d], .int .i64 k, .int .i64 i] w (VRet w (.int .i64 (blockZ a b c d k i))) := by
  obtain ⟨s, hs⟩ : ∃ s, startZ a b c d k = s := ⟨_, rfl⟩
  have HS := hide hs
  by_cases h0 : s < 0
  · have he : blockZ a b c d k i = -1 := by
      rw [← hs] at h0
      unfold blockZ
      rw [if_neg (fun h => (start_lt h0).2 h.1)]
    rw [he]
    have d0 : decide (s < 0) = true := by simpa using h0
    clear he hs
    go_enter Try.func46, Try.ntmps46
    go_wp2_with fail
    refine (RGStart_e HS.out _).mono ?_
    rintro e w1 ⟨rfl, hbel⟩
    have hB1 := below_step (below_new (below_self w) _) hbel
    have c0 := (hbel.cell (p := ⟨w.heap.size, 0, none⟩) (by simp)).trans (by simp : _ = some (Value.int .i64 a))
    have c1 := (hbel.cell (p := ⟨w.heap.size, 1, none⟩) (by simp)).trans (by simp : _ = some (Value.int .i64 b))
    have c2 := (hbel.cell (p := ⟨w.heap.size, 2, none⟩) (by simp)).trans (by simp : _ = some (Value.int .i64 c))
    have c3 := (hbel.cell (p := ⟨w.heap.size, 3, none⟩) (by simp)).trans (by simp : _ = some (Value.int .i64 d))
    have HB1 := hide hB1
    have hlt : w.heap.size < w1.heap.size := by have := hbel.size; simp at this; omega
    clear hbel hB1
    go_wp2_with fail
    go_ret
    exact VRet.of HB1.out
  have d0 : decide (s < 0) = false := by simpa using h0
  by_cases h1 : i < 0
  · have he : blockZ a b c d k i = -1 := by unfold blockZ; rw [if_neg (by omega)]
    rw [he]
    have d1 : decide (i < 0) = true := by simpa using h1
    clear he hs
    go_enter Try.func46, Try.ntmps46
    go_wp2_with fail
    refine (RGStart_e HS.out _).mono ?_
    rintro e w1 ⟨rfl, hbel⟩
    have hB1 := below_step (below_new (below_self w) _) hbel
    have c0 := (hbel.cell (p := ⟨w.heap.size, 0, none⟩) (by simp)).trans (by simp : _ = some (Value.int .i64 a))
    have c1 := (hbel.cell (p := ⟨w.heap.size, 1, none⟩) (by simp)).trans (by simp : _ = some (Value.int .i64 b))
    have c2 := (hbel.cell (p := ⟨w.heap.size, 2, none⟩) (by simp)).trans (by simp : _ = some (Value.int .i64 c))
    have c3 := (hbel.cell (p := ⟨w.heap.size, 3, none⟩) (by simp)).trans (by simp : _ = some (Value.int .i64 d))
    have HB1 := hide hB1
    have hlt : w.heap.size < w1.heap.size := by have := hbel.size; simp at this; omega
    clear hbel hB1
    go_wp2_with fail
    go_ret
    exact VRet.of HB1.out
  have d1 : decide (i < 0) = false := by simpa using h1
  by_cases h2 : c ≤ i
  · have he : blockZ a b c d k i = -1 := by unfold blockZ; rw [if_neg (by omega)]
    rw [he]
    have d2 : decide (c ≤ i) = true := by simpa using h2
    clear he hs
    go_enter Try.func46, Try.ntmps46
    go_wp2_with fail
    refine (RGStart_e HS.out _).mono ?_
    rintro e w1 ⟨rfl, hbel⟩
    have hB1 := below_step (below_new (below_self w) _) hbel
    have c0 := (hbel.cell (p := ⟨w.heap.size, 0, none⟩) (by simp)).trans (by simp : _ = some (Value.int .i64 a))
    have c1 := (hbel.cell (p := ⟨w.heap.size, 1, none⟩) (by simp)).trans (by simp : _ = some (Value.int .i64 b))
    have c2 := (hbel.cell (p := ⟨w.heap.size, 2, none⟩) (by simp)).trans (by simp : _ = some (Value.int .i64 c))
    have c3 := (hbel.cell (p := ⟨w.heap.size, 3, none⟩) (by simp)).trans (by simp : _ = some (Value.int .i64 d))
    have HB1 := hide hB1
    have hlt : w.heap.size < w1.heap.size := by have := hbel.size; simp at this; omega
    clear hbel hB1
    go_wp2_with fail
    go_ret
    exact VRet.of HB1.out
  have d2 : decide (c ≤ i) = false := by simpa using h2
  have hg := start_ge (a := a) (b := b) (c := c) (d := d) (k := k) (by rw [hs]; exact h0)
  have hb := start_bound hg.1 hg.2.1 hg.2.2
  have hh := geo_yes hg.1
  rw [hs] at hb
  have he : blockZ a b c d k i = s + 1 + b + i := by unfold blockZ; rw [if_pos ⟨hg, by omega⟩, hs]
  rw [he]
  have hw1 : IntKind.i64.wrap (s + 1) = s + 1 := IntWalk.i64_in _ (by omega)
  have hw2 : IntKind.i64.wrap (s + 1 + b) = s + 1 + b := IntWalk.i64_in _ (by omega)
  have hw3 : IntKind.i64.wrap (s + 1 + b + i) = s + 1 + b + i := IntWalk.i64_in _ (by omega)
  clear he hs hg hh
  go_enter Try.func46, Try.ntmps46
  go_wp2_with fail
  refine (RGStart_e HS.out _).mono ?_
  rintro e w1 ⟨rfl, hbel⟩
  have hB1 := below_step (below_new (below_self w) _) hbel
  have c0 := (hbel.cell (p := ⟨w.heap.size, 0, none⟩) (by simp)).trans (by simp : _ = some (Value.int .i64 a))
  have c1 := (hbel.cell (p := ⟨w.heap.size, 1, none⟩) (by simp)).trans (by simp : _ = some (Value.int .i64 b))
  have c2 := (hbel.cell (p := ⟨w.heap.size, 2, none⟩) (by simp)).trans (by simp : _ = some (Value.int .i64 c))
  have c3 := (hbel.cell (p := ⟨w.heap.size, 3, none⟩) (by simp)).trans (by simp : _ = some (Value.int .i64 d))
  have HB1 := hide hB1
  have hlt : w.heap.size < w1.heap.size := by have := hbel.size; simp at this; omega
  clear hbel hB1
  go_wp2_with fail
  go_region_held3 (fun w' => Below w1.heap.size w1 w' ∧ w'.cell? ⟨w.heap.size, 0, none⟩ = some (.int .i64 a) ∧ w'.cell? ⟨w.heap.size, 1, none⟩ = some (.int .i64 b) ∧ w'.cell? ⟨w.heap.size, 2, none⟩ = some (.int .i64 c) ∧ w'.cell? ⟨w.heap.size, 3, none⟩ = some (.int .i64 d))
    (first | exact ⟨below_drewN (below_self w1) 1, c0, c1, c2, c3⟩ | exact held4 hbel hlt (by assumption))
    (first | (go_at_call 42; refine (RGStart_e HS.out _).mono ?_; rintro e w' ⟨rfl, hbel⟩))
  rename_i hH
  have HH2 := hide hH.1
  clear hH c0 c1 c2 c3
  go_wp2_with fail
  go_ret
  exact VRet.of (below_step HB1.out HH2.out)

set_option maxHeartbeats 800000 in
theorem RGLog_any (a b c d : Int) (w : World) : Calls Try.prog 48 #[.agg #[.int .i64 a, .int .i64 b, .int .i64 c, .int .i64 d]] w (VRet w (.int .i64 (logZ a b c d))) := by
  cases hg : geoB a b c d with
  | false =>
    rw [show logZ a b c d = -1 from by simp [logZ, hg]]
    have HE := hide (geoE_no hg)
    clear hg
    go_enter Try.func48, Try.ntmps48
    go_wp2_with fail
    refine (RGCheck_e HE.out _).mono ?_
    rintro e w1 ⟨rfl, hbel⟩
    have hB1 := below_step (below_new (below_self w) _) hbel
    have c0 := (hbel.cell (p := ⟨w.heap.size, 0, none⟩) (by simp)).trans (by simp : _ = some (Value.int .i64 a))
    have c1 := (hbel.cell (p := ⟨w.heap.size, 1, none⟩) (by simp)).trans (by simp : _ = some (Value.int .i64 b))
    have c2 := (hbel.cell (p := ⟨w.heap.size, 2, none⟩) (by simp)).trans (by simp : _ = some (Value.int .i64 c))
    have c3 := (hbel.cell (p := ⟨w.heap.size, 3, none⟩) (by simp)).trans (by simp : _ = some (Value.int .i64 d))
    have HB1 := hide hB1
    have hlt : w.heap.size < w1.heap.size := by have := hbel.size; simp at this; omega
    clear hbel hB1
    go_wp2_with fail
    go_ret
    exact VRet.of HB1.out
  | true =>
    have hb := tot_bound hg
    have hh := geo_yes hg
    rw [show logZ a b c d = totZ a b c d - d from by simp [logZ, hg]]
    obtain ⟨s, hs⟩ : ∃ s, totZ a b c d = s := ⟨_, rfl⟩
    have HS := hide hs
    rw [hs] at hb ⊢
    have HE := hide (geoE_yes hg)
    have hw1 : IntKind.i64.wrap (s - d) = s - d := IntWalk.i64_in _ (by omega)
    clear hg hh hs hb
    go_enter Try.func48, Try.ntmps48
    go_wp2_with fail
    refine (RGCheck_e HE.out _).mono ?_
    rintro e w1 ⟨rfl, hbel⟩
    have hB1 := below_step (below_new (below_self w) _) hbel
    have c0 := (hbel.cell (p := ⟨w.heap.size, 0, none⟩) (by simp)).trans (by simp : _ = some (Value.int .i64 a))
    have c1 := (hbel.cell (p := ⟨w.heap.size, 1, none⟩) (by simp)).trans (by simp : _ = some (Value.int .i64 b))
    have c2 := (hbel.cell (p := ⟨w.heap.size, 2, none⟩) (by simp)).trans (by simp : _ = some (Value.int .i64 c))
    have c3 := (hbel.cell (p := ⟨w.heap.size, 3, none⟩) (by simp)).trans (by simp : _ = some (Value.int .i64 d))
    have HB1 := hide hB1
    have hlt : w.heap.size < w1.heap.size := by have := hbel.size; simp at this; omega
    clear hbel hB1
    go_wp2_with fail
    go_region_held3 (fun w' => Below w1.heap.size w1 w' ∧ w'.cell? ⟨w.heap.size, 0, none⟩ = some (.int .i64 a) ∧ w'.cell? ⟨w.heap.size, 1, none⟩ = some (.int .i64 b) ∧ w'.cell? ⟨w.heap.size, 2, none⟩ = some (.int .i64 c) ∧ w'.cell? ⟨w.heap.size, 3, none⟩ = some (.int .i64 d))
      (first | exact ⟨below_drewN (below_self w1) 1, c0, c1, c2, c3⟩ | exact held4 hbel hlt (by assumption))
      (first | (go_at_call 40; refine (RGTotal_e HS.out _).mono ?_; rintro e w' ⟨rfl, hbel⟩))
    rename_i hH
    have HH2 := hide hH.1
    clear hH c0 c1 c2 c3
    go_wp2_with fail
    go_ret
    exact VRet.of (below_step HB1.out HH2.out)
theorem RGLog_e {a b c d e : Int} (h : logZ a b c d = e) (w : World) : Calls Try.prog 48 #[.agg #[.int .i64 a, .int .i64 b, .int .i64 c, .int .i64 d]] w (VRet w (.int .i64 e)) := by
  have := RGLog_any a b c d w; rw [h] at this; exact this

set_option maxHeartbeats 800000 in
theorem RGUpper_any (a b c d i : Int) (w : World) : Calls Try.prog 50 #[.agg #[.int .i64 a, .int .i64 b, .int .i64 c, .int .i64 d], .int .i64 i] w (VRet w (.bool (upperB a b c d i))) := by
  cases hg : geoB a b c d with
  | false =>
    rw [show upperB a b c d i = false from by simp [upperB, hg]]
    have HE := hide (geoE_no hg)
    clear hg
    go_enter Try.func50, Try.ntmps50
    go_wp2_with fail
    refine (RGCheck_e HE.out _).mono ?_
    rintro e w1 ⟨rfl, hbel⟩
    have hB1 := below_step (below_new (below_self w) _) hbel
    have c0 := (hbel.cell (p := ⟨w.heap.size, 0, none⟩) (by simp)).trans (by simp : _ = some (Value.int .i64 a))
    have c1 := (hbel.cell (p := ⟨w.heap.size, 1, none⟩) (by simp)).trans (by simp : _ = some (Value.int .i64 b))
    have c2 := (hbel.cell (p := ⟨w.heap.size, 2, none⟩) (by simp)).trans (by simp : _ = some (Value.int .i64 c))
    have c3 := (hbel.cell (p := ⟨w.heap.size, 3, none⟩) (by simp)).trans (by simp : _ = some (Value.int .i64 d))
    have HB1 := hide hB1
    have hlt : w.heap.size < w1.heap.size := by have := hbel.size; simp at this; omega
    clear hbel hB1
    go_wp2_with fail
    go_ret
    exact VRet.of HB1.out
  | true =>
    have HE := hide (geoE_yes hg)
    obtain ⟨s, hs⟩ : ∃ s, startZ a b c d 0 = s := ⟨_, rfl⟩
    obtain ⟨l, hl⟩ : ∃ l, logZ a b c d = l := ⟨_, rfl⟩
    have hu : upperB a b c d i = (decide (s ≤ i) && decide (i < l)) := by unfold upperB; rw [hg, hs, hl]; rfl
    rw [hu]
    have HS := hide hs
    have HL := hide hl
    clear hg hs hl hu
    by_cases h1 : s ≤ i
    · have d1 : decide (s ≤ i) = true := by simpa using h1
      rw [d1, Bool.true_and]
      go_enter Try.func50, Try.ntmps50
      go_wp2_with fail
      refine (RGCheck_e HE.out _).mono ?_
      rintro e w1 ⟨rfl, hbel⟩
      have hB1 := below_step (below_new (below_self w) _) hbel
      have c0 := (hbel.cell (p := ⟨w.heap.size, 0, none⟩) (by simp)).trans (by simp : _ = some (Value.int .i64 a))
      have c1 := (hbel.cell (p := ⟨w.heap.size, 1, none⟩) (by simp)).trans (by simp : _ = some (Value.int .i64 b))
      have c2 := (hbel.cell (p := ⟨w.heap.size, 2, none⟩) (by simp)).trans (by simp : _ = some (Value.int .i64 c))
      have c3 := (hbel.cell (p := ⟨w.heap.size, 3, none⟩) (by simp)).trans (by simp : _ = some (Value.int .i64 d))
      have HB1 := hide hB1
      have hlt : w.heap.size < w1.heap.size := by have := hbel.size; simp at this; omega
      clear hbel hB1
      go_wp2_with fail
      refine (RGStart_e HS.out _).mono ?_
      rintro e w2 ⟨rfl, hbel⟩
      have HB2 := hide (below_step HB1.out hbel)
      have c0 := (hbel.cell (p := ⟨w.heap.size, 0, none⟩) (by omega)).trans c0
      have c1 := (hbel.cell (p := ⟨w.heap.size, 1, none⟩) (by omega)).trans c1
      have c2 := (hbel.cell (p := ⟨w.heap.size, 2, none⟩) (by omega)).trans c2
      have c3 := (hbel.cell (p := ⟨w.heap.size, 3, none⟩) (by omega)).trans c3
      have hlt : w.heap.size < w2.heap.size := by have := hbel.size; omega
      clear hbel
      go_wp2_with fail
      refine (RGLog_e HL.out _).mono ?_
      rintro e w3 ⟨rfl, hbel⟩
      have HB3 := hide (below_step HB2.out hbel)
      have c0 := (hbel.cell (p := ⟨w.heap.size, 0, none⟩) (by omega)).trans c0
      have c1 := (hbel.cell (p := ⟨w.heap.size, 1, none⟩) (by omega)).trans c1
      have c2 := (hbel.cell (p := ⟨w.heap.size, 2, none⟩) (by omega)).trans c2
      have c3 := (hbel.cell (p := ⟨w.heap.size, 3, none⟩) (by omega)).trans c3
      have hlt : w.heap.size < w3.heap.size := by have := hbel.size; omega
      clear hbel
      go_wp2_with fail
      go_ret
      exact VRet.eq (by simp) HB3.out
    · have d1 : decide (s ≤ i) = false := by simpa using h1
      rw [d1, Bool.false_and]
      go_enter Try.func50, Try.ntmps50
      go_wp2_with fail
      refine (RGCheck_e HE.out _).mono ?_
      rintro e w1 ⟨rfl, hbel⟩
      have hB1 := below_step (below_new (below_self w) _) hbel
      have c0 := (hbel.cell (p := ⟨w.heap.size, 0, none⟩) (by simp)).trans (by simp : _ = some (Value.int .i64 a))
      have c1 := (hbel.cell (p := ⟨w.heap.size, 1, none⟩) (by simp)).trans (by simp : _ = some (Value.int .i64 b))
      have c2 := (hbel.cell (p := ⟨w.heap.size, 2, none⟩) (by simp)).trans (by simp : _ = some (Value.int .i64 c))
      have c3 := (hbel.cell (p := ⟨w.heap.size, 3, none⟩) (by simp)).trans (by simp : _ = some (Value.int .i64 d))
      have HB1 := hide hB1
      have hlt : w.heap.size < w1.heap.size := by have := hbel.size; simp at this; omega
      clear hbel hB1
      go_wp2_with fail
      refine (RGStart_e HS.out _).mono ?_
      rintro e w2 ⟨rfl, hbel⟩
      have HB2 := hide (below_step HB1.out hbel)
      have c0 := (hbel.cell (p := ⟨w.heap.size, 0, none⟩) (by omega)).trans c0
      have c1 := (hbel.cell (p := ⟨w.heap.size, 1, none⟩) (by omega)).trans c1
      have c2 := (hbel.cell (p := ⟨w.heap.size, 2, none⟩) (by omega)).trans c2
      have c3 := (hbel.cell (p := ⟨w.heap.size, 3, none⟩) (by omega)).trans c3
      have hlt : w.heap.size < w2.heap.size := by have := hbel.size; omega
      clear hbel
      go_wp2_with fail
      go_ret
      exact VRet.of HB2.out
end Go.Proofs.Ytpflpampogngiaa
