/- Contracts of the program's geo: within, Check, span, begin, log, Total. -/
import Derived.Test.YtpflpampogngiaaRefGeoC
import Derived.Test.YtpflpampogngiaaSumD
import Derived.Deep.RegionHeld3
namespace Go.Proofs.Ytpflpampogngiaa
open Go.RowKit Plain

set_option maxHeartbeats 400000 in
theorem Within_b {n l g : Int} {b : Bool} (h : (decide (l ≤ n) && decide (n ≤ g)) = b) (w : World) : Calls Try.prog 69 #[.int .i64 n, .int .i64 l, .int .i64 g] w (fun e w' => e = .returned (.bool b) ∧ w = w') := by
  subst h
  by_cases h1 : l ≤ n
  · have d1 : decide (l ≤ n) = true := by simpa using h1
    rw [d1, Bool.true_and]
    go_enter Try.func69, Try.ntmps69
    go_wp2_with fail
    go_ret
    exact ⟨rfl, rfl⟩
  · have d1 : decide (l ≤ n) = false := by simpa using h1
    rw [d1, Bool.false_and]
    go_enter Try.func69, Try.ntmps69
    go_wp2_with fail
    go_ret
    exact ⟨rfl, rfl⟩
theorem geo_parts (a b c d : Int) : geoB a b c d = ((decide (1 ≤ a) && decide (a ≤ 3)) && ((decide (4 ≤ b) && decide (b ≤ 24)) && ((decide (1 ≤ c) && decide (c ≤ 60)) && (decide (1 ≤ d) && decide (d ≤ 64))))) := by
  unfold geoB
  rw [Bool.eq_iff_iff]
  simp
  omega
set_option maxRecDepth 100000 in
set_option maxHeartbeats 800000 in
theorem GCheck_e {a b c d e : Int} (h : geoE a b c d = e) (w : World) : Calls Try.prog 37 #[.agg #[.int .i64 a, .int .i64 b, .int .i64 c, .int .i64 d]] w (VRet w (.int .i64 e)) := by
  unfold geoE at h
  rw [geo_parts] at h
  obtain ⟨b0, h0⟩ : ∃ b0, (decide ((1 : Int) ≤ a) && decide (a ≤ 3)) = b0 := ⟨_, rfl⟩
  rw [h0] at h
  have H0 := hide h0
  clear h0
  obtain ⟨b1, h1⟩ : ∃ b1, (decide ((4 : Int) ≤ b) && decide (b ≤ 24)) = b1 := ⟨_, rfl⟩
  rw [h1] at h
  have H1 := hide h1
  clear h1
  obtain ⟨b2, h2⟩ : ∃ b2, (decide ((1 : Int) ≤ c) && decide (c ≤ 60)) = b2 := ⟨_, rfl⟩
  rw [h2] at h
  have H2 := hide h2
  clear h2
  obtain ⟨b3, h3⟩ : ∃ b3, (decide ((1 : Int) ≤ d) && decide (d ≤ 64)) = b3 := ⟨_, rfl⟩
  rw [h3] at h
  have H3 := hide h3
  clear h3
  cases b0 with
  | false =>
    obtain rfl : e = 1 := by simp at h; omega
    clear h
    go_enter Try.func37, Try.ntmps37
    go_wp2_with fail
    refine (Within_b H0.out _).mono ?_
    rintro e w' ⟨rfl, rfl⟩
    go_wp2_with fail
    go_ret
    exact VRet.of (below_new (below_self w) _)
  | true =>
  cases b1 with
  | false =>
    obtain rfl : e = 1 := by simp at h; omega
    clear h
    go_enter Try.func37, Try.ntmps37
    go_wp2_with fail
    refine (Within_b H0.out _).mono ?_
    rintro e w' ⟨rfl, rfl⟩
    go_wp2_with fail
    refine (Within_b H1.out _).mono ?_
    rintro e w' ⟨rfl, rfl⟩
    go_wp2_with fail
    go_ret
    exact VRet.of (below_new (below_self w) _)
  | true =>
  cases b2 with
  | false =>
    obtain rfl : e = 1 := by simp at h; omega
    clear h
    go_enter Try.func37, Try.ntmps37
    go_wp2_with fail
    refine (Within_b H0.out _).mono ?_
    rintro e w' ⟨rfl, rfl⟩
    go_wp2_with fail
    refine (Within_b H1.out _).mono ?_
    rintro e w' ⟨rfl, rfl⟩
    go_wp2_with fail
    refine (Within_b H2.out _).mono ?_
    rintro e w' ⟨rfl, rfl⟩
    go_wp2_with fail
    go_ret
    exact VRet.of (below_new (below_self w) _)
  | true =>
  cases b3 with
  | false =>
    obtain rfl : e = 1 := by simp at h; omega
    clear h
    go_enter Try.func37, Try.ntmps37
    go_wp2_with fail
    refine (Within_b H0.out _).mono ?_
    rintro e w' ⟨rfl, rfl⟩
    go_wp2_with fail
    refine (Within_b H1.out _).mono ?_
    rintro e w' ⟨rfl, rfl⟩
    go_wp2_with fail
    refine (Within_b H2.out _).mono ?_
    rintro e w' ⟨rfl, rfl⟩
    go_wp2_with fail
    refine (Within_b H3.out _).mono ?_
    rintro e w' ⟨rfl, rfl⟩
    go_wp2_with fail
    go_ret
    exact VRet.of (below_new (below_self w) _)
  | true =>
    obtain rfl : e = 0 := by simp at h; omega
    clear h
    go_enter Try.func37, Try.ntmps37
    go_wp2_with fail
    refine (Within_b H0.out _).mono ?_
    rintro e w' ⟨rfl, rfl⟩
    go_wp2_with fail
    refine (Within_b H1.out _).mono ?_
    rintro e w' ⟨rfl, rfl⟩
    go_wp2_with fail
    refine (Within_b H2.out _).mono ?_
    rintro e w' ⟨rfl, rfl⟩
    go_wp2_with fail
    refine (Within_b H3.out _).mono ?_
    rintro e w' ⟨rfl, rfl⟩
    go_wp2_with fail
    go_ret
    exact VRet.of (below_new (below_self w) _)
set_option maxRecDepth 100000 in
set_option maxHeartbeats 800000 in
theorem LSpan_any (a b c d : Int) (hb : 0 ≤ b) (hb2 : b ≤ 24) (hc : 0 ≤ c) (hc2 : c ≤ 60) (w : World) : Calls Try.prog 83 #[.agg #[.int .i64 a, .int .i64 b, .int .i64 c, .int .i64 d]] w (VRet w (.int .i64 (1 + b + c))) := by
  go_enter Try.func83, Try.ntmps83
  go_wp2
  go_ret
  exact VRet.of (below_new (below_self w) _)
set_option maxRecDepth 100000 in
set_option maxHeartbeats 800000 in
theorem LBegin_e {a b c d k e : Int} (hg : geoB a b c d = true) (h0 : 0 ≤ k) (h1 : k ≤ a) (h : startZ a b c d k = e) (w : World) : Calls Try.prog 72 #[.agg #[.int .i64 a, .int .i64 b, .int .i64 c, .int .i64 d], .int .i64 k] w (VRet w (.int .i64 e)) := by
  have hh := geo_yes hg
  subst h
  by_cases h3 : k = 0
  · subst h3
    obtain ⟨k1, k2⟩ := lay_bound hg a (by omega) (by omega)
    have he : startZ a b c d 0 = 1 + a * (1 + b + c) := by unfold startZ; rw [if_pos ⟨hg, by omega, by omega⟩]; rfl
    rw [he]
    obtain ⟨p, hp⟩ : ∃ p, a * (1 + b + c) = p := ⟨_, rfl⟩
    rw [hp] at k1 k2 ⊢
    have hw2 : IntKind.i64.wrap (a * (1 + b + c)) = p := by rw [hp]; exact IntWalk.i64_in _ (by omega)
    have hw3 : IntKind.i64.wrap (1 + p) = 1 + p := IntWalk.i64_in _ (by omega)
    have HH := hide hh
    clear hg hp hh he k1 k2 h0 h1
    go_enter Try.func72, Try.ntmps72
    go_wp2_with fail
    refine (LSpan_any a b c d (by have := HH.out; omega) (by have := HH.out; omega) (by have := HH.out; omega) (by have := HH.out; omega) _).mono ?_
    rintro e w1 ⟨rfl, hbel⟩
    have HB1 := hide (below_step (below_new (below_self w) _) hbel)
    clear hbel
    go_wp2_with fail
    go_ret
    exact VRet.of HB1.out
  · obtain ⟨k1, k2⟩ := lay_bound hg (k - 1) (by omega) (by omega)
    have he : startZ a b c d k = 1 + (k - 1) * (1 + b + c) := by unfold startZ; rw [if_pos ⟨hg, by omega, by omega⟩, if_neg h3]
    rw [he]
    obtain ⟨p, hp⟩ : ∃ p, (k - 1) * (1 + b + c) = p := ⟨_, rfl⟩
    rw [hp] at k1 k2 ⊢
    have hw1 : IntKind.i64.wrap (k - 1) = k - 1 := IntWalk.i64_in _ (by omega)
    have hw2 : IntKind.i64.wrap ((k - 1) * (1 + b + c)) = p := by rw [hp]; exact IntWalk.i64_in _ (by omega)
    have hw3 : IntKind.i64.wrap (1 + p) = 1 + p := IntWalk.i64_in _ (by omega)
    have d3 : (k == 0) = false := by simpa using h3
    have HH := hide hh
    clear hg hp hh he k1 k2 h3 h0 h1
    go_enter Try.func72, Try.ntmps72
    go_wp2_with fail
    refine (LSpan_any a b c d (by have := HH.out; omega) (by have := HH.out; omega) (by have := HH.out; omega) (by have := HH.out; omega) _).mono ?_
    rintro e w1 ⟨rfl, hbel⟩
    have HB1 := hide (below_step (below_new (below_self w) _) hbel)
    clear hbel
    go_wp2_with fail
    go_ret
    exact VRet.of HB1.out
theorem log_eq {a b c d : Int} (hg : geoB a b c d = true) : logZ a b c d = startZ a b c d 0 + (1 + b + c) := by
  have hh := geo_yes hg
  have h2 : startZ a b c d 0 = 1 + a * (1 + b + c) := by unfold startZ; rw [if_pos ⟨hg, by omega, by omega⟩]; rfl
  rw [h2]
  unfold logZ totZ
  rw [if_pos hg, if_pos hg, Int.add_mul]
  omega
theorem log_bound {a b c d : Int} (hg : geoB a b c d = true) : 1 ≤ logZ a b c d ∧ logZ a b c d ≤ 405 ∧ totZ a b c d = logZ a b c d + d := by
  have hh := geo_yes hg
  have ht := tot_bound hg
  have hs := start_bound hg (k := 0) (by omega) (by omega)
  have e := log_eq hg
  refine ⟨by omega, ?_, ?_⟩
  · unfold logZ; rw [if_pos hg]; omega
  · unfold logZ; rw [if_pos hg]; omega
set_option maxRecDepth 100000 in
set_option maxHeartbeats 800000 in
theorem LLog_e {a b c d e : Int} (hg : geoB a b c d = true) (h : logZ a b c d = e) (w : World) : Calls Try.prog 70 #[.agg #[.int .i64 a, .int .i64 b, .int .i64 c, .int .i64 d]] w (VRet w (.int .i64 e)) := by
  have hh := geo_yes hg
  have hb := log_bound hg
  rw [log_eq hg] at h hb
  obtain ⟨s, hs⟩ : ∃ s, startZ a b c d 0 = s := ⟨_, rfl⟩
  rw [hs] at h hb
  have hw1 : IntKind.i64.wrap (s + (1 + b + c)) = e := by rw [← h]; exact IntWalk.i64_in _ (by omega)
  have HG := hide hg
  have HS := hide hs
  have HH := hide hh
  clear hg hs hh hb h
  go_enter Try.func70, Try.ntmps70
  go_wp2_with fail
  have c0 : (w.alloc (.cells #[Value.int .i64 a, Value.int .i64 b, Value.int .i64 c, Value.int .i64 d] 99)).cell? ⟨w.heap.size, 0, none⟩ = some (Value.int .i64 a) := by simp
  have c1 : (w.alloc (.cells #[Value.int .i64 a, Value.int .i64 b, Value.int .i64 c, Value.int .i64 d] 99)).cell? ⟨w.heap.size, 1, none⟩ = some (Value.int .i64 b) := by simp
  have c2 : (w.alloc (.cells #[Value.int .i64 a, Value.int .i64 b, Value.int .i64 c, Value.int .i64 d] 99)).cell? ⟨w.heap.size, 2, none⟩ = some (Value.int .i64 c) := by simp
  have c3 : (w.alloc (.cells #[Value.int .i64 a, Value.int .i64 b, Value.int .i64 c, Value.int .i64 d] 99)).cell? ⟨w.heap.size, 3, none⟩ = some (Value.int .i64 d) := by simp
  have hB1 : Below w.heap.size w (w.alloc (.cells #[Value.int .i64 a, Value.int .i64 b, Value.int .i64 c, Value.int .i64 d] 99)) := below_new (below_self w) _
  have hlt : w.heap.size < (w.alloc (.cells #[Value.int .i64 a, Value.int .i64 b, Value.int .i64 c, Value.int .i64 d] 99)).heap.size := by simp
  generalize hW : (w.alloc (.cells #[Value.int .i64 a, Value.int .i64 b, Value.int .i64 c, Value.int .i64 d] 99)) = w1 at c0 c1 c2 c3 hB1 hlt ⊢
  clear hW
  have HB1 := hide hB1
  clear hB1
  go_region_held3 (fun w' => Below w1.heap.size w1 w' ∧ w'.cell? ⟨w.heap.size, 0, none⟩ = some (.int .i64 a) ∧ w'.cell? ⟨w.heap.size, 1, none⟩ = some (.int .i64 b) ∧ w'.cell? ⟨w.heap.size, 2, none⟩ = some (.int .i64 c) ∧ w'.cell? ⟨w.heap.size, 3, none⟩ = some (.int .i64 d))
    (first | exact ⟨below_drewN (below_self w1) 1, c0, c1, c2, c3⟩ | exact held4 hbel hlt (by assumption))
    (first | (go_at_call 72; refine (LBegin_e HG.out (by omega) (by have := HH.out; omega) HS.out _).mono ?_; rintro e w' ⟨rfl, hbel⟩) | (go_at_call 83; refine (LSpan_any a b c d (by have := HH.out; omega) (by have := HH.out; omega) (by have := HH.out; omega) (by have := HH.out; omega) _).mono ?_; rintro e w' ⟨rfl, hbel⟩))
  rename_i hH
  have HH2 := hide hH.1
  clear hH c0 c1 c2 c3
  go_wp2_with fail
  go_ret
  exact VRet.of (below_step HB1.out HH2.out)
set_option maxRecDepth 100000 in
set_option maxHeartbeats 800000 in
theorem GTotal_e {a b c d e : Int} (h : totZ a b c d = e) (w : World) : Calls Try.prog 39 #[.agg #[.int .i64 a, .int .i64 b, .int .i64 c, .int .i64 d]] w (VRet w (.int .i64 e)) := by
  cases hg : geoB a b c d with
  | false =>
    obtain rfl : e = 0 := by rw [← h]; simp [totZ, hg]
    have HE := hide (geoE_no hg)
    clear h hg
    go_enter Try.func39, Try.ntmps39
    go_wp2_with fail
    refine (GCheck_e HE.out _).mono ?_
    rintro e w1 ⟨rfl, hbel⟩
    have hB1 := below_step (below_new (below_self w) _) hbel
    have c0 := (hbel.cell (p := ⟨w.heap.size, 0, none⟩) (by simp)).trans (by simp : _ = some (Value.int .i64 a))
    have c1 := (hbel.cell (p := ⟨w.heap.size, 1, none⟩) (by simp)).trans (by simp : _ = some (Value.int .i64 b))
    have c2 := (hbel.cell (p := ⟨w.heap.size, 2, none⟩) (by simp)).trans (by simp : _ = some (Value.int .i64 c))
    have c3 := (hbel.cell (p := ⟨w.heap.size, 3, none⟩) (by simp)).trans (by simp : _ = some (Value.int .i64 d))
    have HB1 := hide hB1
    have hlt : w.heap.size < w1.heap.size := by have := hbel.size; simp at this; omega
    clear hbel hB1
    go_wp2_with fail
    go_ret
    exact VRet.of HB1.out
  | true =>
    have hb := log_bound hg
    have hh := geo_yes hg
    obtain ⟨s, hs⟩ : ∃ s, logZ a b c d = s := ⟨_, rfl⟩
    rw [hs] at hb
    have hw1 : IntKind.i64.wrap (s + d) = e := by rw [← h, hb.2.2]; exact IntWalk.i64_in _ (by omega)
    have HE := hide (geoE_yes hg)
    have HG := hide hg
    have HS := hide hs
    clear h hg hs hh hb
    go_enter Try.func39, Try.ntmps39
    go_wp2_with fail
    refine (GCheck_e HE.out _).mono ?_
    rintro e w1 ⟨rfl, hbel⟩
    have hB1 := below_step (below_new (below_self w) _) hbel
    have c0 := (hbel.cell (p := ⟨w.heap.size, 0, none⟩) (by simp)).trans (by simp : _ = some (Value.int .i64 a))
    have c1 := (hbel.cell (p := ⟨w.heap.size, 1, none⟩) (by simp)).trans (by simp : _ = some (Value.int .i64 b))
    have c2 := (hbel.cell (p := ⟨w.heap.size, 2, none⟩) (by simp)).trans (by simp : _ = some (Value.int .i64 c))
    have c3 := (hbel.cell (p := ⟨w.heap.size, 3, none⟩) (by simp)).trans (by simp : _ = some (Value.int .i64 d))
    have HB1 := hide hB1
    have hlt : w.heap.size < w1.heap.size := by have := hbel.size; simp at this; omega
    clear hbel hB1
    go_wp2_with fail
    clear c0 c1 c2 c3 hlt
    have c0 : (w1.alloc (.cells #[Value.int .i64 a, Value.int .i64 b, Value.int .i64 c, Value.int .i64 d] 99)).cell? ⟨w1.heap.size, 0, none⟩ = some (Value.int .i64 a) := by simp
    have c1 : (w1.alloc (.cells #[Value.int .i64 a, Value.int .i64 b, Value.int .i64 c, Value.int .i64 d] 99)).cell? ⟨w1.heap.size, 1, none⟩ = some (Value.int .i64 b) := by simp
    have c2 : (w1.alloc (.cells #[Value.int .i64 a, Value.int .i64 b, Value.int .i64 c, Value.int .i64 d] 99)).cell? ⟨w1.heap.size, 2, none⟩ = some (Value.int .i64 c) := by simp
    have c3 : (w1.alloc (.cells #[Value.int .i64 a, Value.int .i64 b, Value.int .i64 c, Value.int .i64 d] 99)).cell? ⟨w1.heap.size, 3, none⟩ = some (Value.int .i64 d) := by simp
    have hB1 : Below w1.heap.size w1 (w1.alloc (.cells #[Value.int .i64 a, Value.int .i64 b, Value.int .i64 c, Value.int .i64 d] 99)) := below_new (below_self w1) _
    have hlt : w1.heap.size < (w1.alloc (.cells #[Value.int .i64 a, Value.int .i64 b, Value.int .i64 c, Value.int .i64 d] 99)).heap.size := by simp
    generalize hW : (w1.alloc (.cells #[Value.int .i64 a, Value.int .i64 b, Value.int .i64 c, Value.int .i64 d] 99)) = w2 at c0 c1 c2 c3 hB1 hlt ⊢
    clear hW
    have HB2 := hide (below_step HB1.out hB1)
    clear hB1
    go_region_held3 (fun w' => Below w2.heap.size w2 w' ∧ w'.cell? ⟨w1.heap.size, 0, none⟩ = some (.int .i64 a) ∧ w'.cell? ⟨w1.heap.size, 1, none⟩ = some (.int .i64 b) ∧ w'.cell? ⟨w1.heap.size, 2, none⟩ = some (.int .i64 c) ∧ w'.cell? ⟨w1.heap.size, 3, none⟩ = some (.int .i64 d))
      (first | exact ⟨below_drewN (below_self w2) 1, c0, c1, c2, c3⟩ | exact held4 hbel hlt (by assumption))
      (first | (go_at_call 70; refine (LLog_e HG.out HS.out _).mono ?_; rintro e w' ⟨rfl, hbel⟩))
    rename_i hH
    have HH2 := hide hH.1
    clear hH c0 c1 c2 c3
    go_wp2_with fail
    go_ret
    exact VRet.of (below_step HB2.out HH2.out)
end Go.Proofs.Ytpflpampogngiaa
