/- Contracts of the reference's Total, Start, Inode, Block, Log, Upper (layer 6). -/
import Derived.Test.YtpflpampogngiaaRefGeoA
import Derived.Deep.RegionHeld3
namespace Go.Proofs.Ytpflpampogngiaa
open Go.RowKit Plain

/-- How many sectors there are. -/
def totZ (a b c d : Int) : Int := if geoB a b c d = true then 1 + (a + 1) * (1 + b + c) + d else 0
/-- Where a layer begins. -/
def startZ (a b c d k : Int) : Int := if geoB a b c d = true ∧ 0 ≤ k ∧ k ≤ a then (if k = 0 then 1 + a * (1 + b + c) else 1 + (k - 1) * (1 + b + c)) else -1
def inodeZ (a b c d k i : Int) : Int := if (geoB a b c d = true ∧ 0 ≤ k ∧ k ≤ a) ∧ 1 ≤ i ∧ i ≤ b then startZ a b c d k + i else -1
def blockZ (a b c d k i : Int) : Int := if (geoB a b c d = true ∧ 0 ≤ k ∧ k ≤ a) ∧ 0 ≤ i ∧ i < c then startZ a b c d k + 1 + b + i else -1
def logZ (a b c d : Int) : Int := if geoB a b c d = true then totZ a b c d - d else -1
def upperB (a b c d i : Int) : Bool := geoB a b c d && (decide (startZ a b c d 0 ≤ i) && decide (i < logZ a b c d))
theorem lay_bound {a b c d : Int} (h : geoB a b c d = true) (k : Int) (h0 : 0 ≤ k) (h1 : k ≤ 4) : 0 ≤ k * (1 + b + c) ∧ k * (1 + b + c) ≤ 340 := by
  have hh := geo_yes h
  have hl : 6 ≤ 1 + b + c ∧ 1 + b + c ≤ 85 := by omega
  have h2 : 0 ≤ k * (1 + b + c) := Int.mul_nonneg h0 (by omega)
  have h3 : k * (1 + b + c) ≤ 4 * 85 := Int.mul_le_mul h1 hl.2 (by omega) (by omega)
  exact ⟨h2, by omega⟩
theorem geoE_yes {a b c d : Int} (h : geoB a b c d = true) : geoE a b c d = 0 := by unfold geoE; rw [if_pos h]
theorem geoE_no {a b c d : Int} (h : geoB a b c d = false) : geoE a b c d = 1 := by unfold geoE; rw [h]; rfl
theorem tot_bound {a b c d : Int} (h : geoB a b c d = true) : 1 ≤ totZ a b c d ∧ totZ a b c d ≤ 405 ∧ totZ a b c d = 1 + (a + 1) * (1 + b + c) + d := by
  have hh := geo_yes h
  obtain ⟨k1, k2⟩ := lay_bound h (a + 1) (by omega) (by omega)
  have e : totZ a b c d = 1 + (a + 1) * (1 + b + c) + d := by unfold totZ; rw [if_pos h]
  omega
theorem start_bound {a b c d k : Int} (h : geoB a b c d = true) (h0 : 0 ≤ k) (h1 : k ≤ a) : 1 ≤ startZ a b c d k ∧ startZ a b c d k ≤ 341 := by
  have hh := geo_yes h
  unfold startZ
  rw [if_pos ⟨h, h0, h1⟩]
  split
  · have := lay_bound h a (by omega) (by omega); omega
  · have := lay_bound h (k - 1) (by omega) (by omega); omega
theorem start_no {a b c d k : Int} (h : ¬ (geoB a b c d = true ∧ 0 ≤ k ∧ k ≤ a)) : startZ a b c d k = -1 := by unfold startZ; rw [if_neg h]
/-- Four cells, and all that was there ahead, behind a call that turns nothing. -/
theorem held4 {w1 W W' : World} {g : Nat} {a b c d : Value} (hbel : Below W.heap.size W W') (hg : g < w1.heap.size)
    (h : Below w1.heap.size w1 W ∧ W.cell? ⟨g, 0, none⟩ = some a ∧ W.cell? ⟨g, 1, none⟩ = some b ∧ W.cell? ⟨g, 2, none⟩ = some c ∧ W.cell? ⟨g, 3, none⟩ = some d) :
    Below w1.heap.size w1 W' ∧ W'.cell? ⟨g, 0, none⟩ = some a ∧ W'.cell? ⟨g, 1, none⟩ = some b ∧ W'.cell? ⟨g, 2, none⟩ = some c ∧ W'.cell? ⟨g, 3, none⟩ = some d := by
  obtain ⟨h0, h1, h2, h3, h4⟩ := h
  have hlt : g < W.heap.size := by have := h0.size; omega
  exact ⟨below_step h0 hbel, (hbel.cell (p := ⟨g, 0, none⟩) hlt).trans h1, (hbel.cell (p := ⟨g, 1, none⟩) hlt).trans h2, (hbel.cell (p := ⟨g, 2, none⟩) hlt).trans h3, (hbel.cell (p := ⟨g, 3, none⟩) hlt).trans h4⟩

set_option maxHeartbeats 400000 in
theorem RGTotal_no {a b c d : Int} (h : geoB a b c d = false) (w : World) : Calls Try.prog 40 #[.agg #[.int .i64 a, .int .i64 b, .int .i64 c, .int .i64 d]] w (VRet w (.int .i64 0)) := by
  have HE := hide (geoE_no h)
  clear h
  go_enter Try.func40, Try.ntmps40
  go_wp2_with fail
  refine (RGCheck_e HE.out _).mono ?_
  rintro e w1 ⟨rfl, hbel⟩
  have hB1 := below_step (below_new (below_self w) _) hbel
  have c0 := (hbel.cell (p := ⟨w.heap.size, 0, none⟩) (by simp)).trans (by simp : _ = some (Value.int .i64 a))
  have c1 := (hbel.cell (p := ⟨w.heap.size, 1, none⟩) (by simp)).trans (by simp : _ = some (Value.int .i64 b))
  have c2 := (hbel.cell (p := ⟨w.heap.size, 2, none⟩) (by simp)).trans (by simp : _ = some (Value.int .i64 c))
  have c3 := (hbel.cell (p := ⟨w.heap.size, 3, none⟩) (by simp)).trans (by simp : _ = some (Value.int .i64 d))
  have HB1 := hide hB1
  have hlt : w.heap.size < w1.heap.size := by have := hbel.size; simp at this; omega
  clear hbel hB1
  go_wp2_with fail
  go_ret
  exact VRet.of HB1.out
set_option maxHeartbeats 400000 in
theorem RGTotal_yes {a b c d : Int} (h : geoB a b c d = true) (w : World) : Calls Try.prog 40 #[.agg #[.int .i64 a, .int .i64 b, .int .i64 c, .int .i64 d]] w (VRet w (.int .i64 (totZ a b c d))) := by
  have hh := geo_yes h
  obtain ⟨k1, k2⟩ := lay_bound h (a + 1) (by omega) (by omega)
  rw [(tot_bound h).2.2]
  obtain ⟨p, hp⟩ : ∃ p, (a + 1) * (1 + b + c) = p := ⟨_, rfl⟩
  rw [hp] at k1 k2 ⊢
  have hw1 : IntKind.i64.wrap (a + 1) = a + 1 := IntWalk.i64_in _ (by omega)
  have hw2 : IntKind.i64.wrap ((a + 1) * (1 + b + c)) = p := by rw [hp]; exact IntWalk.i64_in _ (by omega)
  have hw3 : IntKind.i64.wrap (1 + p) = 1 + p := IntWalk.i64_in _ (by omega)
  have hw4 : IntKind.i64.wrap (1 + p + d) = 1 + p + d := IntWalk.i64_in _ (by omega)
  have HE := hide (geoE_yes h)
  have HH := hide hh
  clear h hp hh k1 k2
  go_enter Try.func40, Try.ntmps40
  go_wp2_with fail
  refine (RGCheck_e HE.out _).mono ?_
  rintro e w1 ⟨rfl, hbel⟩
  have hB1 := below_step (below_new (below_self w) _) hbel
  have c0 := (hbel.cell (p := ⟨w.heap.size, 0, none⟩) (by simp)).trans (by simp : _ = some (Value.int .i64 a))
  have c1 := (hbel.cell (p := ⟨w.heap.size, 1, none⟩) (by simp)).trans (by simp : _ = some (Value.int .i64 b))
  have c2 := (hbel.cell (p := ⟨w.heap.size, 2, none⟩) (by simp)).trans (by simp : _ = some (Value.int .i64 c))
  have c3 := (hbel.cell (p := ⟨w.heap.size, 3, none⟩) (by simp)).trans (by simp : _ = some (Value.int .i64 d))
  have HB1 := hide hB1
  have hlt : w.heap.size < w1.heap.size := by have := hbel.size; simp at this; omega
  clear hbel hB1
  go_wp2_with fail
  go_region_held3 (fun w' => Below w1.heap.size w1 w' ∧ w'.cell? ⟨w.heap.size, 0, none⟩ = some (.int .i64 a) ∧ w'.cell? ⟨w.heap.size, 1, none⟩ = some (.int .i64 b) ∧ w'.cell? ⟨w.heap.size, 2, none⟩ = some (.int .i64 c) ∧ w'.cell? ⟨w.heap.size, 3, none⟩ = some (.int .i64 d))
    (first | exact ⟨below_drewN (below_self w1) 1, c0, c1, c2, c3⟩ | exact held4 hbel hlt (by assumption))
    (first | (go_at_call 71; refine (RGLayer_any a b c d (by have := HH.out; omega) (by have := HH.out; omega) (by have := HH.out; omega) (by have := HH.out; omega) _).mono ?_; rintro e w' ⟨rfl, hbel⟩))
  rename_i hH
  have HH2 := hide hH.1
  clear hH c0 c1 c2 c3
  go_wp2_with fail
  go_ret
  exact VRet.of (below_step HB1.out HH2.out)
theorem RGTotal_e {a b c d e : Int} (h : totZ a b c d = e) (w : World) : Calls Try.prog 40 #[.agg #[.int .i64 a, .int .i64 b, .int .i64 c, .int .i64 d]] w (VRet w (.int .i64 e)) := by
  rw [← h]
  cases hg : geoB a b c d with
  | true => exact RGTotal_yes hg w
  | false => rw [show totZ a b c d = 0 from by simp [totZ, hg]]; exact RGTotal_no hg w

set_option maxHeartbeats 800000 in
theorem RGStart_any (a b c d k : Int) (w : World) : Calls Try.prog 42 #[.agg #[.int .i64 a, .int .i64 b, .int .i64 c, .int .i64 d], .int .i64 k] w (VRet w (.int .i64 (startZ a b c d k))) := by
  cases hg : geoB a b c d with
  | false =>
    have HE := hide (geoE_no hg)
    rw [start_no (by rw [hg]; simp)]
    clear hg
    go_enter Try.func42, Try.ntmps42
    go_wp2_with fail
    refine (RGCheck_e HE.out _).mono ?_
    rintro e w1 ⟨rfl, hbel⟩
    have hB1 := below_step (below_new (below_self w) _) hbel
    have c0 := (hbel.cell (p := ⟨w.heap.size, 0, none⟩) (by simp)).trans (by simp : _ = some (Value.int .i64 a))
    have c1 := (hbel.cell (p := ⟨w.heap.size, 1, none⟩) (by simp)).trans (by simp : _ = some (Value.int .i64 b))
    have c2 := (hbel.cell (p := ⟨w.heap.size, 2, none⟩) (by simp)).trans (by simp : _ = some (Value.int .i64 c))
    have c3 := (hbel.cell (p := ⟨w.heap.size, 3, none⟩) (by simp)).trans (by simp : _ = some (Value.int .i64 d))
    have HB1 := hide hB1
    have hlt : w.heap.size < w1.heap.size := by have := hbel.size; simp at this; omega
    clear hbel hB1
    go_wp2_with fail
    go_ret
    exact VRet.of HB1.out
  | true =>
  have HE := hide (geoE_yes hg)
  have hh := geo_yes hg
  by_cases h1 : k < 0
  · rw [start_no (by omega)]
    have d1 : decide (k < 0) = true := by simpa using h1
    clear hg hh
    go_enter Try.func42, Try.ntmps42
    go_wp2_with fail
    refine (RGCheck_e HE.out _).mono ?_
    rintro e w1 ⟨rfl, hbel⟩
    have hB1 := below_step (below_new (below_self w) _) hbel
    have c0 := (hbel.cell (p := ⟨w.heap.size, 0, none⟩) (by simp)).trans (by simp : _ = some (Value.int .i64 a))
    have c1 := (hbel.cell (p := ⟨w.heap.size, 1, none⟩) (by simp)).trans (by simp : _ = some (Value.int .i64 b))
    have c2 := (hbel.cell (p := ⟨w.heap.size, 2, none⟩) (by simp)).trans (by simp : _ = some (Value.int .i64 c))
    have c3 := (hbel.cell (p := ⟨w.heap.size, 3, none⟩) (by simp)).trans (by simp : _ = some (Value.int .i64 d))
    have HB1 := hide hB1
    have hlt : w.heap.size < w1.heap.size := by have := hbel.size; simp at this; omega
    clear hbel hB1
    go_wp2_with fail
    go_ret
    exact VRet.of HB1.out
  have d1 : decide (k < 0) = false := by simpa using h1
  by_cases h2 : a < k
  · rw [start_no (by omega)]
    have d2 : decide (a < k) = true := by simpa using h2
    clear hg hh
    go_enter Try.func42, Try.ntmps42
    go_wp2_with fail
    refine (RGCheck_e HE.out _).mono ?_
    rintro e w1 ⟨rfl, hbel⟩
    have hB1 := below_step (below_new (below_self w) _) hbel
    have c0 := (hbel.cell (p := ⟨w.heap.size, 0, none⟩) (by simp)).trans (by simp : _ = some (Value.int .i64 a))
    have c1 := (hbel.cell (p := ⟨w.heap.size, 1, none⟩) (by simp)).trans (by simp : _ = some (Value.int .i64 b))
    have c2 := (hbel.cell (p := ⟨w.heap.size, 2, none⟩) (by simp)).trans (by simp : _ = some (Value.int .i64 c))
    have c3 := (hbel.cell (p := ⟨w.heap.size, 3, none⟩) (by simp)).trans (by simp : _ = some (Value.int .i64 d))
    have HB1 := hide hB1
    have hlt : w.heap.size < w1.heap.size := by have := hbel.size; simp at this; omega
    clear hbel hB1
    go_wp2_with fail
    go_ret
    exact VRet.of HB1.out
  have d2 : decide (a < k) = false := by simpa using h2
  by_cases h3 : k = 0
  · subst h3
    obtain ⟨k1, k2⟩ := lay_bound hg a (by omega) (by omega)
    have he : startZ a b c d 0 = 1 + a * (1 + b + c) := by unfold startZ; rw [if_pos ⟨hg, by omega, by omega⟩]; rfl
    rw [he]
    obtain ⟨p, hp⟩ : ∃ p, a * (1 + b + c) = p := ⟨_, rfl⟩
    rw [hp] at k1 k2 ⊢
    have hw2 : IntKind.i64.wrap (a * (1 + b + c)) = p := by rw [hp]; exact IntWalk.i64_in _ (by omega)
    have hw3 : IntKind.i64.wrap (1 + p) = 1 + p := IntWalk.i64_in _ (by omega)
    have HH := hide hh
    clear hg hp hh he k1 k2
    go_enter Try.func42, Try.ntmps42
    go_wp2_with fail
    refine (RGCheck_e HE.out _).mono ?_
    rintro e w1 ⟨rfl, hbel⟩
    have hB1 := below_step (below_new (below_self w) _) hbel
    have c0 := (hbel.cell (p := ⟨w.heap.size, 0, none⟩) (by simp)).trans (by simp : _ = some (Value.int .i64 a))
    have c1 := (hbel.cell (p := ⟨w.heap.size, 1, none⟩) (by simp)).trans (by simp : _ = some (Value.int .i64 b))
    have c2 := (hbel.cell (p := ⟨w.heap.size, 2, none⟩) (by simp)).trans (by simp : _ = some (Value.int .i64 c))
    have c3 := (hbel.cell (p := ⟨w.heap.size, 3, none⟩) (by simp)).trans (by simp : _ = some (Value.int .i64 d))
    have HB1 := hide hB1
    have hlt : w.heap.size < w1.heap.size := by have := hbel.size; simp at this; omega
    clear hbel hB1
    go_wp2_with fail
    go_region_held3 (fun w' => Below w1.heap.size w1 w' ∧ w'.cell? ⟨w.heap.size, 0, none⟩ = some (.int .i64 a) ∧ w'.cell? ⟨w.heap.size, 1, none⟩ = some (.int .i64 b) ∧ w'.cell? ⟨w.heap.size, 2, none⟩ = some (.int .i64 c) ∧ w'.cell? ⟨w.heap.size, 3, none⟩ = some (.int .i64 d))
      (first | exact ⟨below_drewN (below_self w1) 1, c0, c1, c2, c3⟩ | exact held4 hbel hlt (by assumption))
      (first | (go_at_call 71; refine (RGLayer_any a b c d (by have := HH.out; omega) (by have := HH.out; omega) (by have := HH.out; omega) (by have := HH.out; omega) _).mono ?_; rintro e w' ⟨rfl, hbel⟩))
    rename_i hH
    have HH2 := hide hH.1
    clear hH c0 c1 c2 c3
    go_wp2_with fail
    go_ret
    exact VRet.of (below_step HB1.out HH2.out)
  · obtain ⟨k1, k2⟩ := lay_bound hg (k - 1) (by omega) (by omega)
    have he : startZ a b c d k = 1 + (k - 1) * (1 + b + c) := by unfold startZ; rw [if_pos ⟨hg, by omega, by omega⟩, if_neg h3]
    rw [he]
    obtain ⟨p, hp⟩ : ∃ p, (k - 1) * (1 + b + c) = p := ⟨_, rfl⟩
    rw [hp] at k1 k2 ⊢
    have hw1 : IntKind.i64.wrap (k - 1) = k - 1 := IntWalk.i64_in _ (by omega)
    have hw2 : IntKind.i64.wrap ((k - 1) * (1 + b + c)) = p := by rw [hp]; exact IntWalk.i64_in _ (by omega)
    have hw3 : IntKind.i64.wrap (1 + p) = 1 + p := IntWalk.i64_in _ (by omega)
    have d3 : (k == 0) = false := by simpa using h3
    have HH := hide hh
    clear hg hp hh he k1 k2 h3
    go_enter Try.func42, Try.ntmps42
    go_wp2_with fail
    refine (RGCheck_e HE.out _).mono ?_
    rintro e w1 ⟨rfl, hbel⟩
    have hB1 := below_step (below_new (below_self w) _) hbel
    have c0 := (hbel.cell (p := ⟨w.heap.size, 0, none⟩) (by simp)).trans (by simp : _ = some (Value.int .i64 a))
    have c1 := (hbel.cell (p := ⟨w.heap.size, 1, none⟩) (by simp)).trans (by simp : _ = some (Value.int .i64 b))
    have c2 := (hbel.cell (p := ⟨w.heap.size, 2, none⟩) (by simp)).trans (by simp : _ = some (Value.int .i64 c))
    have c3 := (hbel.cell (p := ⟨w.heap.size, 3, none⟩) (by simp)).trans (by simp : _ = some (Value.int .i64 d))
    have HB1 := hide hB1
    have hlt : w.heap.size < w1.heap.size := by have := hbel.size; simp at this; omega
    clear hbel hB1
    go_wp2_with fail
    refine (RGLayer_any a b c d (by have := HH.out; omega) (by have := HH.out; omega) (by have := HH.out; omega) (by have := HH.out; omega) _).mono ?_
    rintro e w2 ⟨rfl, hbel⟩
    have HB2 := hide (below_step HB1.out hbel)
    clear hbel
    go_wp2_with fail
    go_ret
    exact VRet.of HB2.out

theorem RGStart_e {a b c d k e : Int} (h : startZ a b c d k = e) (w : World) : Calls Try.prog 42 #[.agg #[.int .i64 a, .int .i64 b, .int .i64 c, .int .i64 d], .int .i64 k] w (VRet w (.int .i64 e)) := by
  have := RGStart_any a b c d k w; rw [h] at this; exact this
end Go.Proofs.Ytpflpampogngiaa
