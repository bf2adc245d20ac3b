/- Contracts of the reference's Check and Layer (layer 6). -/
import Derived.Test.YtpflpampogngiaaRows
import Derived.Test.YtpflpampogngiaaMemS
import Derived.IntWalk
namespace Go.Proofs.Ytpflpampogngiaa
open Go.RowKit

/-- May the layout be? -/
def geoB (a b c d : Int) : Bool := decide ((1 ≤ a ∧ a ≤ 3 ∧ 4 ≤ b ∧ b ≤ 24) ∧ (1 ≤ c ∧ c ≤ 60 ∧ 1 ≤ d ∧ d ≤ 64))
def geoE (a b c d : Int) : Int := if geoB a b c d = true then 0 else 1
/-- A layout. -/
def geoV (a b c d : Int) : Value := .agg #[.int .i64 a, .int .i64 b, .int .i64 c, .int .i64 d]
/-- It returns this, and nothing that was there has turned. -/
def VRet (w : World) (v : Value) (x : Ending) (w' : World) : Prop := x = .returned v ∧ Below w.heap.size w w'
theorem VRet.of {w w' : World} {v : Value} (h : Below w.heap.size w w') : VRet w v (.returned v) w' := ⟨rfl, h⟩
theorem VRet.eq {w w' : World} {u v : Value} (e : u = v) (h : Below w.heap.size w w') : VRet w v (.returned u) w' := ⟨by rw [e], h⟩
theorem geo_no {a b c d : Int} (h : ¬ ((1 ≤ a ∧ a ≤ 3 ∧ 4 ≤ b ∧ b ≤ 24) ∧ (1 ≤ c ∧ c ≤ 60 ∧ 1 ≤ d ∧ d ≤ 64))) : geoB a b c d = false := by simpa [geoB] using h
theorem geo_yes {a b c d : Int} (h : geoB a b c d = true) : (1 ≤ a ∧ a ≤ 3 ∧ 4 ≤ b ∧ b ≤ 24) ∧ (1 ≤ c ∧ c ≤ 60 ∧ 1 ≤ d ∧ d ≤ 64) := by simpa [geoB] using h

set_option maxHeartbeats 400000 in
theorem RGCheck_any (a b c d : Int) (w : World) : Calls Try.prog 38 #[geoV a b c d] w (VRet w (.int .i64 (geoE a b c d))) := by
  unfold geoV
  by_cases h1 : a < 1
  · have he : geoE a b c d = 1 := by unfold geoE; rw [geo_no (by omega)]; rfl
    rw [he]
    clear he
    go_enter Try.func38, Try.ntmps38
    go_wp2
    go_ret
    exact VRet.of (below_new (below_self w) _)
  have d1 : decide (a < 1) = false := by simpa using h1
  by_cases h2 : 3 < a
  · have he : geoE a b c d = 1 := by unfold geoE; rw [geo_no (by omega)]; rfl
    rw [he]
    clear he
    go_enter Try.func38, Try.ntmps38
    go_wp2
    go_ret
    exact VRet.of (below_new (below_self w) _)
  have d2 : decide (3 < a) = false := by simpa using h2
  by_cases h3 : b < 4
  · have he : geoE a b c d = 1 := by unfold geoE; rw [geo_no (by omega)]; rfl
    rw [he]
    clear he
    go_enter Try.func38, Try.ntmps38
    go_wp2
    go_ret
    exact VRet.of (below_new (below_self w) _)
  have d3 : decide (b < 4) = false := by simpa using h3
  by_cases h4 : 24 < b
  · have he : geoE a b c d = 1 := by unfold geoE; rw [geo_no (by omega)]; rfl
    rw [he]
    clear he
    go_enter Try.func38, Try.ntmps38
    go_wp2
    go_ret
    exact VRet.of (below_new (below_self w) _)
  have d4 : decide (24 < b) = false := by simpa using h4
  by_cases h5 : c < 1
  · have he : geoE a b c d = 1 := by unfold geoE; rw [geo_no (by omega)]; rfl
    rw [he]
    clear he
    go_enter Try.func38, Try.ntmps38
    go_wp2
    go_ret
    exact VRet.of (below_new (below_self w) _)
  have d5 : decide (c < 1) = false := by simpa using h5
  by_cases h6 : 60 < c
  · have he : geoE a b c d = 1 := by unfold geoE; rw [geo_no (by omega)]; rfl
    rw [he]
    clear he
    go_enter Try.func38, Try.ntmps38
    go_wp2
    go_ret
    exact VRet.of (below_new (below_self w) _)
  have d6 : decide (60 < c) = false := by simpa using h6
  by_cases h7 : d < 1
  · have he : geoE a b c d = 1 := by unfold geoE; rw [geo_no (by omega)]; rfl
    rw [he]
    clear he
    go_enter Try.func38, Try.ntmps38
    go_wp2
    go_ret
    exact VRet.of (below_new (below_self w) _)
  have d7 : decide (d < 1) = false := by simpa using h7
  by_cases h8 : 64 < d
  · have he : geoE a b c d = 1 := by unfold geoE; rw [geo_no (by omega)]; rfl
    rw [he]
    clear he
    go_enter Try.func38, Try.ntmps38
    go_wp2
    go_ret
    exact VRet.of (below_new (below_self w) _)
  have d8 : decide (64 < d) = false := by simpa using h8
  have he : geoE a b c d = 0 := by
    unfold geoE
    rw [if_pos]
    simp only [geoB, decide_eq_true_eq]
    omega
  rw [he]
  clear he
  go_enter Try.func38, Try.ntmps38
  go_wp2
  go_ret
  exact VRet.of (below_new (below_self w) _)
theorem RGCheck_e {a b c d e : Int} (h : geoE a b c d = e) (w : World) : Calls Try.prog 38 #[.agg #[.int .i64 a, .int .i64 b, .int .i64 c, .int .i64 d]] w (VRet w (.int .i64 e)) := by
  have := RGCheck_any a b c d w; rw [h] at this; exact this

set_option maxHeartbeats 400000 in
theorem RGLayer_any (a b c d : Int) (hb : 0 ≤ b) (hb2 : b ≤ 24) (hc : 0 ≤ c) (hc2 : c ≤ 60) (w : World) : Calls Try.prog 71 #[.agg #[.int .i64 a, .int .i64 b, .int .i64 c, .int .i64 d]] w (VRet w (.int .i64 (1 + b + c))) := by
  go_enter Try.func71, Try.ntmps71
  go_wp2
  go_ret
  exact VRet.of (below_new (below_self w) _)
end Go.Proofs.Ytpflpampogngiaa
