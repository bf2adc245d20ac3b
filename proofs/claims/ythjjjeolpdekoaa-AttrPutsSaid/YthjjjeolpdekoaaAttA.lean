/- Attributes: their values; is one the other? Drop (layer 9). -/
import Derived.Test.YthjjjeolpdekoaaMemI
import Derived.Test.YthjjjeolpdekoaaMemS
import Derived.Test.YthjjjeolpdekoaaRefGeoA
import Derived.ChangeKeysEq
namespace Go.Proofs.Ythjjjeolpdekoaa
open Go.RowKit Plain

/-- Attributes: what there is, the marker, the redirect, the origin's layer, inode and generation, what is shown. -/
structure AttV where
  (h o : Int)
  r : List UInt8
  (l i g s : Int)
  deriving DecidableEq
def att0 : AttV := ⟨0, 0, [], 0, 0, 0, 0⟩
theorem AttV.ext_iff' {x y : AttV} : x = y ↔ x.h = y.h ∧ x.o = y.o ∧ x.r = y.r ∧ x.l = y.l ∧ x.i = y.i ∧ x.g = y.g ∧ x.s = y.s := by
  cases x; cases y; simp [AttV.mk.injEq]
theorem att_agg : ∀ w, (isAgg 48).run Try.prog w = .ok true w := fun w => by simp [isAgg, run_underlying Try.underlying48, go_sem]
theorem att_size : ∀ w, (sizeOf 48).run Try.prog w = .ok 7 w := fun w => by kernel_rfl
theorem ori_size : ∀ w, (sizeOf 46).run Try.prog w = .ok 3 w := fun w => by kernel_rfl
set_option maxHeartbeats 800000 in
theorem eq_ori (a b c a' b' c' : Int) (w : World) : (Op.equalIn 9999 46 (.agg #[.int .i64 a, .int .i64 b, .int .i64 c]) (.agg #[.int .i64 a', .int .i64 b', .int .i64 c'])).run Try.prog w = .ok (decide (a = a' ∧ b = b' ∧ c = c')) w := by
  by_cases ha : a = a'
  rotate_left
  · simp [go_sem, ha]
  by_cases hb : b = b'
  rotate_left
  · simp [go_sem, ha, hb]
  by_cases hc : c = c'
  rotate_left
  · simp [go_sem, ha, hb, hc]
  simp [go_sem, ha, hb, hc]
set_option maxRecDepth 100000 in
set_option maxHeartbeats 800000 in
theorem eq_att {x y : AttV} {b : Bool} (h : decide (x = y) = b) (w : World) : (binOp .eql 48 (.agg #[.int .i64 x.h, .int .i64 x.o, .string ⟨x.r.toArray⟩, .int .i64 x.l, .int .i64 x.i, .int .i64 x.g, .int .i64 x.s]) (.agg #[.int .i64 y.h, .int .i64 y.o, .string ⟨y.r.toArray⟩, .int .i64 y.l, .int .i64 y.i, .int .i64 y.g, .int .i64 y.s])).run Try.prog w = .ok (.bool b) w := by
  subst h
  simp only [AttV.ext_iff']
  by_cases hh : x.h = y.h
  rotate_left
  · simp [go_sem, eq_ori, hh]
  by_cases ho : x.o = y.o
  rotate_left
  · simp [go_sem, eq_ori, hh, ho]
  by_cases hr : x.r = y.r
  rotate_left
  · simp [go_sem, eq_ori, hh, ho, hr]
  by_cases hl : x.l = y.l
  rotate_left
  · simp [go_sem, eq_ori, hh, ho, hr, hl]
  by_cases hi : x.i = y.i
  rotate_left
  · simp [go_sem, eq_ori, hh, ho, hr, hl, hi]
  by_cases hg : x.g = y.g
  rotate_left
  · simp [go_sem, eq_ori, hh, ho, hr, hl, hi, hg]
  by_cases hs : x.s = y.s
  rotate_left
  · simp [go_sem, eq_ori, hh, ho, hr, hl, hi, hg, hs]
  simp [go_sem, eq_ori, hh, ho, hr, hl, hi, hg, hs]
end Go.Proofs.Ythjjjeolpdekoaa
