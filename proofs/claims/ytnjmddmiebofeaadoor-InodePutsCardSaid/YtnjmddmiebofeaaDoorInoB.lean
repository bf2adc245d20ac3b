/- inode: an inode's values; is one the other? (layer 7). -/
import Derived.Test.YtnjmddmiebofeaaDoorInoA
import Derived.ChangeKeysEq
namespace Go.Proofs.YtnjmddmiebofeaaDoor
open Go.RowKit Plain

/-- An inode's numbers. -/
structure InoV where
  (k i n g s p q r t a : Int)
  deriving DecidableEq
def ino0 : InoV := ⟨0, 0, 0, 0, 0, 0, 0, 0, 0, 0⟩
theorem InoV.ext_iff' {x y : InoV} : x = y ↔ x.k = y.k ∧ x.i = y.i ∧ x.n = y.n ∧ x.g = y.g ∧ x.s = y.s ∧ x.p = y.p ∧ x.q = y.q ∧ x.r = y.r ∧ x.t = y.t ∧ x.a = y.a := by
  cases x; cases y; simp [InoV.mk.injEq]
theorem ptrs_info : ∃ i, Tryd.prog.info? 3 = some i ∧ Tryd.prog.cellsOf 3 = 1 := by
  obtain ⟨i, h⟩ : ∃ i, Tryd.prog.info? 3 = some i := ⟨_, rfl⟩
  exact ⟨i, h, by kernel_rfl⟩
set_option maxHeartbeats 800000 in
theorem eq_ptrs (p q r t p' q' r' t' : Int) (w : World) : (Op.equalIn 9999 22 (.agg #[.int .i64 p, .int .i64 q, .int .i64 r, .int .i64 t]) (.agg #[.int .i64 p', .int .i64 q', .int .i64 r', .int .i64 t'])).run Tryd.prog w = .ok (decide (p = p' ∧ q = q' ∧ r = r' ∧ t = t')) w := by
  obtain ⟨i, hi, hc⟩ := ptrs_info
  rw [run_equalIn_array w 9998 _ _ Tryd.underlying22 hi, hc, show List.range 4 = [0, 1, 2, 3] from rfl]
  by_cases hp : p = p'
  rotate_left
  · simp [Op.eqItems, go_sem, hp]
  by_cases hq : q = q'
  rotate_left
  · simp [Op.eqItems, go_sem, hp, hq]
  by_cases hr : r = r'
  rotate_left
  · simp [Op.eqItems, go_sem, hp, hq, hr]
  by_cases ht : t = t'
  rotate_left
  · simp [Op.eqItems, go_sem, hp, hq, hr, ht]
  simp [Op.eqItems, go_sem, hp, hq, hr, ht]
set_option maxRecDepth 100000 in
set_option maxHeartbeats 800000 in
theorem eq_ints (k i n g s p q r t a k' i' n' g' s' p' q' r' t' a' : Int) (w : World) : (binOp .eql 24 (.agg #[.int .i64 k, .int .i64 i, .int .i64 n, .int .i64 g, .int .i64 s, .int .i64 p, .int .i64 q, .int .i64 r, .int .i64 t, .int .i64 a]) (.agg #[.int .i64 k', .int .i64 i', .int .i64 n', .int .i64 g', .int .i64 s', .int .i64 p', .int .i64 q', .int .i64 r', .int .i64 t', .int .i64 a'])).run Tryd.prog w = .ok (.bool (decide (k = k' ∧ i = i' ∧ n = n' ∧ g = g' ∧ s = s' ∧ p = p' ∧ q = q' ∧ r = r' ∧ t = t' ∧ a = a'))) w := by
  by_cases hk : k = k'
  rotate_left
  · simp [go_sem, eq_ptrs, hk]
  by_cases hi : i = i'
  rotate_left
  · simp [go_sem, eq_ptrs, hk, hi]
  by_cases hn : n = n'
  rotate_left
  · simp [go_sem, eq_ptrs, hk, hi, hn]
  by_cases hg : g = g'
  rotate_left
  · simp [go_sem, eq_ptrs, hk, hi, hn, hg]
  by_cases hs : s = s'
  rotate_left
  · simp [go_sem, eq_ptrs, hk, hi, hn, hg, hs]
  by_cases hp : p = p'
  rotate_left
  · simp [go_sem, eq_ptrs, hk, hi, hn, hg, hs, hp]
  by_cases hq : q = q'
  rotate_left
  · simp [go_sem, eq_ptrs, hk, hi, hn, hg, hs, hp, hq]
  by_cases hr : r = r'
  rotate_left
  · simp [go_sem, eq_ptrs, hk, hi, hn, hg, hs, hp, hq, hr]
  by_cases ht : t = t'
  rotate_left
  · simp [go_sem, eq_ptrs, hk, hi, hn, hg, hs, hp, hq, hr, ht]
  by_cases ha : a = a'
  rotate_left
  · simp [go_sem, eq_ptrs, hk, hi, hn, hg, hs, hp, hq, hr, ht, ha]
  simp [go_sem, eq_ptrs, hk, hi, hn, hg, hs, hp, hq, hr, ht, ha]
theorem eq_ino {x y : InoV} {b : Bool} (h : decide (x = y) = b) (w : World) : (binOp .eql 24 (.agg #[.int .i64 x.k, .int .i64 x.i, .int .i64 x.n, .int .i64 x.g, .int .i64 x.s, .int .i64 x.p, .int .i64 x.q, .int .i64 x.r, .int .i64 x.t, .int .i64 x.a]) (.agg #[.int .i64 y.k, .int .i64 y.i, .int .i64 y.n, .int .i64 y.g, .int .i64 y.s, .int .i64 y.p, .int .i64 y.q, .int .i64 y.r, .int .i64 y.t, .int .i64 y.a])).run Tryd.prog w = .ok (.bool b) w := by
  rw [eq_ints, ← h]
  simp only [InoV.ext_iff']
theorem eq_zero {x : InoV} {b : Bool} (h : decide (x = ino0) = b) (w : World) : (binOp .eql 24 (.agg #[.int .i64 x.k, .int .i64 x.i, .int .i64 x.n, .int .i64 x.g, .int .i64 x.s, .int .i64 x.p, .int .i64 x.q, .int .i64 x.r, .int .i64 x.t, .int .i64 x.a]) (.agg #[.int .i64 0, .int .i64 0, .int .i64 0, .int .i64 0, .int .i64 0, .int .i64 0, .int .i64 0, .int .i64 0, .int .i64 0, .int .i64 0])).run Tryd.prog w = .ok (.bool b) w := eq_ino (y := ino0) h w
end Go.Proofs.YtnjmddmiebofeaaDoor
