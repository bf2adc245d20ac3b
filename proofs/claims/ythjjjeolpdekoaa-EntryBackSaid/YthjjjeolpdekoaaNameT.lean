/- Contracts of the program's name.Pack. -/
import Derived.Test.YthjjjeolpdekoaaNameS
namespace Go.Proofs.Ythjjjeolpdekoaa
open Go.RowKit Plain

theorem packed_size : (Try.prog.info? 5).map (·.size) = some 1 := by kernel_rfl
theorem pack_splice {l : List UInt8} (h : nameB l = true) : splice [Value.int .u8 (l.length : Int), .int .u8 0, .int .u8 0, .int .u8 0, .int .u8 0, .int .u8 0, .int .u8 0, .int .u8 0, .int .u8 0, .int .u8 0, .int .u8 0, .int .u8 0, .int .u8 0, .int .u8 0] 1 (bvs l) = bvs (packS l) := by
  obtain ⟨h1, h2⟩ := nameB_len h
  have e1 : ([Value.int .u8 0, .int .u8 0, .int .u8 0, .int .u8 0, .int .u8 0, .int .u8 0, .int .u8 0, .int .u8 0, .int .u8 0, .int .u8 0, .int .u8 0, .int .u8 0, .int .u8 0] : List Value) = bvs (zeros 13) := by simp [bvs, zeros, bv]
  have e2 : Value.int .u8 (l.length : Int) = bv (UInt8.ofNat l.length) := by
    simp only [bv]
    congr 1
    simp
    omega
  rw [packS_yes h, e1]
  unfold splice
  rw [bvs_length, List.take_succ_cons, List.take_zero, Nat.add_comm 1, List.drop_succ_cons, e2]
  simp only [bvs, zeros, List.map_cons, List.map_append, List.map_replicate, List.drop_replicate, List.cons_append, List.nil_append]

set_option maxHeartbeats 400000 in
theorem Pack_no {l : List UInt8} (h : nameB l = false) (w : World) (hl : l.length ≤ 140737488355328) :
    Calls Try.prog 43 #[st l] w (BRet w 92 0 []) := by
  have HN := hide h
  clear h
  unfold st
  go_enter Try.func43, Try.ntmps43
  go_wp2_with fail
  refine (NRight_b HN.out _ hl).mono ?_
  rintro e w1 ⟨rfl, hbel⟩
  have HB := hide hbel
  clear hbel
  go_wp2_with fail
  go_ret
  exact (Own.nil_ _ _ _).ret HB.out

set_option maxHeartbeats 400000 in
theorem Pack_yes {l : List UInt8} (h : nameB l = true) (w : World) :
    Calls Try.prog 43 #[st l] w (BRet w 92 14 (packS l)) := by
  obtain ⟨hl1, hl2⟩ := nameB_len h
  have HN := hide h
  clear h
  unfold st
  go_enter Try.func43, Try.ntmps43
  go_wp2_with fail
  refine (NRight_b HN.out _ (by omega)).mono ?_
  rintro e w1 ⟨rfl, hbel⟩
  have HB := hide hbel
  clear hbel
  go_wp2_with (with_reducible refine wpList_copy_text rfl (.tmp 11) (.tmp 12) 24 9 rfl 5 Try.underlying24 packed_size w1.heap.size 1 13 13 rfl _ _ (RowL.new w1 92 _) l rfl (by omega) (by simp; omega) w.heap.size w (below_new HB.out _) HB.out.size ?_; intro w2 hr2 hb2; have HR2 := hide hr2; have HB2 := hide hb2; clear hr2 hb2)
  go_ret
  have e := HR2.out
  rw [pack_splice HN.out] at e
  exact (e.own_bvs rfl (packS_length HN.out) HB.out.size (by omega)).ret HB2.out
theorem Pack_any (l : List UInt8) (w : World) (hl : l.length ≤ 140737488355328) :
    Calls Try.prog 43 #[st l] w (BRet w 92 (packS l).length (packS l)) := by
  cases h : nameB l with
  | false => rw [packS_no h]; exact Pack_no h w hl
  | true => rw [packS_length h]; exact Pack_yes h w
end Go.Proofs.Ythjjjeolpdekoaa
