/- The reference's Put, Fresh (layer 7). -/
import Derived.Test.YtnjmddmiebofeaaDoorInoH
import Derived.Test.YtnjmddmiebofeaaDoorSumE
import Derived.Test.YtnjmddmiebofeaaDoorNumL
import Derived.BigRegion
namespace Go.Proofs.YtnjmddmiebofeaaDoor
open Go.RowKit Plain

theorem RIRight_any (x : InoV) (w : World) : Calls Tryd.prog 8 #[.agg #[.int .i64 x.k, .int .i64 x.i, .int .i64 x.n, .int .i64 x.g, .int .i64 x.s, .int .i64 x.p, .int .i64 x.q, .int .i64 x.r, .int .i64 x.t, .int .i64 x.a]] w (BBel w (rightI x)) := RIRight_any' x.k x.i x.n x.g x.s x.p x.q x.r x.t x.a w
set_option maxHeartbeats 800000 in
theorem RIBytes_any {x : InoV} (w : World) (hr : rightI x = true) : Calls Tryd.prog 18 #[.agg #[.int .i64 x.k, .int .i64 x.i, .int .i64 x.n, .int .i64 x.g, .int .i64 x.s, .int .i64 x.p, .int .i64 x.q, .int .i64 x.r, .int .i64 x.t, .int .i64 x.a]] w (BRet w 5 64 (putI x)) := by
  cases hz : decide (x = ino0) with
  | false =>
    have h0 := of_decide_eq_false hz
    rw [show putI x = sealS (bodyI x 10) from by unfold putI; rw [if_pos hr, if_neg h0]]
    exact RIBytes_yes w hz (right_okN hr h0)
  | true =>
    have hE := eq_zero hz
    rw [show putI x = zeros 64 from by unfold putI; rw [if_pos hr, if_pos (of_decide_eq_true hz)]]
    obtain ⟨Z, hZ, hzl⟩ := make64
    have HZL := hide hzl
    have HB := hide (below_new (below_self w) (.cells #[.int .i64 x.k, .int .i64 x.i, .int .i64 x.n, .int .i64 x.g, .int .i64 x.s, .int .i64 x.p, .int .i64 x.q, .int .i64 x.r, .int .i64 x.t, .int .i64 x.a] 24))
    clear hz hr hzl
    go_enter Tryd.func18, Tryd.ntmps18
    go_wp2_with fail
    go_ret
    have := Own.rebase (Own.lit (w.alloc (.cells #[.int .i64 x.k, .int .i64 x.i, .int .i64 x.n, .int .i64 x.g, .int .i64 x.s, .int .i64 x.p, .int .i64 x.q, .int .i64 x.r, .int .i64 x.t, .int .i64 x.a] 24)) 5 (cs := Z.toList) HZL.out (zeros_length 64) (by omega)) HB.out.size
    rw [show (w.alloc (.cells #[.int .i64 x.k, .int .i64 x.i, .int .i64 x.n, .int .i64 x.g, .int .i64 x.s, .int .i64 x.p, .int .i64 x.q, .int .i64 x.r, .int .i64 x.t, .int .i64 x.a] 24)).heap.size = w.heap.size + 1 from by simp] at this
    exact this.ret (below_new HB.out _)
set_option maxRecDepth 100000 in
set_option maxHeartbeats 800000 in
theorem RIPut_any (x : InoV) (w : World) : Calls Tryd.prog 6 #[.agg #[.int .i64 x.k, .int .i64 x.i, .int .i64 x.n, .int .i64 x.g, .int .i64 x.s, .int .i64 x.p, .int .i64 x.q, .int .i64 x.r, .int .i64 x.t, .int .i64 x.a]] w (BERet w 5 (putI x) (errI x)) := by
  obtain ⟨hr1, hb, hsz⟩ := rows1 w [.int .i64 x.k, .int .i64 x.i, .int .i64 x.n, .int .i64 x.g, .int .i64 x.s, .int .i64 x.p, .int .i64 x.q, .int .i64 x.r, .int .i64 x.t, .int .i64 x.a] 24
  have HR1 := hide hr1
  have HB := hide hb
  clear hr1 hb hsz
  cases hr : rightI x with
  | false =>
    have e1 : putI x = [] := by unfold putI; rw [hr]; rfl
    have e2 : errI x = 1 := by unfold errI; rw [hr]; rfl
    rw [e1, e2]
    have HR := hide hr
    clear hr e1 e2
    go_enter Tryd.func6, Tryd.ntmps6
    go_wp2_with fail
    refine (RIRight_any x _).mono ?_
    rintro e w2 ⟨rfl, hbel⟩
    rw [HR.out]
    have HB2 := hide (below_step HB.out hbel)
    clear hbel
    go_wp2_with fail
    go_ret2
    exact ⟨_, _, _, rfl, Own.nil_ _ _ _, HB2.out⟩
  | true =>
    have e2 : errI x = 0 := by unfold errI; rw [hr]; rfl
    rw [e2]
    have HR := hide hr
    clear e2 hr
    go_enter Tryd.func6, Tryd.ntmps6
    go_wp2_with fail
    refine (RIRight_any x _).mono ?_
    rintro e w2 ⟨rfl, hbel⟩
    rw [HR.out]
    have HB2 := hide (below_step HB.out hbel)
    have HR2 := hide (HR1.out.on hbel)
    have c0 : w2.cell? ⟨w.heap.size, 0, none⟩ = some (.int .i64 x.k) := HR2.out.cell 0
    have c1 : w2.cell? ⟨w.heap.size, 1, none⟩ = some (.int .i64 x.i) := HR2.out.cell 1
    have c2 : w2.cell? ⟨w.heap.size, 2, none⟩ = some (.int .i64 x.n) := HR2.out.cell 2
    have c3 : w2.cell? ⟨w.heap.size, 3, none⟩ = some (.int .i64 x.g) := HR2.out.cell 3
    have c4 : w2.cell? ⟨w.heap.size, 4, none⟩ = some (.int .i64 x.s) := HR2.out.cell 4
    have c5 : w2.cell? ⟨w.heap.size, 5, none⟩ = some (.int .i64 x.p) := HR2.out.cell 5
    have c6 : w2.cell? ⟨w.heap.size, 6, none⟩ = some (.int .i64 x.q) := HR2.out.cell 6
    have c7 : w2.cell? ⟨w.heap.size, 7, none⟩ = some (.int .i64 x.r) := HR2.out.cell 7
    have c8 : w2.cell? ⟨w.heap.size, 8, none⟩ = some (.int .i64 x.t) := HR2.out.cell 8
    have c9 : w2.cell? ⟨w.heap.size, 9, none⟩ = some (.int .i64 x.a) := HR2.out.cell 9
    have hg0 : w.heap.size < w2.heap.size := HR2.out.lt
    clear hbel
    go_wp2_with fail
    refine (RIBytes_any _ HR.out).mono ?_
    rintro e w4 ⟨A4, c4, rfl, hown, hbel⟩
    have HO4 := hide (hown.rebase HB2.out.size)
    have HB4 := hide (below_step HB2.out hbel)
    clear hown hbel
    go_wp2_with fail
    go_ret2
    exact ⟨_, _, _, rfl, HO4.out, HB4.out⟩
set_option maxHeartbeats 400000 in
theorem RIFresh_any (w : World) : Calls Tryd.prog 12 #[] w (VRet w (.agg #[.int .i64 1, .int .i64 0, .int .i64 2, .int .i64 0, .int .i64 0, .int .i64 0, .int .i64 0, .int .i64 0, .int .i64 0, .int .i64 0])) := by
  go_enter Tryd.func12, Tryd.ntmps12
  go_wp2_with fail
  exact bodyPost_ret (res_cell Tryd.results12 rfl ino_agg ino_size (RowL.new w 24 [.int .i64 1, .int .i64 0, .int .i64 2, .int .i64 0, .int .i64 0, .int .i64 0, .int .i64 0, .int .i64 0, .int .i64 0, .int .i64 0]) len10) rfl (VRet.of (below_new (below_self w) _))

/-- What the two say where nothing is to be read. -/
theorem got_len {l : List UInt8} (h : ¬ l.length = 64) : gotB l = false := by
  unfold gotB
  cases hr : rightI (toldI l) with
  | false => rfl
  | true =>
    rw [Bool.true_and, beq_eq_false_iff_ne]
    intro e
    exact h (by rw [e]; exact putI_len _ hr)
theorem got_zeros : toldI (zeros 64) = ino0 ∧ gotB (zeros 64) = true := by
  have e : toldI (zeros 64) = ino0 := by decide +kernel
  refine ⟨e, ?_⟩
  unfold gotB
  rw [e, ino0_right, Bool.true_and, beq_iff_eq]
  unfold putI
  rw [if_pos ino0_right, if_pos rfl]
theorem right_kind {x : InoV} (hk : x.k = 0) (hr : rightI x = true) : x = ino0 := by
  unfold rightI at hr
  rw [Bool.or_eq_true] at hr
  rcases hr with h | h
  · exact of_decide_eq_true h
  · rw [hk] at h
    simp at h
theorem got_kind {l : List UInt8} (hl : ¬ l = zeros 64) (hk : (toldI l).k = 0) : gotB l = false := by
  unfold gotB
  cases hr : rightI (toldI l) with
  | false => rfl
  | true =>
    rw [Bool.true_and, beq_eq_false_iff_ne, right_kind hk hr]
    unfold putI
    rw [if_pos ino0_right, if_pos rfl]
    exact hl
theorem getR_byte {l : List UInt8} {j : Nat} {b : UInt8} (h : l[j]? = some b) : getR l j 1 = b.toNat := by
  have hj := (List.getElem?_eq_some_iff.1 h).1
  have hb := (List.getElem?_eq_some_iff.1 h).2
  have hh : hold l.length j 1 = true := by simp [hold, isz]; omega
  unfold getR
  rw [if_pos hh]
  unfold getS
  simp only [Int.toNat_natCast, Int.toNat_one]
  rw [List.drop_eq_getElem_cons hj, List.take_succ_cons, List.take_zero, hb]
  simp [val]
theorem byte_int (b : UInt8) : IntKind.i64.wrap (b.toNat : Int) = (b.toNat : Int) := by
  have := b.toNat_lt
  simp [IntKind.wrap, IntKind.bits, IntKind.signed]
  omega

/-- The box's row when j pointers are read. -/
def rowG (x : InoV) (j : Nat) : List Value := [.int .i64 x.k, .int .i64 x.i, .int .i64 x.n, .int .i64 x.g, .int .i64 x.s, .int .i64 (if 0 < j then x.p else 0), .int .i64 (if 1 < j then x.q else 0), .int .i64 (if 2 < j then x.r else 0), .int .i64 (if 3 < j then x.t else 0), .int .i64 0]
theorem rowG_get (x : InoV) {j : Nat} (h : j < 4) : (rowG x j)[5 + j]? = some (.int .i64 0) := by
  obtain rfl | rfl | rfl | rfl : j = 0 ∨ j = 1 ∨ j = 2 ∨ j = 3 := by omega
  all_goals simp [rowG]
theorem rowG_set (x : InoV) {j : Nat} (h : j < 4) : (rowG x j).set (5 + j) (.int .i64 (x.num (5 + j))) = rowG x (j + 1) := by
  obtain rfl | rfl | rfl | rfl : j = 0 ∨ j = 1 ∨ j = 2 ∨ j = 3 := by omega
  all_goals simp [rowG, InoV.num]
theorem rowG_0 (x : InoV) : rowG x 0 = [.int .i64 x.k, .int .i64 x.i, .int .i64 x.n, .int .i64 x.g, .int .i64 x.s, .int .i64 0, .int .i64 0, .int .i64 0, .int .i64 0, .int .i64 0] := by simp [rowG]
theorem rowG_4 (x : InoV) : (rowG x 4).set 9 (.int .i64 x.a) = [.int .i64 x.k, .int .i64 x.i, .int .i64 x.n, .int .i64 x.g, .int .i64 x.s, .int .i64 x.p, .int .i64 x.q, .int .i64 x.r, .int .i64 x.t, .int .i64 x.a] := by simp [rowG]
theorem told_ptr (l : List UInt8) {j : Nat} (h : j < 4) : getR l (10 + 2 * (j : Int)) 2 = (toldI l).num (5 + j) := by
  obtain rfl | rfl | rfl | rfl : j = 0 ∨ j = 1 ∨ j = 2 ∨ j = 3 := by omega
  all_goals rfl

set_option maxRecDepth 100000 in
set_option maxHeartbeats 3200000 in
theorem RIGet_any {A : Option Addr} {m c : Nat} {l : List UInt8} (w : World) (ha : Bs w w.heap.size A m l) (hm : m ≤ 100000) : Calls Tryd.prog 14 #[.slice A m c] w (IRet w (gotI l) (gotB l)) := by
  obtain ⟨hr1, hb, hsz⟩ := rows1 w [.int .i64 0, .int .i64 0, .int .i64 0, .int .i64 0, .int .i64 0, .int .i64 0, .int .i64 0, .int .i64 0, .int .i64 0, .int .i64 0] 24
  have HA := hide ((ha.below hb).more hb.size)
  have HR1 := hide hr1
  have HB := hide hb
  clear hr1 hb hsz
  by_cases hm64 : m = 64
  rotate_left
  · have e1 : gotB l = false := got_len (by rw [ha.len]; exact hm64)
    have e2 : gotI l = ino0 := by unfold gotI; rw [e1]; rfl
    rw [e1, e2]
    clear e1 e2 ha
    have hd : ((m : Int) != 64) = true := by simp; omega
    have HRr := HR1
    have HBr := HB
    have hg0 : w.heap.size < (w.alloc (.cells [.int .i64 0, .int .i64 0, .int .i64 0, .int .i64 0, .int .i64 0, .int .i64 0, .int .i64 0, .int .i64 0, .int .i64 0, .int .i64 0].toArray 24)).heap.size := HR1.out.lt
    go_enter Tryd.func14, Tryd.ntmps14
    go_wp2_with ((with_reducible refine wpList_storeW rfl 24 (.tmp 2) (.tmp 9) rfl 10 ino_size w.heap.size 24 rfl [.int .i64 0, .int .i64 0, .int .i64 0, .int .i64 0, .int .i64 0, .int .i64 0, .int .i64 0, .int .i64 0, .int .i64 0, .int .i64 0] [.int .i64 0, .int .i64 0, .int .i64 0, .int .i64 0, .int .i64 0, .int .i64 0, .int .i64 0, .int .i64 0, .int .i64 0, .int .i64 0] rfl HRr.out len10 len10 ints10 ?_); intro w6 hr6 hg6 hs6; have HR6 := hide hr6; have HB6 := hide (HBr.out.grown hg6 HBr.out.size (fun g hg => by have := Option.some.inj hg; omega)); clear hr6 hg6 hs6)
    exact bodyPost_ret (res_cell2 Tryd.results14 rfl rfl ino_agg ino_size HR6.out len10) rfl ⟨rfl, HB6.out⟩
  subst hm64
  have hl64 := ha.len
  have HL := hide hl64
  obtain ⟨Z, hZ, hzl⟩ := make64
  have HZL := hide hzl
  obtain ⟨bz, hbz⟩ : ∃ bz, (l == zeros 64) = bz := ⟨_, rfl⟩
  have HBZ := hide hbz
  obtain ⟨y, hy⟩ : ∃ y, gotI l = y := ⟨_, rfl⟩
  obtain ⟨ok, hok⟩ : ∃ ok, gotB l = ok := ⟨_, rfl⟩
  rw [hy, hok]
  have HY := hide hy
  have HOK := hide hok
  clear ha hl64 hzl hbz hy hok
  have HW2 : Hid (Bs ((w.alloc (.cells [.int .i64 0, .int .i64 0, .int .i64 0, .int .i64 0, .int .i64 0, .int .i64 0, .int .i64 0, .int .i64 0, .int .i64 0, .int .i64 0].toArray 24)).alloc (.cells Z 5)) ((w.alloc (.cells [.int .i64 0, .int .i64 0, .int .i64 0, .int .i64 0, .int .i64 0, .int .i64 0, .int .i64 0, .int .i64 0, .int .i64 0, .int .i64 0].toArray 24)).alloc (.cells Z 5)).heap.size (some ⟨w.heap.size + 1, 0, none⟩) 64 (zeros 64)) := hide (by
    have := (Bs.lit (w.alloc (.cells [.int .i64 0, .int .i64 0, .int .i64 0, .int .i64 0, .int .i64 0, .int .i64 0, .int .i64 0, .int .i64 0, .int .i64 0, .int .i64 0].toArray 24)) 5 (cs := Z.toList) HZL.out (zeros_length 64)).more (B' := ((w.alloc (.cells [.int .i64 0, .int .i64 0, .int .i64 0, .int .i64 0, .int .i64 0, .int .i64 0, .int .i64 0, .int .i64 0, .int .i64 0, .int .i64 0].toArray 24)).alloc (.cells Z 5)).heap.size) (by simp)
    rw [show (w.alloc (.cells [.int .i64 0, .int .i64 0, .int .i64 0, .int .i64 0, .int .i64 0, .int .i64 0, .int .i64 0, .int .i64 0, .int .i64 0, .int .i64 0].toArray 24)).heap.size = w.heap.size + 1 from by simp] at this
    exact this)
  have HB2 := hide (below_new HB.out (.cells Z 5))
  have HR2 := hide (HR1.out.on (below_new (below_self _) (.cells Z 5)))
  have HA2 := hide ((HA.out.below (below_new (below_self _) (.cells Z 5))).more (B' := ((w.alloc (.cells [.int .i64 0, .int .i64 0, .int .i64 0, .int .i64 0, .int .i64 0, .int .i64 0, .int .i64 0, .int .i64 0, .int .i64 0, .int .i64 0].toArray 24)).alloc (.cells Z 5)).heap.size) (by simp))
  clear HB HR1 HA
  go_enter Tryd.func14, Tryd.ntmps14
  go_wp2_with fail
  refine (Same_any _ HA2.out HW2.out (by omega)).mono ?_
  rintro e w3 ⟨rfl, hbel⟩
  rw [HBZ.out]
  have HB3 := hide (below_step HB2.out hbel)
  have HR3 := hide (HR2.out.on hbel)
  have HA3 := hide ((HA2.out.below hbel).more hbel.size)
  clear hbel HW2 HB2 HR2 HA2 hZ
  have hg0 : w.heap.size < w3.heap.size := HR3.out.lt
  cases bz with
  | true =>
    obtain rfl : l = zeros 64 := by simpa using HBZ.out
    obtain rfl : ok = true := by rw [← HOK.out]; exact got_zeros.2
    obtain rfl : y = ino0 := by rw [← HY.out]; unfold gotI; rw [got_zeros.2, got_zeros.1]; rfl
    go_wp2_with ((with_reducible refine wpList_storeW rfl 24 (.tmp 2) (.tmp 13) rfl 10 ino_size w.heap.size 24 rfl [.int .i64 0, .int .i64 0, .int .i64 0, .int .i64 0, .int .i64 0, .int .i64 0, .int .i64 0, .int .i64 0, .int .i64 0, .int .i64 0] [.int .i64 0, .int .i64 0, .int .i64 0, .int .i64 0, .int .i64 0, .int .i64 0, .int .i64 0, .int .i64 0, .int .i64 0, .int .i64 0] rfl HR3.out len10 len10 ints10 ?_); intro w6 hr6 hg6 hs6; have HR6 := hide hr6; have HB6 := hide (HB3.out.grown hg6 HB3.out.size (fun g hg => by have := Option.some.inj hg; omega)); clear hr6 hg6 hs6)
    exact bodyPost_ret (res_cell2 Tryd.results14 rfl rfl ino_agg ino_size HR6.out len10) rfl ⟨rfl, HB6.out⟩
  | false =>
    have hlz : ¬ l = zeros 64 := by intro e; have := HBZ.out; rw [e] at this; simp at this
    have HLZ := hide hlz
    clear hlz
    obtain ⟨b0, hb0⟩ : ∃ b, l[0]? = some b := ⟨_, List.getElem?_eq_getElem (by rw [HL.out]; omega)⟩
    obtain ⟨b1, hb1⟩ : ∃ b, l[1]? = some b := ⟨_, List.getElem?_eq_getElem (by rw [HL.out]; omega)⟩
    obtain ⟨bb, oo, hA, hbb, hcell⟩ := HA3.out.2 (by omega)
    subst hA
    have k0 : w3.cell? ⟨bb, oo, none⟩ = some (.int .u8 b0.toNat) := hcell 0 b0 hb0
    have k1 : w3.cell? ⟨bb, oo + 1, none⟩ = some (.int .u8 b1.toNat) := hcell 1 b1 hb1
    have G0 := hide (getR_byte hb0)
    have G1 := hide (getR_byte hb1)
    have i0 := byte_int b0
    have i1 := byte_int b1
    clear hb0 hb1 hcell
    go_upto_region 5 with fail
    obtain ⟨x, hx⟩ : ∃ x, toldI l = x := ⟨_, rfl⟩
    have hxk : (b0.toNat : Int) = x.k := by rw [← hx]; exact (congrArg Int.ofNat G0.out).symm
    have hxi : (b1.toNat : Int) = x.i := by rw [← hx]; exact (congrArg Int.ofNat G1.out).symm
    have HVn : Hid ((getR l 2 2 : Int) = x.n) := hide (by rw [← hx]; rfl)
    have HVg : Hid ((getR l 4 4 : Int) = x.g) := hide (by rw [← hx]; rfl)
    have HVs : Hid ((getR l 8 2 : Int) = x.s) := hide (by rw [← hx]; rfl)
    have HVa : Hid ((getR l 18 2 : Int) = x.a) := hide (by rw [← hx]; rfl)
    have HVp : Hid (∀ j : Nat, j < 4 → (getR l (10 + 2 * ((j : Nat) : Int)) 2 : Int) = x.num (5 + j)) := hide (fun j hj => by rw [← hx]; exact told_ptr l hj)
    have HX := hide hx
    have HXK := hide hxk
    have HXI := hide hxi
    clear hxk hxi
    go_region
    obtain ⟨hr4, hb4, hs4⟩ := rows1 w3 [.int .i64 b0.toNat, .int .i64 b1.toNat, .int .i64 0, .int .i64 0, .int .i64 0, .int .i64 0, .int .i64 0, .int .i64 0, .int .i64 0, .int .i64 0] 24
    have HR4 : Hid (RowL (w3.alloc (.cells #[.int .i64 b0.toNat, .int .i64 b1.toNat, .int .i64 0, .int .i64 0, .int .i64 0, .int .i64 0, .int .i64 0, .int .i64 0, .int .i64 0, .int .i64 0] 24)).drew w3.heap.size 24 [.int .i64 x.k, .int .i64 x.i, .int .i64 0, .int .i64 0, .int .i64 0, .int .i64 0, .int .i64 0, .int .i64 0, .int .i64 0, .int .i64 0]) := hide (by rw [← HXK.out, ← HXI.out]; exact hr4.drew)
    have HR0 : Hid (RowL (w3.alloc (.cells #[.int .i64 b0.toNat, .int .i64 b1.toNat, .int .i64 0, .int .i64 0, .int .i64 0, .int .i64 0, .int .i64 0, .int .i64 0, .int .i64 0, .int .i64 0] 24)).drew w.heap.size 24 [.int .i64 0, .int .i64 0, .int .i64 0, .int .i64 0, .int .i64 0, .int .i64 0, .int .i64 0, .int .i64 0, .int .i64 0, .int .i64 0]) := hide ((HR3.out.on hb4).drew)
    have HB4 : Hid (Below w.heap.size w (w3.alloc (.cells #[.int .i64 b0.toNat, .int .i64 b1.toNat, .int .i64 0, .int .i64 0, .int .i64 0, .int .i64 0, .int .i64 0, .int .i64 0, .int .i64 0, .int .i64 0] 24)).drew) := hide (below_drew (below_step HB3.out hb4))
    have HAj : Hid (Bs (w3.alloc (.cells #[.int .i64 b0.toNat, .int .i64 b1.toNat, .int .i64 0, .int .i64 0, .int .i64 0, .int .i64 0, .int .i64 0, .int .i64 0, .int .i64 0, .int .i64 0] 24)).drew w3.heap.size (some ⟨bb, oo, none⟩) 64 l) := hide ((HA3.out.below hb4).drew)
    clear hr4 hb4 hs4 hx G0 G1 i0 i1 k0 k1 HR3 HB3 HA3
    generalize (w3.alloc (.cells #[.int .i64 b0.toNat, .int .i64 b1.toNat, .int .i64 0, .int .i64 0, .int .i64 0, .int .i64 0, .int .i64 0, .int .i64 0, .int .i64 0, .int .i64 0] 24)).drew = w4 at *
    generalize w3.heap.size = gx at *
    clear hbb
    have hgx : gx < w4.heap.size := HR4.out.lt
    have hg4 : w.heap.size < w4.heap.size := HR0.out.lt
    have c2 : w4.cell? ⟨gx, 2, none⟩ = some (.int .i64 0) := HR4.out.cell 2
    have f2 : w4.frozen? ⟨gx, 2, none⟩ = false := HR4.out.frozen 2
    have c3 : w4.cell? ⟨gx, 3, none⟩ = some (.int .i64 0) := HR4.out.cell 3
    have f3 : w4.frozen? ⟨gx, 3, none⟩ = false := HR4.out.frozen 3
    have c4 : w4.cell? ⟨gx, 4, none⟩ = some (.int .i64 0) := HR4.out.cell 4
    have f4 : w4.frozen? ⟨gx, 4, none⟩ = false := HR4.out.frozen 4
    go_wp2_with fail
    refine (RGet_any (B := gx) (p := 2) (s := 2) _ HAj.out (by omega)).mono ?_
    rintro e w' ⟨rfl, rfl⟩
    rw [HVn.out]
    have HA5 := hide (HAj.out.grown (grown_cell w4 gx 2 (.int .i64 x.n)) (by omega) (fun g h => by have := Option.some.inj h; omega))
    clear HAj
    have HAj := HA5
    clear HA5
    go_wp2_with fail
    refine (RGet_any (B := gx) (p := 4) (s := 4) _ HAj.out (by omega)).mono ?_
    rintro e w' ⟨rfl, rfl⟩
    rw [HVg.out]
    have HA5 := hide (HAj.out.grown (grown_cell _ gx 3 (.int .i64 x.g)) (by simp; omega) (fun g h => by have := Option.some.inj h; omega))
    clear HAj
    have HAj := HA5
    clear HA5
    go_wp2_with fail
    refine (RGet_any (B := gx) (p := 8) (s := 2) _ HAj.out (by omega)).mono ?_
    rintro e w' ⟨rfl, rfl⟩
    rw [HVs.out]
    have HA5 := hide (HAj.out.grown (grown_cell _ gx 4 (.int .i64 x.s)) (by simp; omega) (fun g h => by have := Option.some.inj h; omega))
    clear HAj
    have HAj := HA5
    clear HA5
    go_wp2_with fail
    have HRg : Hid (RowL (((w4.setCell ⟨gx, 2, none⟩ (.int .i64 x.n)).setCell ⟨gx, 3, none⟩ (.int .i64 x.g)).setCell ⟨gx, 4, none⟩ (.int .i64 x.s)) gx 24 (rowG x 0)) := hide (by rw [rowG_0]; exact ((HR4.out.set_ 2 (.int .i64 x.n)).set_ 3 (.int .i64 x.g)).set_ 4 (.int .i64 x.s))
    have hne : ∀ W W' : World, W.grownBy W' (some gx) → RowL W w.heap.size 24 [.int .i64 0, .int .i64 0, .int .i64 0, .int .i64 0, .int .i64 0, .int .i64 0, .int .i64 0, .int .i64 0, .int .i64 0, .int .i64 0] → RowL W' w.heap.size 24 [.int .i64 0, .int .i64 0, .int .i64 0, .int .i64 0, .int .i64 0, .int .i64 0, .int .i64 0, .int .i64 0, .int .i64 0, .int .i64 0] := fun W W' hg h => h.grown hg (by intro e; have := Option.some.inj e; omega)
    have HNE := hide hne
    have HR07 : Hid (RowL (((w4.setCell ⟨gx, 2, none⟩ (.int .i64 x.n)).setCell ⟨gx, 3, none⟩ (.int .i64 x.g)).setCell ⟨gx, 4, none⟩ (.int .i64 x.s)) w.heap.size 24 [.int .i64 0, .int .i64 0, .int .i64 0, .int .i64 0, .int .i64 0, .int .i64 0, .int .i64 0, .int .i64 0, .int .i64 0, .int .i64 0]) := hide (hne _ _ (grown_cell _ _ _ _) (hne _ _ (grown_cell _ _ _ _) (hne _ _ (grown_cell _ _ _ _) HR0.out)))
    have HB7 : Hid (Below w.heap.size w (((w4.setCell ⟨gx, 2, none⟩ (.int .i64 x.n)).setCell ⟨gx, 3, none⟩ (.int .i64 x.g)).setCell ⟨gx, 4, none⟩ (.int .i64 x.s))) := hide (((HB4.out.setCell (p := ⟨gx, 2, none⟩) (by show _ ≤ gx; omega) _).setCell (p := ⟨gx, 3, none⟩) (by show _ ≤ gx; omega) _).setCell (p := ⟨gx, 4, none⟩) (by show _ ≤ gx; omega) _)
    clear hne HR4 HR0 HB4 c2 c3 c4 f2 f3 f4
    generalize (((w4.setCell ⟨gx, 2, none⟩ (.int .i64 x.n)).setCell ⟨gx, 3, none⟩ (.int .i64 x.g)).setCell ⟨gx, 4, none⟩ (.int .i64 x.s)) = w7 at *
    clear hgx hg4
    go_loopw [5] (fun iv wr => ∃ j : Nat, j ≤ 4 ∧ iv = .int .i64 j ∧ RowL wr gx 24 (rowG x j) ∧ RowL wr w.heap.size 24 [.int .i64 0, .int .i64 0, .int .i64 0, .int .i64 0, .int .i64 0, .int .i64 0, .int .i64 0, .int .i64 0, .int .i64 0, .int .i64 0] ∧ Below w.heap.size w wr ∧ Bs wr gx (some ⟨bb, oo, none⟩) 64 l) (fun iv _ => 4 - (intOf iv).toNat)
    case atStart => exact ⟨0, by omega, rfl, HRg.out, HR07.out, HB7.out, HAj.out⟩
    case round =>
      obtain ⟨j, hj, rfl, hrg, hr0, hbel, hbs⟩ := hrel
      have HGj := hide hrg
      have HZj := hide hr0
      have HBj := hide hbel
      have HBs := hide hbs
      have hgx : gx < wr.heap.size := HGj.out.lt
      have hg8 : w.heap.size < wr.heap.size := HZj.out.lt
      clear hrg hr0 hbel hbs HRg HR07 HB7 HAj
      by_cases hlt : j < 4
      · have hc : wr.cell? ⟨gx, 5 + j, none⟩ = some (.int .i64 0) := by rw [HGj.out.cell, rowG_get x hlt]
        have hf : wr.frozen? ⟨gx, 5 + j, none⟩ = false := HGj.out.frozen _
        obtain ⟨u, hu⟩ : ∃ u, x.num (5 + j) = u := ⟨_, rfl⟩
        have hv := HVp.out j hlt
        rw [hu] at hv
        have HV := hide hv
        have HU := hide hu
        clear hv hu
        go_wp2_with fail
        refine (RGet_any (B := gx) (p := 10 + 2 * (j : Int)) (s := 2) _ HBs.out (by omega)).mono ?_
        rintro e w' ⟨rfl, rfl⟩
        rw [HV.out]
        go_wp2_with fail
        go_roundw
        case rel => exact ⟨j + 1, by omega, by go_num, by rw [← rowG_set x hlt, HU.out]; exact HGj.out.set_ _ _, HNE.out _ _ (grown_cell _ _ _ _) HZj.out, HBj.out.setCell (p := ⟨gx, 5 + j, none⟩) (by show _ ≤ gx; omega) _, HBs.out.grown (grown_cell _ gx _ _) (by omega) (fun g h => by have := Option.some.inj h; omega)⟩
        case measure => simp [intOf]; omega
      · obtain rfl : j = 4 := by omega
        have c9 : wr.cell? ⟨gx, 9, none⟩ = some (.int .i64 0) := HGj.out.cell 9
        have f9 : wr.frozen? ⟨gx, 9, none⟩ = false := HGj.out.frozen 9
        have hrx := HGj.out.set_ 9 (.int .i64 x.a)
        rw [rowG_4] at hrx
        have HR9 := hide hrx
        have HR8 := hide (HNE.out _ _ (grown_cell wr gx 9 (.int .i64 x.a)) HZj.out)
        have HB8 := hide (HBj.out.setCell (p := ⟨gx, 9, none⟩) (by show _ ≤ gx; omega) (.int .i64 x.a))
        have HA8 := hide (HBs.out.grown (grown_cell wr gx 9 (.int .i64 x.a)) (by omega) (fun g h => by have := Option.some.inj h; omega))
        clear hrx
        have hj4 : rowG x 4 = [.int .i64 x.k, .int .i64 x.i, .int .i64 x.n, .int .i64 x.g, .int .i64 x.s, .int .i64 x.p, .int .i64 x.q, .int .i64 x.r, .int .i64 x.t, .int .i64 0] := by simp [rowG]
        have HG4 : Hid (RowL wr gx 24 [.int .i64 x.k, .int .i64 x.i, .int .i64 x.n, .int .i64 x.g, .int .i64 x.s, .int .i64 x.p, .int .i64 x.q, .int .i64 x.r, .int .i64 x.t, .int .i64 0]) := hide (by rw [← hj4]; exact HGj.out)
        clear hj4 HGj
        have k0 : wr.cell? ⟨gx, 0, none⟩ = some (.int .i64 x.k) := HG4.out.cell 0
        have k1 : wr.cell? ⟨gx, 1, none⟩ = some (.int .i64 x.i) := HG4.out.cell 1
        have k2 : wr.cell? ⟨gx, 2, none⟩ = some (.int .i64 x.n) := HG4.out.cell 2
        have k3 : wr.cell? ⟨gx, 3, none⟩ = some (.int .i64 x.g) := HG4.out.cell 3
        have k4 : wr.cell? ⟨gx, 4, none⟩ = some (.int .i64 x.s) := HG4.out.cell 4
        have k5 : wr.cell? ⟨gx, 5, none⟩ = some (.int .i64 x.p) := HG4.out.cell 5
        have k6 : wr.cell? ⟨gx, 6, none⟩ = some (.int .i64 x.q) := HG4.out.cell 6
        have k7 : wr.cell? ⟨gx, 7, none⟩ = some (.int .i64 x.r) := HG4.out.cell 7
        have k8 : wr.cell? ⟨gx, 8, none⟩ = some (.int .i64 x.t) := HG4.out.cell 8

        have hwx : (wr.setCell ⟨gx, 9, none⟩ (.int .i64 x.a)).heap.size = wr.heap.size := by simp
        have HWX := hide hwx
        clear hwx
        obtain ⟨bk, hbk⟩ : ∃ bk, (x.k == 0) = bk := ⟨_, rfl⟩
        have HBK := hide hbk
        go_wp2_with fail
        refine (RGet_any (B := gx) (p := 18) (s := 2) _ HBs.out (by omega)).mono ?_
        rintro e w' ⟨rfl, rfl⟩
        rw [HVa.out]
        cases bk with
        | true =>
          have hk0 : x.k = 0 := by simpa using HBK.out
          obtain rfl : ok = false := by rw [← HOK.out]; exact got_kind HLZ.out (by rw [HX.out]; exact hk0)
          obtain rfl : y = ino0 := by rw [← HY.out]; unfold gotI; rw [HOK.out]; rfl
          clear hk0
          go_wp2_with ((with_reducible refine wpList_storeW rfl 24 (.tmp 2) (.tmp 77) rfl 10 ino_size w.heap.size 24 rfl [.int .i64 0, .int .i64 0, .int .i64 0, .int .i64 0, .int .i64 0, .int .i64 0, .int .i64 0, .int .i64 0, .int .i64 0, .int .i64 0] [.int .i64 0, .int .i64 0, .int .i64 0, .int .i64 0, .int .i64 0, .int .i64 0, .int .i64 0, .int .i64 0, .int .i64 0, .int .i64 0] rfl HR8.out len10 len10 ints10 ?_); intro w6 hr6 hg6 hs6; have HR6 := hide hr6; have HB6 := hide (HB8.out.grown hg6 HB8.out.size (fun g hg => by have := Option.some.inj hg; omega)); clear hr6 hg6 hs6)
          exact bodyPost_ret (res_cell2 Tryd.results14 rfl rfl ino_agg ino_size HR6.out len10) rfl ⟨rfl, HB6.out⟩
        | false =>
          go_wp2_with fail
          refine (RIRight_any x _).mono ?_
          rintro e w10 ⟨rfl, hbel⟩
          have HB10 := hide (below_step HB8.out hbel)
          have HR10 := hide (HR8.out.on hbel)
          have HX10 := hide (HR9.out.on hbel)
          have HA10 := hide ((HA8.out.more (B' := (wr.setCell ⟨gx, 9, none⟩ (.int .i64 x.a)).heap.size) (by rw [HWX.out]; omega)).below hbel |>.more hbel.size)
          have hgx10 : gx < w10.heap.size := HX10.out.lt
          have hg10 : w.heap.size < w10.heap.size := HR10.out.lt
          clear hbel HB8 HR8 HR9 HA8
          cases hr : rightI x with
          | false =>
            obtain rfl : ok = false := by rw [← HOK.out]; unfold gotB; rw [HX.out, hr]; rfl
            obtain rfl : y = ino0 := by rw [← HY.out]; unfold gotI; rw [HOK.out]; rfl
            go_wp2_with ((with_reducible refine wpList_storeW rfl 24 (.tmp 2) (.tmp 77) rfl 10 ino_size w.heap.size 24 rfl [.int .i64 0, .int .i64 0, .int .i64 0, .int .i64 0, .int .i64 0, .int .i64 0, .int .i64 0, .int .i64 0, .int .i64 0, .int .i64 0] [.int .i64 0, .int .i64 0, .int .i64 0, .int .i64 0, .int .i64 0, .int .i64 0, .int .i64 0, .int .i64 0, .int .i64 0, .int .i64 0] rfl HR10.out len10 len10 ints10 ?_); intro w6 hr6 hg6 hs6; have HR6 := hide hr6; have HB6 := hide (HB10.out.grown hg6 HB10.out.size (fun g hg => by have := Option.some.inj hg; omega)); clear hr6 hg6 hs6)
            exact bodyPost_ret (res_cell2 Tryd.results14 rfl rfl ino_agg ino_size HR6.out len10) rfl ⟨rfl, HB6.out⟩
          | true =>
            have m0 : w10.cell? ⟨gx, 0, none⟩ = some (.int .i64 x.k) := HX10.out.cell 0
            have m1 : w10.cell? ⟨gx, 1, none⟩ = some (.int .i64 x.i) := HX10.out.cell 1
            have m2 : w10.cell? ⟨gx, 2, none⟩ = some (.int .i64 x.n) := HX10.out.cell 2
            have m3 : w10.cell? ⟨gx, 3, none⟩ = some (.int .i64 x.g) := HX10.out.cell 3
            have m4 : w10.cell? ⟨gx, 4, none⟩ = some (.int .i64 x.s) := HX10.out.cell 4
            have m5 : w10.cell? ⟨gx, 5, none⟩ = some (.int .i64 x.p) := HX10.out.cell 5
            have m6 : w10.cell? ⟨gx, 6, none⟩ = some (.int .i64 x.q) := HX10.out.cell 6
            have m7 : w10.cell? ⟨gx, 7, none⟩ = some (.int .i64 x.r) := HX10.out.cell 7
            have m8 : w10.cell? ⟨gx, 8, none⟩ = some (.int .i64 x.t) := HX10.out.cell 8
            have m9 : w10.cell? ⟨gx, 9, none⟩ = some (.int .i64 x.a) := HX10.out.cell 9

            go_wp2_with fail
            refine (RIBytes_any _ hr).mono ?_
            rintro e w11 ⟨A11, c11, rfl, hown, hbel⟩
            have HP := hide hown.bs
            have HB11 := hide (below_step HB10.out hbel)
            have HR11 := hide (HR10.out.on hbel)
            have HX11 := hide (HX10.out.on hbel)
            have HA11 := hide (HA10.out.below hbel)
            clear hown hbel HB10 HR10 HX10 HA10
            go_wp2_with fail
            refine (Same_any _ HA11.out HP.out (by omega)).mono ?_
            rintro e w12 ⟨rfl, hbel⟩
            have HB12 := hide (below_step HB11.out hbel)
            have HR12 := hide (HR11.out.on hbel)
            have HX12 := hide (HX11.out.on hbel)
            have hg12 : w.heap.size < w12.heap.size := HR12.out.lt
            clear hbel HB11 HR11 HX11 HA11 HP
            have hgo : ok = (l == putI x) := by rw [← HOK.out]; unfold gotB; rw [HX.out, hr, Bool.true_and]
            have HGO := hide hgo
            rw [← HGO.out]
            clear hgo hr
            cases ok with
            | false =>
              obtain rfl : y = ino0 := by rw [← HY.out]; unfold gotI; rw [HOK.out]; rfl
              go_wp2_with ((with_reducible refine wpList_storeW rfl 24 (.tmp 2) (.tmp 77) rfl 10 ino_size w.heap.size 24 rfl [.int .i64 0, .int .i64 0, .int .i64 0, .int .i64 0, .int .i64 0, .int .i64 0, .int .i64 0, .int .i64 0, .int .i64 0, .int .i64 0] [.int .i64 0, .int .i64 0, .int .i64 0, .int .i64 0, .int .i64 0, .int .i64 0, .int .i64 0, .int .i64 0, .int .i64 0, .int .i64 0] rfl HR12.out len10 len10 ints10 ?_); intro w6 hr6 hg6 hs6; have HR6 := hide hr6; have HB6 := hide (HB12.out.grown hg6 HB12.out.size (fun g hg => by have := Option.some.inj hg; omega)); clear hr6 hg6 hs6)
              exact bodyPost_ret (res_cell2 Tryd.results14 rfl rfl ino_agg ino_size HR6.out len10) rfl ⟨rfl, HB6.out⟩
            | true =>
              obtain rfl : y = x := by rw [← HY.out]; unfold gotI; rw [HOK.out, HX.out]; rfl
              go_wp2_with (first
                | (with_reducible refine wpList_loadW rfl 24 (.tmp 4) rfl 10 ino_agg ino_size gx 24 rfl [.int .i64 y.k, .int .i64 y.i, .int .i64 y.n, .int .i64 y.g, .int .i64 y.s, .int .i64 y.p, .int .i64 y.q, .int .i64 y.r, .int .i64 y.t, .int .i64 y.a] HX12.out len10 ?_)
                | ((with_reducible refine wpList_storeW rfl 24 (.tmp 2) (.tmp 78) rfl 10 ino_size w.heap.size 24 rfl [.int .i64 0, .int .i64 0, .int .i64 0, .int .i64 0, .int .i64 0, .int .i64 0, .int .i64 0, .int .i64 0, .int .i64 0, .int .i64 0] [.int .i64 y.k, .int .i64 y.i, .int .i64 y.n, .int .i64 y.g, .int .i64 y.s, .int .i64 y.p, .int .i64 y.q, .int .i64 y.r, .int .i64 y.t, .int .i64 y.a] rfl HR12.out len10 len10 ints10 ?_); intro w6 hr6 hg6 hs6; have HR6 := hide hr6; have HB6 := hide (HB12.out.grown hg6 HB12.out.size (fun g hg => by have := Option.some.inj hg; omega)); clear hr6 hg6 hs6))
              exact bodyPost_ret (res_cell2 Tryd.results14 rfl rfl ino_agg ino_size HR6.out len10) rfl ⟨rfl, HB6.out⟩
end Go.Proofs.YtnjmddmiebofeaaDoor
