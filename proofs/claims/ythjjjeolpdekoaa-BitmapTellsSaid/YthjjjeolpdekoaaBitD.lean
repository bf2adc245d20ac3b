/- bitmap (layer 10): the program's Put. -/
import Derived.Test.YthjjjeolpdekoaaBitC
namespace Go.Proofs.Ythjjjeolpdekoaa
open Go.RowKit Plain

theorem shl_1 (j : Nat) (h : j < 8) : Op.shift .shl .u8 1 .i64 ((j : Nat) : Int) = pure (.int .u8 ((2 ^ j : Nat) : Int)) := by
  rw [shift_shl .u8 .i64 1 (j : Int) (by omega) (by simp [IntKind.bits]; omega)]
  congr 2
  obtain rfl | rfl | rfl | rfl | rfl | rfl | rfl | rfl : j = 0 ∨ j = 1 ∨ j = 2 ∨ j = 3 ∨ j = 4 ∨ j = 5 ∨ j = 6 ∨ j = 7 := by omega
  all_goals decide
theorem or_8 (j v : Nat) (hj : j < 8) (h : v < 2 ^ j) : bits .or .u8 (v : Int) ((2 ^ j : Nat) : Int) = ((v + 2 ^ j : Nat) : Int) := by
  have h8 := pow8 j hj
  have e := Plain.or_shift v 1 j h
  rw [Nat.one_mul, Nat.mul_one] at e
  show IntKind.u8.wrap ((BitVec.ofInt 8 (v : Int) ||| BitVec.ofInt 8 ((2 ^ j : Nat) : Int)).toNat : Int) = _
  rw [BitVec.toNat_or, ofInt8 v (by omega), ofInt8 (2 ^ j) (by omega), e]
  generalize 2 ^ j = p at *
  simp [IntKind.wrap, IntKind.bits, IntKind.signed]
  omega
set_option maxRecDepth 100000 in
set_option maxHeartbeats 800000 in
theorem PutB_any {A : Option Addr} {n c : Nat} {u : List Bool} (w : World) (h : Rd Value.bool w w.heap.size A n u) (hn : n ≤ 140737488355328) (hnc : n ≤ c) :
    Calls Try.prog 37 #[.slice A n c] w (BRet w 5 64 (bmS u)) := by
  have H := hide h
  clear h
  by_cases h5 : n ≤ 512
  · skip
    go_enter Try.func37, Try.ntmps37
    go_wp2_with (with_reducible refine wpList_make_Bs _ rfl _ _ 24 rfl 5 Try.underlying24 info_u8b _ _ _ _ 64 rfl rfl rfl rfl (by omega) ?_; intro w1 hr1 hb1; have HR1 := hide hr1; have HB1 := hide hb1; clear hr1 hb1)
    go_loopw [13] (fun j wr => ∃ k : Nat, k ≤ n ∧ j = .int .i64 k ∧ RowL wr w.heap.size 5 (bvs (bmS (u.take k))) ∧ Below w.heap.size w wr) (fun j _ => n - (intOf j).toNat)
    case atStart => exact ⟨0, by omega, rfl, bm_zero HR1.out, HB1.out⟩
    case round =>
      obtain ⟨k, hk, rfl, hrow, hbel⟩ := hrel
      have HRW := hide hrow
      have HB := hide hbel
      clear hrow hbel HR1 HB1
      by_cases hlt : k < n
      · have hl : k < u.length := by rw [H.out.len]; omega
        obtain ⟨b, o, rfl, hbl, hd⟩ := H.out.2 (by omega)
        obtain ⟨x, hx⟩ : ∃ x, u[k] = x := ⟨_, rfl⟩
        have hc := hd k x (by rw [List.getElem?_eq_getElem hl, hx])
        rw [← HB.out.cell (p := ⟨b, o + k, none⟩) hbl] at hc
        have HX := hide hx
        clear hd hx
        cases x
        · go_wp2
          go_roundw
          case rel => exact ⟨k + 1, by omega, by go_num, by rw [bmS_no hl (by omega) HX.out]; exact HRW.out, HB.out⟩
          case measure => simp [intOf]; omega
        · have hc2 := bm_cell HRW.out (show k / 8 < 64 by omega)
          have hf := HRW.out.frozen (k / 8)
          have hst := byteN_step hl
          have h8 := pow8 (k % 8) (by omega)
          obtain ⟨v, hv⟩ : ∃ v, byteN (u.take k) (k / 8) = v := ⟨_, rfl⟩
          rw [hv] at hc2 hst
          have HV := hide hv
          have HV2 := hide hst.2
          have hv8 : v < 128 := by have := hst.2; omega
          clear hv hst h8
          go_wp2
          have hw1 : IntKind.i64.wrap ((k : Int) / 8) = (k : Int) / 8 := IntWalk.i64_in _ (by omega)
          have hw2 : ((k : Int) / 8).toNat = k / 8 := by omega
          have hw3 : (0 : Int) ≤ (k : Int) / 8 := by omega
          have hw4 : (k : Int) / 8 < 64 := by omega
          obtain ⟨q, hq⟩ : ∃ q : Nat, q = 2 ^ (k % 8) := ⟨_, rfl⟩
          have hsh : Op.shift .shl .u8 1 .i64 ((k : Int).tmod 8) = pure (.int .u8 (q : Int)) := by
            have e : (k : Int).tmod 8 = ((k % 8 : Nat) : Int) := by rw [Int.tmod_eq_emod_of_nonneg (by omega)]; omega
            rw [e, hq]; exact shl_1 (k % 8) (by omega)
          have hor : bits .or .u8 (v : Int) (q : Int) = ((v + q : Nat) : Int) := by rw [hq]; exact or_8 (k % 8) v (by omega) HV2.out
          have hz : ((v + q : Nat) : Int) = (byteN (u.take k) (k / 8) + 2 ^ (k % 8) : Nat) := by rw [HV.out, hq]
          have HZ := hide hz
          clear hq hz
          go_still_tail 10, (by kernel_rfl)
          change wpList _ _ _ _ _ wr.drew
          clear hw1 hw2 hw3 hw4 hsh hor
          go_wp2
          go_roundw
          case rel => exact ⟨k + 1, by omega, by go_num, bm_store (w := wr.drew) HRW.out hl HX.out HZ.out, (HB.out.drew).setCell (p := ⟨_, _, none⟩) (Nat.le_refl _) _⟩
          case measure => simp [intOf]; omega
      · have HE := hide (bm_end (k := k) H.out.len (by omega) (by omega))
        go_wp2
        go_ret
        exact Own.ret (HRW.out.own_bvs (by rw [HE.out]) (bmS_length _) (Nat.le_refl _) (by omega)) HB.out
  · skip
    go_enter Try.func37, Try.ntmps37
    go_wp2_with (with_reducible refine wpList_make_Bs _ rfl _ _ 24 rfl 5 Try.underlying24 info_u8b _ _ _ _ 64 rfl rfl rfl rfl (by omega) ?_; intro w1 hr1 hb1; have HR1 := hide hr1; have HB1 := hide hb1; clear hr1 hb1)
    go_loopw [13] (fun j wr => ∃ k : Nat, k ≤ 512 ∧ j = .int .i64 k ∧ RowL wr w.heap.size 5 (bvs (bmS (u.take k))) ∧ Below w.heap.size w wr) (fun j _ => 512 - (intOf j).toNat)
    case atStart => exact ⟨0, by omega, rfl, bm_zero HR1.out, HB1.out⟩
    case round =>
      obtain ⟨k, hk, rfl, hrow, hbel⟩ := hrel
      have HRW := hide hrow
      have HB := hide hbel
      clear hrow hbel HR1 HB1
      by_cases hlt : k < 512
      · have hl : k < u.length := by rw [H.out.len]; omega
        obtain ⟨b, o, rfl, hbl, hd⟩ := H.out.2 (by omega)
        obtain ⟨x, hx⟩ : ∃ x, u[k] = x := ⟨_, rfl⟩
        have hc := hd k x (by rw [List.getElem?_eq_getElem hl, hx])
        rw [← HB.out.cell (p := ⟨b, o + k, none⟩) hbl] at hc
        have HX := hide hx
        clear hd hx
        cases x
        · go_wp2
          go_roundw
          case rel => exact ⟨k + 1, by omega, by go_num, by rw [bmS_no hl (by omega) HX.out]; exact HRW.out, HB.out⟩
          case measure => simp [intOf]; omega
        · have hc2 := bm_cell HRW.out (show k / 8 < 64 by omega)
          have hf := HRW.out.frozen (k / 8)
          have hst := byteN_step hl
          have h8 := pow8 (k % 8) (by omega)
          obtain ⟨v, hv⟩ : ∃ v, byteN (u.take k) (k / 8) = v := ⟨_, rfl⟩
          rw [hv] at hc2 hst
          have HV := hide hv
          have HV2 := hide hst.2
          have hv8 : v < 128 := by have := hst.2; omega
          clear hv hst h8
          go_wp2
          have hw1 : IntKind.i64.wrap ((k : Int) / 8) = (k : Int) / 8 := IntWalk.i64_in _ (by omega)
          have hw2 : ((k : Int) / 8).toNat = k / 8 := by omega
          have hw3 : (0 : Int) ≤ (k : Int) / 8 := by omega
          have hw4 : (k : Int) / 8 < 64 := by omega
          obtain ⟨q, hq⟩ : ∃ q : Nat, q = 2 ^ (k % 8) := ⟨_, rfl⟩
          have hsh : Op.shift .shl .u8 1 .i64 ((k : Int).tmod 8) = pure (.int .u8 (q : Int)) := by
            have e : (k : Int).tmod 8 = ((k % 8 : Nat) : Int) := by rw [Int.tmod_eq_emod_of_nonneg (by omega)]; omega
            rw [e, hq]; exact shl_1 (k % 8) (by omega)
          have hor : bits .or .u8 (v : Int) (q : Int) = ((v + q : Nat) : Int) := by rw [hq]; exact or_8 (k % 8) v (by omega) HV2.out
          have hz : ((v + q : Nat) : Int) = (byteN (u.take k) (k / 8) + 2 ^ (k % 8) : Nat) := by rw [HV.out, hq]
          have HZ := hide hz
          clear hq hz
          go_still_tail 10, (by kernel_rfl)
          change wpList _ _ _ _ _ wr.drew
          clear hw1 hw2 hw3 hw4 hsh hor
          go_wp2
          go_roundw
          case rel => exact ⟨k + 1, by omega, by go_num, bm_store (w := wr.drew) HRW.out hl HX.out HZ.out, (HB.out.drew).setCell (p := ⟨_, _, none⟩) (Nat.le_refl _) _⟩
          case measure => simp [intOf]; omega
      · have HE := hide (bm_end (k := k) H.out.len (by omega) (by omega))
        go_wp2
        go_ret
        exact Own.ret (HRW.out.own_bvs (by rw [HE.out]) (bmS_length _) (Nat.le_refl _) (by omega)) HB.out
end Go.Proofs.Ythjjjeolpdekoaa
