/- The reference's Bytes, Put (layer 9). -/
import Derived.Test.YthjjjeolpdekoaaAttH
import Derived.Test.YthjjjeolpdekoaaAttE
import Derived.Test.YthjjjeolpdekoaaSumD
import Derived.Test.YthjjjeolpdekoaaNumF
namespace Go.Proofs.Ythjjjeolpdekoaa
open Go.RowKit Plain

theorem RowL.keep {w w' : World} {g t B : Nat} {cs : List Value} (h : RowL w g t cs) (hb : Below B w w') (hg : g < B) : RowL w' g t cs := (hb.block g hg).trans h
theorem nb_one {n : Nat} (h : n < 256) : nb 1 n = [UInt8.ofNat n] := by
  have e : n % 256 = n := Nat.mod_eq_of_lt h
  simp [nb, e]
theorem red_take {r : List UInt8} {k : Nat} (hk : k < 24) : (redS r).take (k + 1) = (redS r).take k ++ [(redS r).getD k 0] := by
  have hl : k < (redS r).length := by unfold redS; rw [List.length_append, zeros_length]; omega
  rw [List.take_succ_eq_append_getElem hl]
  simp [List.getD, List.getElem?_eq_getElem hl]
theorem red_in {r : List UInt8} {k : Nat} (h : k < r.length) : (redS r).getD k 0 = r[k] := by
  unfold redS
  simp only [List.getD]
  rw [List.getElem?_append_left h, List.getElem?_eq_getElem h]
  rfl
theorem red_out {r : List UInt8} {k : Nat} (h : ¬ k < r.length) : (redS r).getD k 0 = 0 := by
  unfold redS
  simp only [List.getD]
  rw [List.getElem?_append_right (by omega)]
  unfold zeros
  rw [List.getElem?_replicate]
  split <;> rfl
set_option maxRecDepth 100000 in
set_option maxHeartbeats 3200000 in
theorem RABytes_any {x : AttV} (w : World) (ho : okA x) : Calls Try.prog 57 #[.agg #[.int .i64 x.h, .int .i64 x.o, .string ⟨x.r.toArray⟩, .int .i64 x.l, .int .i64 x.i, .int .i64 x.g, .int .i64 x.s]] w (BRet w 5 64 (sealS (bodyA x))) := by
  obtain ⟨⟨hh0, hh1⟩, ⟨ho0, ho1⟩, hrl, ⟨hl0, hl1⟩, ⟨hi0, hi1⟩, ⟨hg0, hg1⟩, ⟨hs0, hs1⟩⟩ := ho
  obtain ⟨hr1, hb1, hz1⟩ := rows1 w [.int .i64 x.h, .int .i64 x.o, .string ⟨x.r.toArray⟩, .int .i64 x.l, .int .i64 x.i, .int .i64 x.g, .int .i64 x.s] 48
  have HR1 := hide hr1
  have HB1 := hide hb1
  have hwh : IntKind.u8.wrap x.h = x.h := by simp [IntKind.wrap, IntKind.bits, IntKind.signed]; omega
  have hwo : IntKind.u8.wrap x.o = x.o := by simp [IntKind.wrap, IntKind.bits, IntKind.signed]; omega
  have hwl : IntKind.u8.wrap x.l = x.l := by simp [IntKind.wrap, IntKind.bits, IntKind.signed]; omega
  have hwn : IntKind.u8.wrap (x.r.length : Int) = (x.r.length : Int) := by simp [IntKind.wrap, IntKind.bits, IntKind.signed]; omega
  have hlit : [Value.int .u8 x.h, .int .u8 x.o, .int .u8 (x.r.length : Int)] = bvs (nb 1 x.h.toNat ++ nb 1 x.o.toNat ++ nb 1 x.r.length) := by
    rw [nb_one (by omega), nb_one (by omega), nb_one (by omega), byte_nat hh0 (by omega), byte_nat ho0 (by omega), byte_nat (x := (x.r.length : Int)) (by omega) (by omega), Int.toNat_natCast]
    rfl
  have HLIT := hide hlit
  have hby := byte_nat hl0 (by omega)
  have HBY := hide hby
  have c0 : (w.alloc (.cells #[.int .i64 x.h, .int .i64 x.o, .string ⟨x.r.toArray⟩, .int .i64 x.l, .int .i64 x.i, .int .i64 x.g, .int .i64 x.s] 48)).cell? ⟨w.heap.size, 0, none⟩ = some (.int .i64 x.h) := HR1.out.cell 0
  have c1 : (w.alloc (.cells #[.int .i64 x.h, .int .i64 x.o, .string ⟨x.r.toArray⟩, .int .i64 x.l, .int .i64 x.i, .int .i64 x.g, .int .i64 x.s] 48)).cell? ⟨w.heap.size, 1, none⟩ = some (.int .i64 x.o) := HR1.out.cell 1
  have c2 : (w.alloc (.cells #[.int .i64 x.h, .int .i64 x.o, .string ⟨x.r.toArray⟩, .int .i64 x.l, .int .i64 x.i, .int .i64 x.g, .int .i64 x.s] 48)).cell? ⟨w.heap.size, 2, none⟩ = some (.string ⟨x.r.toArray⟩) := HR1.out.cell 2
  have hgx : w.heap.size < (w.alloc (.cells #[.int .i64 x.h, .int .i64 x.o, .string ⟨x.r.toArray⟩, .int .i64 x.l, .int .i64 x.i, .int .i64 x.g, .int .i64 x.s] 48)).heap.size := HR1.out.lt
  clear hr1 hb1 hz1 hlit hby
  have hs1 : (w.alloc (.cells #[.int .i64 x.h, .int .i64 x.o, .string ⟨x.r.toArray⟩, .int .i64 x.l, .int .i64 x.i, .int .i64 x.g, .int .i64 x.s] 48)).heap.size = w.heap.size + 1 := by simp
  have HO2 : Hid (Own ((w.alloc (.cells #[.int .i64 x.h, .int .i64 x.o, .string ⟨x.r.toArray⟩, .int .i64 x.l, .int .i64 x.i, .int .i64 x.g, .int .i64 x.s] 48)).alloc (.cells #[.int .u8 x.h, .int .u8 x.o, .int .u8 (x.r.length : Int)] 5)) (w.heap.size + 1) 5 (some ⟨w.heap.size + 1, 0, none⟩) 3 3 (nb 1 x.h.toNat ++ nb 1 x.o.toNat ++ nb 1 x.r.length)) := hide (by
    have := Own.lit (w.alloc (.cells #[.int .i64 x.h, .int .i64 x.o, .string ⟨x.r.toArray⟩, .int .i64 x.l, .int .i64 x.i, .int .i64 x.g, .int .i64 x.s] 48)) 5 (cs := [.int .u8 x.h, .int .u8 x.o, .int .u8 (x.r.length : Int)]) (n := 3) HLIT.out (by simp [nb_length]) (by omega)
    rwa [hs1] at this)
  have HBB2 : Hid (Below (w.heap.size + 1) (w.alloc (.cells #[.int .i64 x.h, .int .i64 x.o, .string ⟨x.r.toArray⟩, .int .i64 x.l, .int .i64 x.i, .int .i64 x.g, .int .i64 x.s] 48)) ((w.alloc (.cells #[.int .i64 x.h, .int .i64 x.o, .string ⟨x.r.toArray⟩, .int .i64 x.l, .int .i64 x.i, .int .i64 x.g, .int .i64 x.s] 48)).alloc (.cells #[.int .u8 x.h, .int .u8 x.o, .int .u8 (x.r.length : Int)] 5))) := hide (by
    have := below_new (below_self (w.alloc (.cells #[.int .i64 x.h, .int .i64 x.o, .string ⟨x.r.toArray⟩, .int .i64 x.l, .int .i64 x.i, .int .i64 x.g, .int .i64 x.s] 48))) (.cells #[.int .u8 x.h, .int .u8 x.o, .int .u8 (x.r.length : Int)] 5)
    rwa [hs1] at this)
  go_enter Try.func57, Try.ntmps57
  go_wp2_with fail
  generalize ((w.alloc (.cells #[.int .i64 x.h, .int .i64 x.o, .string ⟨x.r.toArray⟩, .int .i64 x.l, .int .i64 x.i, .int .i64 x.g, .int .i64 x.s] 48)).alloc (.cells #[.int .u8 x.h, .int .u8 x.o, .int .u8 (x.r.length : Int)] 5)) = w2 at *
  have hsz : (w.heap.size + 1) ≤ (w.alloc (.cells #[.int .i64 x.h, .int .i64 x.o, .string ⟨x.r.toArray⟩, .int .i64 x.l, .int .i64 x.i, .int .i64 x.g, .int .i64 x.s] 48)).heap.size := Nat.le_of_eq hs1.symm
  clear c0 c1 c2 hgx hs1
  generalize (w.alloc (.cells #[.int .i64 x.h, .int .i64 x.o, .string ⟨x.r.toArray⟩, .int .i64 x.l, .int .i64 x.i, .int .i64 x.g, .int .i64 x.s] 48)) = w1 at *
  go_loopw [3, 4] (fun v j wr => ∃ (k : Nat) (A : Option Addr) (c : Nat), k ≤ 24 ∧ j = .int .i64 k ∧ v = .slice A (3 + k) c ∧ Own wr (w.heap.size + 1) 5 A (3 + k) c ((nb 1 x.h.toNat ++ nb 1 x.o.toNat ++ nb 1 x.r.length) ++ (redS x.r).take k) ∧ Below (w.heap.size + 1) w1 wr) (fun _ j _ => 24 - (intOf j).toNat)
  case atStart => exact ⟨0, _, _, by omega, rfl, rfl, by rw [List.take_zero, List.append_nil]; exact HO2.out, HBB2.out⟩
  case round =>
    obtain ⟨k, A, c, hk24, rfl, rfl, hown, hbel⟩ := hrel
    have HOk := hide hown
    have HBk := hide hbel
    have hgx : w.heap.size < wr.heap.size := (HR1.out.keep hbel (Nat.lt_succ_self _)).lt
    have c2 : wr.cell? ⟨w.heap.size, 2, none⟩ = some (.string ⟨x.r.toArray⟩) := (HR1.out.keep hbel (Nat.lt_succ_self _)).cell 2
    clear hown hbel HO2 HBB2
    by_cases hlt : k < 24
    · by_cases hk : k < x.r.length
      · skip
        go_wp2_with (at_builtin; refine wpList_append_Bs _ rfl (.tmp 25) (.tmp 30) 24 rfl (w.heap.size + 1) 5 Try.underlying24 info_u8 _ (3 + k) _ _ rfl (HOk.out.alloc _) _ _ 1 1 _ rfl (Bs.one (x := x.r[k]) _ _ rfl) (3 + (k + 1)) rfl (by omega) (by have := HBk.out.size; simp; omega) ?_; intro A1 c1 w4 hown1 hbel1; have HO1 := hide hown1; have HB1 := hide hbel1; clear hown1 hbel1)
        go_roundw
        case rel => exact ⟨k + 1, _, _, by omega, by go_num, rfl, by rw [red_take hlt, red_in hk, ← List.append_assoc]; exact HO1.out, (HBk.out.alloc (Nat.le_trans hsz HBk.out.size) _).trans HB1.out⟩
        case measure => simp [intOf]; omega
      · skip
        go_wp2_with (at_builtin; refine wpList_append_Bs _ rfl (.tmp 32) (.tmp 33) 24 rfl (w.heap.size + 1) 5 Try.underlying24 info_u8 _ (3 + k) _ _ rfl (HOk.out.alloc _) _ _ 1 1 _ rfl (Bs.one (x := (0 : UInt8)) _ _ rfl) (3 + (k + 1)) rfl (by omega) (by have := HBk.out.size; simp; omega) ?_; intro A1 c1 w4 hown1 hbel1; have HO1 := hide hown1; have HB1 := hide hbel1; clear hown1 hbel1)
        go_roundw
        case rel => exact ⟨k + 1, _, _, by omega, by go_num, rfl, by rw [red_take hlt, red_out hk, ← List.append_assoc]; exact HO1.out, (HBk.out.alloc (Nat.le_trans hsz HBk.out.size) _).trans HB1.out⟩
        case measure => simp [intOf]; omega
    · obtain rfl : k = 24 := by omega
      have c3 : wr.cell? ⟨w.heap.size, 3, none⟩ = some (.int .i64 x.l) := (HR1.out.keep HBk.out (Nat.lt_succ_self _)).cell 3
      have hend : (nb 1 x.h.toNat ++ nb 1 x.o.toNat ++ nb 1 x.r.length) ++ (redS x.r).take 24 = (nb 1 x.h.toNat ++ nb 1 x.o.toNat ++ nb 1 x.r.length) ++ redS x.r := by rw [List.take_of_length_le (by rw [redS_len hrl]; exact Nat.le_refl _)]
      have HO4 : Hid (Own wr (w.heap.size + 1) 5 A 27 c ((nb 1 x.h.toNat ++ nb 1 x.o.toNat ++ nb 1 x.r.length) ++ redS x.r)) := hide (by rw [← hend]; exact HOk.out)
      clear HOk hend
      go_wp2_with (at_builtin; refine wpList_append_Bs _ rfl (.tmp 35) (.tmp 40) 24 rfl (w.heap.size + 1) 5 Try.underlying24 info_u8 _ 27 _ _ rfl (HO4.out.alloc _) _ _ 1 _ _ rfl (Bs.one _ _ HBY.out) 28 rfl (by omega) (by have := HBk.out.size; simp; omega) ?_; intro A5 c5 w5 hown hbel; have HO5 := hide hown; have HBB5 := hide ((HBk.out.alloc (Nat.le_trans hsz HBk.out.size) _).trans hbel); clear hown hbel; have hgx : w.heap.size < w5.heap.size := (HR1.out.keep HBB5.out (Nat.lt_succ_self _)).lt; have cc : w5.cell? ⟨w.heap.size, 4, none⟩ = some (.int .i64 x.i) := (HR1.out.keep HBB5.out (Nat.lt_succ_self _)).cell 4)
      clear c2 c3 HO4 HBk
      refine (RBytes_any (n := x.i) (s := 2) _ hi0 (by omega) (by omega)).mono ?_
      rintro e w6 ⟨B6, d6, rfl, hown, hbel⟩
      have HQ6 := hide hown.bs
      have HO6 := hide (HO5.out.below hbel)
      have HBB6 := hide (HBB5.out.trans (hbel.mono (Nat.le_trans hsz HBB5.out.size)))
      have hz6 : (w.heap.size + 1) ≤ w6.heap.size := Nat.le_trans hsz HBB6.out.size
      clear cc hgx hown hbel HO5 HBB5
      go_wp2_with (at_builtin; refine wpList_append_Bs _ rfl (.tmp 42) (.tmp 46) 24 rfl (w.heap.size + 1) 5 Try.underlying24 info_u8 _ 28 _ _ rfl HO6.out _ _ 2 _ _ rfl HQ6.out 30 rfl (by omega) hz6 ?_; intro A7 c7 w7 hown hbel; have HO7 := hide hown; have HBB7 := hide (HBB6.out.trans hbel); clear hown hbel; have hgx : w.heap.size < w7.heap.size := (HR1.out.keep HBB7.out (Nat.lt_succ_self _)).lt; have cc : w7.cell? ⟨w.heap.size, 5, none⟩ = some (.int .i64 x.g) := (HR1.out.keep HBB7.out (Nat.lt_succ_self _)).cell 5)
      refine (RBytes_any (n := x.g) (s := 4) _ hg0 (by omega) (by omega)).mono ?_
      rintro e w8 ⟨B8, d8, rfl, hown, hbel⟩
      have HQ8 := hide hown.bs
      have HO8 := hide (HO7.out.below hbel)
      have HBB8 := hide (HBB7.out.trans (hbel.mono (Nat.le_trans hsz HBB7.out.size)))
      have hz8 : (w.heap.size + 1) ≤ w8.heap.size := Nat.le_trans hsz HBB8.out.size
      clear cc hgx hown hbel HO7 HBB7
      go_wp2_with (at_builtin; refine wpList_append_Bs _ rfl (.tmp 48) (.tmp 52) 24 rfl (w.heap.size + 1) 5 Try.underlying24 info_u8 _ 30 _ _ rfl HO8.out _ _ 4 _ _ rfl HQ8.out 34 rfl (by omega) hz8 ?_; intro A9 c9 w9 hown hbel; have HO9 := hide hown; have HBB9 := hide (HBB8.out.trans hbel); clear hown hbel; have hgx : w.heap.size < w9.heap.size := (HR1.out.keep HBB9.out (Nat.lt_succ_self _)).lt; have cc : w9.cell? ⟨w.heap.size, 6, none⟩ = some (.int .i64 x.s) := (HR1.out.keep HBB9.out (Nat.lt_succ_self _)).cell 6)
      refine (RBytes_any (n := x.s) (s := 2) _ hs0 (by omega) (by omega)).mono ?_
      rintro e w10 ⟨B10, d10, rfl, hown, hbel⟩
      have HQ10 := hide hown.bs
      have HO10 := hide (HO9.out.below hbel)
      have HBB10 := hide (HBB9.out.trans (hbel.mono (Nat.le_trans hsz HBB9.out.size)))
      have hz10 : (w.heap.size + 1) ≤ w10.heap.size := Nat.le_trans hsz HBB10.out.size
      clear cc hgx hown hbel HO9 HBB9
      go_wp2_with (at_builtin; refine wpList_append_Bs _ rfl (.tmp 54) (.tmp 57) 24 rfl (w.heap.size + 1) 5 Try.underlying24 info_u8 _ 34 _ _ rfl HO10.out _ _ 2 _ _ rfl HQ10.out 36 rfl (by omega) hz10 ?_; intro A11 c11 w11 hown hbel; have HO11 := hide hown; have HBB11 := hide (HBB10.out.trans hbel); clear hown hbel)
      refine (RSeal_any _ HO11.out.bs (by omega)).mono ?_
      rintro e w12 ⟨A12, c12, rfl, hown, hbel⟩
      have HB12 := hide (HB1.out.trans ((HBB11.out.trans (hbel.mono (Nat.le_trans hsz HBB11.out.size))).mono (Nat.le_succ _)))
      have HO12 := hide (hown.rebase (b' := w.heap.size) (by have := HBB11.out.size; omega))
      clear hown hbel
      go_wp2_with fail
      go_ret
      exact Own.ret (by unfold bodyA; rw [nb_one (show x.l.toNat < 256 by omega)]; exact HO12.out) HB12.out
set_option maxRecDepth 100000 in
set_option maxHeartbeats 800000 in
theorem RAPut_any (x : AttV) (w : World) : Calls Try.prog 27 #[.agg #[.int .i64 x.h, .int .i64 x.o, .string ⟨x.r.toArray⟩, .int .i64 x.l, .int .i64 x.i, .int .i64 x.g, .int .i64 x.s]] w (BERet w 5 (putA x) (errA x)) := by
  obtain ⟨hr1, hb, hsz⟩ := rows1 w [.int .i64 x.h, .int .i64 x.o, .string ⟨x.r.toArray⟩, .int .i64 x.l, .int .i64 x.i, .int .i64 x.g, .int .i64 x.s] 48
  have HR1 := hide hr1
  have HB := hide hb
  clear hr1 hb hsz
  cases hr : rightA x with
  | false =>
    have e1 : putA x = [] := by simp [putA, hr]
    have e2 : errA x = 1 := by simp [errA, hr]
    rw [e1, e2]
    have HR := hide hr
    clear hr e1 e2
    go_enter Try.func27, Try.ntmps27
    go_wp2_with fail
    refine (RARight_b x _ HR.out).mono ?_
    rintro e w2 ⟨rfl, hbel⟩
    have HB2 := hide (below_step HB.out hbel)
    clear hbel
    go_wp2_with fail
    go_ret2
    exact ⟨_, _, _, rfl, Own.nil_ _ _ _, HB2.out⟩
  | true =>
    have e2 : errA x = 0 := by simp [errA, hr]
    have hok := right_okA hr
    have e1 : putA x = sealS (bodyA x) := by unfold putA; rw [if_pos hr]
    rw [e1, e2]
    have HR := hide hr
    have HOK := hide hok
    clear hr e1 e2 hok
    go_enter Try.func27, Try.ntmps27
    go_wp2_with fail
    refine (RARight_b x _ HR.out).mono ?_
    rintro e w2 ⟨rfl, hbel⟩
    have HB2 := hide (below_step HB.out hbel)
    have hr2 := HR1.out.on hbel
    have c0 : w2.cell? ⟨w.heap.size, 0, none⟩ = some (.int .i64 x.h) := hr2.cell 0
    have c1 : w2.cell? ⟨w.heap.size, 1, none⟩ = some (.int .i64 x.o) := hr2.cell 1
    have c2 : w2.cell? ⟨w.heap.size, 2, none⟩ = some (.string ⟨x.r.toArray⟩) := hr2.cell 2
    have c3 : w2.cell? ⟨w.heap.size, 3, none⟩ = some (.int .i64 x.l) := hr2.cell 3
    have c4 : w2.cell? ⟨w.heap.size, 4, none⟩ = some (.int .i64 x.i) := hr2.cell 4
    have c5 : w2.cell? ⟨w.heap.size, 5, none⟩ = some (.int .i64 x.g) := hr2.cell 5
    have c6 : w2.cell? ⟨w.heap.size, 6, none⟩ = some (.int .i64 x.s) := hr2.cell 6
    have hg2 : w.heap.size < w2.heap.size := hr2.lt
    clear hbel hr2
    go_wp2_with fail
    refine (RABytes_any _ HOK.out).mono ?_
    rintro e w3 ⟨A3, c3', rfl, hown, hbel⟩
    have HB3 := hide (below_step HB2.out hbel)
    have HO3 := hide (hown.rebase HB2.out.size)
    clear hown hbel
    go_wp2_with fail
    go_ret2
    exact ⟨_, _, _, rfl, HO3.out, HB3.out⟩
end Go.Proofs.Ythjjjeolpdekoaa
