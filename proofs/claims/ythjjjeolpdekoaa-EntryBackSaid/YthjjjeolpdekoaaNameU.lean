/- The contract of the program's name.Unpack. -/
import Derived.Test.YthjjjeolpdekoaaNameT
import Derived.Test.YthjjjeolpdekoaaBytEq
import Derived.Test.YthjjjeolpdekoaaRefNameC
import Derived.IntWalk
import Derived.Laws.Cover3
namespace Go.Proofs.Ythjjjeolpdekoaa
open Go.RowKit Plain

theorem list14 {b : List UInt8} (h : b.length = 14) : ∃ b0 b1 b2 b3 b4 b5 b6 b7 b8 b9 b10 b11 b12 b13 : UInt8, b = [b0, b1, b2, b3, b4, b5, b6, b7, b8, b9, b10, b11, b12, b13] := by
  match b, h with
  | [b0, b1, b2, b3, b4, b5, b6, b7, b8, b9, b10, b11, b12, b13], _ => exact ⟨b0, b1, b2, b3, b4, b5, b6, b7, b8, b9, b10, b11, b12, b13, rfl⟩

set_option maxHeartbeats 800000 in
theorem NUnpack_in {A : Option Addr} {c : Nat} {b : List UInt8} (w : World) (ha : Bs w w.heap.size A 14 b) :
    Calls Try.prog 72 #[.slice A 14 c] w (StRet w (unpackS b) (isPackB b)) := by
  have HA := hide ha
  obtain ⟨bb, o, rfl, hbb, hcell⟩ := ha.2 (by omega)
  have hl := ha.len
  obtain ⟨b0, b1, b2, b3, b4, b5, b6, b7, b8, b9, b10, b11, b12, b13, rfl⟩ := list14 hl
  have k0 := hcell 0 b0 rfl
  have k1 := hcell 1 b1 rfl
  have k2 := hcell 2 b2 rfl
  have k3 := hcell 3 b3 rfl
  have k4 := hcell 4 b4 rfl
  have k5 := hcell 5 b5 rfl
  have k6 := hcell 6 b6 rfl
  have k7 := hcell 7 b7 rfl
  have k8 := hcell 8 b8 rfl
  have k9 := hcell 9 b9 rfl
  have k10 := hcell 10 b10 rfl
  have k11 := hcell 11 b11 rfl
  have k12 := hcell 12 b12 rfl
  have k13 := hcell 13 b13 rfl
  simp only [bv, Nat.add_zero] at k0 k1 k2 k3 k4 k5 k6 k7 k8 k9 k10 k11 k12 k13
  clear hcell hl ha
  obtain ⟨x, hx⟩ : ∃ x : Nat, b0.toNat = x := ⟨_, rfl⟩
  have hx256 : x < 256 := by rw [← hx]; exact b0.toNat_lt
  rw [hx] at k0
  have HX := hide hx
  clear hx
  have kp := run_arrayAt (P := Try.prog) (w := w) 92 5 14 (some ⟨bb, o, none⟩) 14 c Try.underlying92 (by omega)
  by_cases hgt : 12 < x
  · have hd : decide ((12 : Int) < (x : Int)) = true := by simp; omega
    go_enter Try.func72, Try.ntmps72
    go_wp2_with fail
    go_ret2
    have hp : isPackB [b0, b1, b2, b3, b4, b5, b6, b7, b8, b9, b10, b11, b12, b13] = false := by
      unfold isPackB
      have : decide (([b0, b1, b2, b3, b4, b5, b6, b7, b8, b9, b10, b11, b12, b13].headD 0).toNat ≤ 12) = false := by
        rw [List.headD_cons, HX.out]
        simp
        omega
      rw [this]
      simp
    have hu : unpackS [b0, b1, b2, b3, b4, b5, b6, b7, b8, b9, b10, b11, b12, b13] = [] := by simp [unpackS, hp]
    rw [hp, hu]
    exact StRet.of (below_new (below_self w) _)
  · have hd : decide ((12 : Int) < (x : Int)) = false := by simp; omega
    have hx12 : x ≤ 12 := by omega
    have hb14 : Bs (w.alloc (.cells #[Value.int .u8 (x : Int), .int .u8 (b1.toNat : Int), .int .u8 (b2.toNat : Int), .int .u8 (b3.toNat : Int), .int .u8 (b4.toNat : Int), .int .u8 (b5.toNat : Int), .int .u8 (b6.toNat : Int), .int .u8 (b7.toNat : Int), .int .u8 (b8.toNat : Int), .int .u8 (b9.toNat : Int), .int .u8 (b10.toNat : Int), .int .u8 (b11.toNat : Int), .int .u8 (b12.toNat : Int), .int .u8 (b13.toNat : Int)] 92)) (w.heap.size + 1) (some ⟨w.heap.size, 0, none⟩) 14 [b0, b1, b2, b3, b4, b5, b6, b7, b8, b9, b10, b11, b12, b13] :=
      Bs.lit w _ (cs := [Value.int .u8 (x : Int), .int .u8 (b1.toNat : Int), .int .u8 (b2.toNat : Int), .int .u8 (b3.toNat : Int), .int .u8 (b4.toNat : Int), .int .u8 (b5.toNat : Int), .int .u8 (b6.toNat : Int), .int .u8 (b7.toNat : Int), .int .u8 (b8.toNat : Int), .int .u8 (b9.toNat : Int), .int .u8 (b10.toNat : Int), .int .u8 (b11.toNat : Int), .int .u8 (b12.toNat : Int), .int .u8 (b13.toNat : Int)]) (by simp [bvs, bv, HX.out]) rfl
    have hin : innerS [b0, b1, b2, b3, b4, b5, b6, b7, b8, b9, b10, b11, b12, b13] = ([b0, b1, b2, b3, b4, b5, b6, b7, b8, b9, b10, b11, b12, b13].drop 1).take x := by unfold innerS; rw [List.headD_cons, HX.out]
    have hcut := hb14.cut (lo := 1) (hi := 1 + x) (m := 15) (by omega) (by omega) (by omega)
    rw [if_neg (by omega), Nat.add_sub_cancel_left, ← hin] at hcut
    obtain ⟨s, hs⟩ : ∃ s, innerS [b0, b1, b2, b3, b4, b5, b6, b7, b8, b9, b10, b11, b12, b13] = s := ⟨_, rfl⟩
    have hsl : s.length ≤ 12 := by rw [← hs, hin, List.length_take]; omega
    have hpe : isPackB [b0, b1, b2, b3, b4, b5, b6, b7, b8, b9, b10, b11, b12, b13] = (packS s == [b0, b1, b2, b3, b4, b5, b6, b7, b8, b9, b10, b11, b12, b13]) := by
      unfold isPackB
      have : decide (([b0, b1, b2, b3, b4, b5, b6, b7, b8, b9, b10, b11, b12, b13].headD 0).toNat ≤ 12) = true := by
        rw [List.headD_cons, HX.out]
        simpa using hx12
      rw [this, hs]
      simp
    have hue : unpackS [b0, b1, b2, b3, b4, b5, b6, b7, b8, b9, b10, b11, b12, b13] = if packS s == [b0, b1, b2, b3, b4, b5, b6, b7, b8, b9, b10, b11, b12, b13] then s else [] := by unfold unpackS; rw [hpe, hs]
    rw [hs] at hcut
    have hcut2 : Bs (w.alloc (.cells #[Value.int .u8 (x : Int), .int .u8 (b1.toNat : Int), .int .u8 (b2.toNat : Int), .int .u8 (b3.toNat : Int), .int .u8 (b4.toNat : Int), .int .u8 (b5.toNat : Int), .int .u8 (b6.toNat : Int), .int .u8 (b7.toNat : Int), .int .u8 (b8.toNat : Int), .int .u8 (b9.toNat : Int), .int .u8 (b10.toNat : Int), .int .u8 (b11.toNat : Int), .int .u8 (b12.toNat : Int), .int .u8 (b13.toNat : Int)] 92)) (w.heap.size + 1) (some ⟨w.heap.size, 1, none⟩) x s := hcut
    have hstr := fun (c : Nat) => run_string_Bs (P := Try.prog) _ 24 5 9 Try.underlying24 Try.underlying5 Try.underlying9 (c := c) hcut2
    have hw1 : IntKind.i64.wrap (1 + (x : Int)) = 1 + (x : Int) := IntWalk.i64_in _ (by omega)
    have hw2 : (1 + (x : Int)).toNat = 1 + x := by omega
    have hw3 : (1 : Int) ≤ 1 + (x : Int) := by omega
    have hw4 : 1 + (x : Int) ≤ 14 := by omega
    have HPE := hide hpe
    have HUE := hide hue
    clear hpe hue hs hcut hcut2 hin hb14
    go_enter Try.func72, Try.ntmps72
    go_wp2_with fail
    clear hstr hw1 hw2 hw3 hw4
    refine (Pack_any s _ (by omega)).mono ?_
    rintro e w1 ⟨A1, c1, rfl, hown, hbel⟩
    have HO := hide hown.bs
    have HB := hide (below_step (below_new (below_self w) _) hbel)
    clear hown hbel
    have HA1 := hide ((HA.out.below HB.out).more HB.out.size)
    obtain ⟨r, hr⟩ : ∃ r, (packS s == [b0, b1, b2, b3, b4, b5, b6, b7, b8, b9, b10, b11, b12, b13]) = r := ⟨_, rfl⟩
    have HR := hide hr
    clear hr k0 k1 k2 k3 k4 k5 k6 k7 k8 k9 k10 k11 k12 k13
    go_wp2_with fail
    refine (BEqual_b _ HO.out HA1.out HR.out).mono ?_
    rintro e w' ⟨rfl, rfl⟩
    cases r with
    | false =>
      go_wp2_with fail
      go_ret2
      rw [HPE.out, HUE.out, HR.out]
      exact StRet.of HB.out
    | true =>
      go_wp2_with fail
      go_ret2
      rw [HPE.out, HUE.out, HR.out]
      exact StRet.of HB.out
theorem NUnpack_any {A : Option Addr} {m c : Nat} {b : List UInt8} (w : World) (ha : Bs w w.heap.size A m b) :
    Calls Try.prog 72 #[.slice A m c] w (StRet w (unpackS b) (isPackB b)) := by
  by_cases hm : m = 14
  · subst hm
    exact NUnpack_in w ha
  · have hp : isPackB b = false := by
      unfold isPackB
      have : (b.length == 14) = false := by have := ha.len; simp; omega
      rw [this]
      rfl
    have hu : unpackS b = [] := by simp [unpackS, hp]
    rw [hp, hu]
    have hd : ((m : Int) != 14) = true := by simp; omega
    clear ha hp hu
    go_enter Try.func72, Try.ntmps72
    go_wp2_with fail
    go_ret2
    exact StRet.of (below_self w)
end Go.Proofs.Ythjjjeolpdekoaa
