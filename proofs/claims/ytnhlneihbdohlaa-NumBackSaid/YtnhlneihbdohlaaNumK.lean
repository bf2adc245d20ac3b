/- The walk of awake of layer 1's laws: it is true. -/
import Derived.Test.YtnhlneihbdohlaaNumJ
namespace Go.Proofs.Ytnhlneihbdohlaa
open Go.RowKit Plain

theorem Equal_yes {A B : Option Addr} {n m c d : Nat} {l k : List UInt8} {W1 W2 : Nat} (w : World) (ha : Bs w W1 A n l) (hb : Bs w W2 B m k) (h : l = k) :
    Calls Try.prog 12 #[.slice A n c, .slice B m d] w fun e w' => e = .returned (.bool true) ∧ w = w' := by
  have := Equal_any (c := c) (d := d) w ha hb
  rw [show (l == k) = true from by rw [h]; simp] at this
  exact this
theorem Equal_no {A B : Option Addr} {n m c d : Nat} {l k : List UInt8} {W1 W2 : Nat} (w : World) (ha : Bs w W1 A n l) (hb : Bs w W2 B m k) (h : l ≠ k) :
    Calls Try.prog 12 #[.slice A n c, .slice B m d] w fun e w' => e = .returned (.bool false) ∧ w = w' := by
  have := Equal_any (c := c) (d := d) w ha hb
  rw [show (l == k) = false from by simpa using h] at this
  exact this

theorem awake1_get (w : World) {A : Option Addr} {B c : Nat} (ha : Bs w B A 3 [9, 2, 1]) (hc : 3 ≤ c) :
    Calls Try.prog 15 #[.slice A 3 c, .int .i64 1, .int .i64 2] w fun e w' => e = .returned (.tuple #[.int .i64 258, .bool true]) ∧ w = w' := by
  have := Get_yes (c := c) (p := 1) (s := 2) w ha (by omega) hc (by decide)
  rw [show getS [9, 2, 1] 1 2 = 258 from by decide] at this
  exact this
theorem fits_65535 : fits 65535 2 = true := by decide
theorem fits_65536 : fits 65536 2 = false := by decide
theorem put_258 : putS [] 258 2 = [2, 1] := by decide

theorem lit_921 : [Value.int .u8 9, Value.int .u8 2, Value.int .u8 1] = bvs [9, 2, 1] := by simp [bvs, bv]
theorem lit_21 : [Value.int .u8 2, Value.int .u8 1] = bvs [2, 1] := by simp [bvs, bv]
theorem Put_258 (w : World) : Calls Try.prog 13 #[.slice none 0 0, .int .i64 258, .int .i64 2] w (BRet w 5 2 [2, 1]) := by
  have := Put_any (c := 0) (n := 258) (s := 2) w (Bs.none_ w w.heap.size none) (by omega)
  rw [put_258] at this
  exact this

set_option maxHeartbeats 400000 in
theorem awake1_any (w : World) : Calls Try.prog 9 #[] w (LawOk w) := by
  have hl1 := Bs.lit w 5 lit_921 rfl
  have HL1 := hide hl1
  clear hl1
  go_enter Try.func9, Try.ntmps9
  go_wp2_with fail
  refine (awake1_get _ HL1.out (Nat.le_refl _)).mono ?_
  rintro e w' ⟨rfl, rfl⟩
  go_wp2_with fail
  refine (Put_258 _).mono ?_
  rintro e w1 ⟨A1, c1, rfl, hown, hbel⟩
  have HO := hide hown
  have HB := hide hbel
  clear hown hbel
  go_wp2_with fail
  refine (Equal_yes _ (HO.out.alloc _).bs (Bs.lit w1 5 lit_21 rfl) rfl).mono ?_
  rintro e w' ⟨rfl, rfl⟩
  go_wp2_with fail
  refine (Right_true fits_65535 _).mono ?_
  rintro e w' ⟨rfl, rfl⟩
  go_wp2_with fail
  refine (Right_false fits_65536 _).mono ?_
  rintro e w' ⟨rfl, rfl⟩
  go_wp2_with fail
  go_ret
  exact LawOk.of (below_new (below_step (below_new (below_self w) _) HB.out) _)
end Go.Proofs.Ytnhlneihbdohlaa
