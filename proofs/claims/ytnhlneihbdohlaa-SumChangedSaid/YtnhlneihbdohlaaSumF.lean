/- The walk of awake of layer 2's laws: it is true. -/
import Derived.Test.YtnhlneihbdohlaaSumE
import Derived.Lib.SlBytesConst
namespace Go.Proofs.Ytnhlneihbdohlaa
open Go.RowKit Plain

theorem sealS_sealS (l : List UInt8) : sealS (sealS l) = sealS l := by
  have e : bodyS (sealS l) = bodyS l := by
    rw [bodyS_full (by rw [sealS_length]; omega)]
    unfold sealS
    exact List.take_left' (bodyS_length l)
  show bodyS (sealS l) ++ nb 4 (ofS (bodyS (sealS l))) = sealS l
  rw [e]
  rfl
def wiki : List UInt8 := [87, 105, 107, 105, 112, 101, 100, 105, 97]
theorem lit_wiki : [Value.int .u8 87, .int .u8 105, .int .u8 107, .int .u8 105, .int .u8 112, .int .u8 101, .int .u8 100, .int .u8 105, .int .u8 97] = bvs wiki := by simp [bvs, bv, wiki]
theorem lit_7 : [Value.int .u8 7] = bvs [7] := by simp [bvs, bv]
theorem sums_wiki : sumsS wiki = (920, 4582) := by decide +kernel
theorem of_wiki : ofS wiki = 300286872 := by decide +kernel
theorem F_920 : F 920 = 4651303621399412736 := by decide +kernel
theorem F_4582 : F 4582 = 4661759976979562496 := by decide +kernel
theorem zeros_not : (zeros 64 == sealS (zeros 64)) = false := by decide +kernel

theorem Sums_wiki {A : Option Addr} {c B : Nat} (w : World) (ha : Bs w B A 9 wiki) :
    Calls Try.prog 21 #[.slice A 9 c] w fun e w' => e = .returned (.complex .f64 4651303621399412736 4661759976979562496) ∧ w = w' := by
  have := Sums_any (c := c) w ha (by omega)
  rw [sums_wiki, F_920, F_4582] at this
  exact this
theorem Of_wiki {A : Option Addr} {c B : Nat} (w : World) (ha : Bs w B A 9 wiki) :
    Calls Try.prog 22 #[.slice A 9 c] w fun e w' => e = .returned (.int .i64 300286872) ∧ w = w' := by
  have := Of_any (c := c) w ha (by omega)
  rw [of_wiki] at this
  exact this

theorem Seal_7 {A : Option Addr} {c : Nat} (w : World) (ha : Bs w w.heap.size A 1 [7]) :
    Calls Try.prog 24 #[.slice A 1 c] w (BRet w 5 64 (sealS [7])) := Seal_any w ha
theorem Sealed_yes {A : Option Addr} {m c : Nat} {l : List UInt8} (w : World) (ha : Bs w w.heap.size A m (sealS l)) :
    Calls Try.prog 26 #[.slice A m c] w (BoolRet w true) := by
  have := Sealed_any (c := c) w ha
  rw [show (sealS l == sealS (sealS l)) = true from by rw [sealS_sealS]; simp] at this
  exact this
theorem Sealed_zeros {A : Option Addr} {c : Nat} (w : World) (ha : Bs w w.heap.size A 64 (zeros 64)) :
    Calls Try.prog 26 #[.slice A 64 c] w (BoolRet w false) := by
  have := Sealed_any (c := c) w ha
  rw [zeros_not] at this
  exact this
theorem make64 : ∃ Z : Array Value, (∀ w : World, (Instr.makeSlice 22 (.int .i64 64) (.int .i64 64)).run Try.prog w = .ok (.slice (some ⟨w.heap.size, 0, none⟩) 64 64) (w.alloc (.cells Z 5))) ∧ Z.toList = bvs (zeros 64) := by
  obtain ⟨i, hi, hz, hsz, hby⟩ := info_parts info_u8
  refine ⟨madeCells (Value.int .u8 0).cells ((64 : Int).toNat * i.size), fun w => run_make w _ _ i _ Try.underlying22 hi hz .i64 .i64 64 64 (by omega) (by omega) (by rw [hby]; omega) (by omega), ?_⟩
  rw [hsz, show (Value.int .u8 0).cells = #[Value.int .u8 0] from rfl, toList_madeCells_one]
  simp [bvs, zeros, bv]

set_option maxHeartbeats 400000 in
theorem awake2_any (w : World) : Calls Try.prog 19 #[] w (LawOk w) := by
  have kc := fun (w : World) (C : Array Value) (n c : Nat) => Lib.run_convert_bytes_const (P := Try.prog) w 22 5 C n c Try.underlying22 Try.underlying5
  obtain ⟨Z, hmk, hZ⟩ := make64
  have HZ := hide hZ
  clear hZ
  have o1 : FloatKind.f64.format.order 4651303621399412736 4651303621399412736 = some .eq := by rw [← F_920]; exact (F_order (by omega) (by omega)).trans (by simp)
  have o2 : FloatKind.f64.format.order 4661759976979562496 4661759976979562496 = some .eq := by rw [← F_4582]; exact (F_order (by omega) (by omega)).trans (by simp)
  go_enter Try.func19, Try.ntmps19
  go_wp2_with fail
  refine (Sums_wiki _ (Bs.litm w 5 _ lit_wiki rfl)).mono ?_
  rintro e w' ⟨rfl, hw⟩
  obtain ⟨w1, hw1⟩ : ∃ w1, w1 = w' := ⟨_, rfl⟩
  have HB1 : Hid (Below w.heap.size w w1) := hide (by rw [hw1, ← hw]; exact below_new (below_self w) _)
  rw [← hw1]
  clear hw hw1
  go_wp2_with fail
  refine (Of_wiki _ (Bs.litm w1 5 _ lit_wiki rfl)).mono ?_
  rintro e w'' ⟨rfl, hw⟩
  obtain ⟨w2, hw2⟩ : ∃ w2, w2 = w'' := ⟨_, rfl⟩
  have HB2 : Hid (Below w.heap.size w w2) := hide (by rw [hw2, ← hw]; exact below_new HB1.out _)
  rw [← hw2]
  clear hw hw2
  go_wp2_with fail
  refine (Seal_7 _ ((Bs.lit w2 5 lit_7 rfl).more (by simp))).mono ?_
  rintro e w3 ⟨A3, c3, rfl, hown, hbel⟩
  have HO := hide hown
  have HB3 := hide (below_step (below_new HB2.out _) hbel)
  clear hown hbel
  go_wp2_with fail
  refine (Sealed_yes _ HO.out.bs).mono ?_
  rintro e w4 ⟨rfl, hbel⟩
  have HB4 := hide (below_step HB3.out hbel)
  clear hbel
  go_wp2_with fail
  refine (Sealed_zeros _ (by
    have hr : RowL (w4.alloc (.cells Z 5)) w4.heap.size 5 (bvs (zeros 64)) := by
      rw [← HZ.out]; exact RowL.new w4 5 Z.toList
    have := Bs.of_row (o := 0) (B := w4.heap.size + 1) hr (by omega) (l := zeros 64) (fun i x hx => by rw [Nat.zero_add]; exact bvs_get hx)
    rw [zeros_length] at this
    exact this.more (by simp))).mono ?_
  rintro e w5 ⟨rfl, hbel⟩
  have HB5 := hide (below_step (below_new HB4.out _) hbel)
  clear hbel
  go_wp2_with fail
  go_ret
  exact LawOk.of HB5.out
end Go.Proofs.Ytnhlneihbdohlaa
