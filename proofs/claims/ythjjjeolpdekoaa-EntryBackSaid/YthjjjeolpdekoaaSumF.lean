/- The walk of awake of layer 2's laws: it is true. -/
import Derived.Test.YthjjjeolpdekoaaSumE
import Derived.Lib.SlBytesConst
namespace Go.Proofs.Ythjjjeolpdekoaa
open Go.RowKit Plain

theorem sealS_sealS (l : List UInt8) : sealS (sealS l) = sealS l := by
  have e : bodyS (sealS l) = bodyS l := by
    rw [bodyS_full (by rw [sealS_length]; omega)]
    unfold sealS
    exact List.take_left' (bodyS_length l)
  show bodyS (sealS l) ++ nb 4 (ofS (bodyS (sealS l))) = sealS l
  rw [e]
  rfl
def wiki : List UInt8 := [87, 105, 107, 105, 112, 101, 100, 105, 97]
theorem lit_wiki : [Value.int .u8 87, .int .u8 105, .int .u8 107, .int .u8 105, .int .u8 112, .int .u8 101, .int .u8 100, .int .u8 105, .int .u8 97] = bvs wiki := by simp [bvs, bv, wiki]
theorem lit_7 : [Value.int .u8 7] = bvs [7] := by simp [bvs, bv]
theorem sums_wiki : sumsS wiki = (920, 4582) := by decide +kernel
theorem of_wiki : ofS wiki = 300286872 := by decide +kernel
theorem F_920 : F 920 = 4651303621399412736 := by decide +kernel
theorem F_4582 : F 4582 = 4661759976979562496 := by decide +kernel
theorem zeros_not : (zeros 64 == sealS (zeros 64)) = false := by decide +kernel

theorem Sums_wiki {A : Option Addr} {c B : Nat} (w : World) (ha : Bs w B A 9 wiki) :
    Calls Try.prog 87 #[.slice A 9 c] w fun e w' => e = .returned (.complex .f64 4651303621399412736 4661759976979562496) ∧ w = w' := by
  have := Sums_any (c := c) w ha (by omega)
  rw [sums_wiki, F_920, F_4582] at this
  exact this
theorem Of_wiki {A : Option Addr} {c B : Nat} (w : World) (ha : Bs w B A 9 wiki) :
    Calls Try.prog 79 #[.slice A 9 c] w fun e w' => e = .returned (.int .i64 300286872) ∧ w = w' := by
  have := Of_any (c := c) w ha (by omega)
  rw [of_wiki] at this
  exact this

theorem Seal_7 {A : Option Addr} {c : Nat} (w : World) (ha : Bs w w.heap.size A 1 [7]) :
    Calls Try.prog 56 #[.slice A 1 c] w (BRet w 5 64 (sealS [7])) := Seal_any w ha
theorem Sealed_yes {A : Option Addr} {m c : Nat} {l : List UInt8} (w : World) (ha : Bs w w.heap.size A m (sealS l)) :
    Calls Try.prog 58 #[.slice A m c] w (BoolRet w true) := by
  have := Sealed_any (c := c) w ha
  rw [show (sealS l == sealS (sealS l)) = true from by rw [sealS_sealS]; simp] at this
  exact this
theorem Sealed_zeros {A : Option Addr} {c : Nat} (w : World) (ha : Bs w w.heap.size A 64 (zeros 64)) :
    Calls Try.prog 58 #[.slice A 64 c] w (BoolRet w false) := by
  have := Sealed_any (c := c) w ha
  rw [zeros_not] at this
  exact this
theorem make64 : ∃ Z : Array Value, (∀ w : World, (Instr.makeSlice 24 (.int .i64 64) (.int .i64 64)).run Try.prog w = .ok (.slice (some ⟨w.heap.size, 0, none⟩) 64 64) (w.alloc (.cells Z 5))) ∧ Z.toList = bvs (zeros 64) := by
  obtain ⟨i, hi, hz, hsz, hby⟩ := info_parts info_u8
  refine ⟨madeCells (Value.int .u8 0).cells ((64 : Int).toNat * i.size), fun w => run_make w _ _ i _ Try.underlying24 hi hz .i64 .i64 64 64 (by omega) (by omega) (by rw [hby]; omega) (by omega), ?_⟩
  rw [hsz, show (Value.int .u8 0).cells = #[Value.int .u8 0] from rfl, toList_madeCells_one]
  simp [bvs, zeros, bv]

end Go.Proofs.Ythjjjeolpdekoaa
