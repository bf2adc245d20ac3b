/- bitmap (layer 10): OnesCount8, Many; the reference's bit and Many. -/
import Derived.Test.YtnllbdigpnopoaaRows
import Derived.Test.YtnllbdigpnopoaaBitP
import Derived.Test.YtnllbdigpnopoaaMemR
namespace Go.Proofs.Ytnllbdigpnopoaa
open Go.RowKit Plain

theorem testBit_div (x k : Nat) : x.testBit k = decide (x / 2 ^ k % 2 = 1) := Nat.testBit_eq_decide_div_mod_eq
theorem ret_int {k : IntKind} {a b : Int} (h : a = b) : Ending.returned (.int k a) = .returned (.int k b) := by rw [h]
theorem ret_bool {a b : Bool} (h : a = b) : Ending.returned (.bool a) = .returned (.bool b) := by rw [h]

/-- It returns a number, and nothing that was there has turned. -/
def IntRet (w : World) (k : Int) (x : Ending) (w' : World) : Prop := x = .returned (.int .i64 k) ∧ w = w'

/-- How many bits of each byte are 1. -/
def popTab : ByteArray := ⟨#[0, 1, 1, 2, 1, 2, 2, 3, 1, 2, 2, 3, 2, 3, 3, 4, 1, 2, 2, 3, 2, 3, 3, 4, 2, 3, 3, 4, 3, 4, 4, 5, 1, 2, 2, 3, 2, 3, 3, 4, 2, 3, 3, 4, 3, 4, 4, 5, 2, 3, 3, 4, 3, 4, 4, 5, 3, 4, 4, 5, 4, 5, 5, 6, 1, 2, 2, 3, 2, 3, 3, 4, 2, 3, 3, 4, 3, 4, 4, 5, 2, 3, 3, 4, 3, 4, 4, 5, 3, 4, 4, 5, 4, 5, 5, 6, 2, 3, 3, 4, 3, 4, 4, 5, 3, 4, 4, 5, 4, 5, 5, 6, 3, 4, 4, 5, 4, 5, 5, 6, 4, 5, 5, 6, 5, 6, 6, 7, 1, 2, 2, 3, 2, 3, 3, 4, 2, 3, 3, 4, 3, 4, 4, 5, 2, 3, 3, 4, 3, 4, 4, 5, 3, 4, 4, 5, 4, 5, 5, 6, 2, 3, 3, 4, 3, 4, 4, 5, 3, 4, 4, 5, 4, 5, 5, 6, 3, 4, 4, 5, 4, 5, 5, 6, 4, 5, 5, 6, 5, 6, 6, 7, 2, 3, 3, 4, 3, 4, 4, 5, 3, 4, 4, 5, 4, 5, 5, 6, 3, 4, 4, 5, 4, 5, 5, 6, 4, 5, 5, 6, 5, 6, 6, 7, 3, 4, 4, 5, 4, 5, 5, 6, 4, 5, 5, 6, 5, 6, 6, 7, 4, 5, 5, 6, 5, 6, 6, 7, 5, 6, 6, 7, 6, 7, 7, 8]⟩
theorem popTab_size : popTab.size = 256 := by kernel_rfl
theorem popTab_get : ∀ k : Fin 256, (popTab[k.1]'(by rw [popTab_size]; exact k.2)).toNat = pop (UInt8.ofNat k.1) := by decide +kernel
theorem popTab_at (x : UInt8) (h : x.toNat < popTab.size) : wrap64 ((popTab[x.toNat]'h).toNat : Int) = pop x := by
  have e := popTab_get ⟨x.toNat, x.toNat_lt⟩
  simp only [UInt8.ofNat_toNat] at e
  rw [e]
  have := pop_le x
  simp only [wrap64]
  omega
end Go.Proofs.Ytnllbdigpnopoaa
