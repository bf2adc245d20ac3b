/- What num.Get and the reference's answer, at any place. -/
import Derived.Test.YthjjjeolpdekoaaNumG
import Derived.Test.YthjjjeolpdekoaaNumH
namespace Go.Proofs.Ythjjjeolpdekoaa
open Go.RowKit Plain

/-- What Get answers. -/
def getR (l : List UInt8) (p s : Int) : Nat := if hold l.length p s = true then getS l p s else 0
theorem Get_any {A : Option Addr} {m c B : Nat} {l : List UInt8} {p s : Int} (w : World) (ha : Bs w B A m l) (hm : m ≤ 140737488355000) (hmc : m ≤ c) :
    Calls Try.prog 71 #[.slice A m c, .int .i64 p, .int .i64 s] w fun e w' => e = .returned (.tuple #[.int .i64 (getR l p s), .bool (hold m p s)]) ∧ w = w' := by
  cases h : hold m p s with
  | false => rw [show getR l p s = 0 from by unfold getR; rw [ha.len, h]; rfl]; exact Get_no w hm h
  | true => rw [show getR l p s = getS l p s from by unfold getR; rw [ha.len, h]; rfl]; exact Get_yes w ha hm hmc h
theorem RGet_any {A : Option Addr} {m c B : Nat} {l : List UInt8} {p s : Int} (w : World) (ha : Bs w B A m l) (hm : m ≤ 140737488355000) :
    Calls Try.prog 47 #[.slice A m c, .int .i64 p, .int .i64 s] w fun e w' => e = .returned (.tuple #[.int .i64 (getR l p s), .bool (hold m p s)]) ∧ w = w' := by
  cases h : hold m p s with
  | false => rw [show getR l p s = 0 from by unfold getR; rw [ha.len, h]; rfl]; exact RGet_no w hm h
  | true => rw [show getR l p s = getS l p s from by unfold getR; rw [ha.len, h]; rfl]; exact RGet_yes w ha hm h

end Go.Proofs.Ythjjjeolpdekoaa
