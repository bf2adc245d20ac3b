/- An entry that came in, opened (layer 8); how long its name may be. -/
import Derived.Test.YthjjjeolpdekoaaEntA
import Derived.WalkKit
import Derived.Lib.SmallJoins
import Derived.OpenShut
import Derived.ProofKit
import Derived.ChangeArms
import Derived.SizedLaws
namespace Go.Proofs.Ythjjjeolpdekoaa
open Go.RowKit Go.WideShapes Go.ChangeShapes Plain

section
variable {H : Type} {enc : TypeId × Value → H} {w : World} {base : Nat} {spare : Nat → Bool} {held : Bool}
/-- An entry as a datum. -/
def datE (x : EntV) : DataW H := .agg [.lit (.int .i64 x.slot), .lit (.int .i64 x.ino), .lit (.string x.name)]
theorem ent_i64 {n : Nat} {c : Value} {y : DataW H × List MemPlace} (h : DataW.trod enc Try.prog w base spare held n 3 [c] = some y) : ∃ a : Int, c = .int .i64 a ∧ y.1 = .lit (.int .i64 a) := by
  obtain ⟨a, e, hy, -⟩ := DataW.trod_int Try.underlying3 h
  exact ⟨a, by simpa using e, by rw [hy]⟩
theorem ent_str {n : Nat} {c : Value} {y : DataW H × List MemPlace} (h : DataW.trod enc Try.prog w base spare held n 9 [c] = some y) : ∃ l : List UInt8, c = .string ⟨l.toArray⟩ ∧ y.1 = .lit (.string l) := by
  obtain ⟨s, e, hy, -⟩ := DataW.trod_string Try.underlying9 h
  exact ⟨s.data.toList, by simpa using e, by rw [hy]⟩
theorem three {l : List Value} (h : l.length = 3) : ∃ a b c, l = [a, b, c] := by
  match l, h with
  | [a, b, c], _ => exact ⟨a, b, c, rfl⟩
set_option maxRecDepth 100000 in
theorem trod_ent {fuel : Nat} {cs : List Value} {y : DataW H × List MemPlace} (hl : cs.length = 3) (h : DataW.trod enc Try.prog w base spare held fuel 23 cs = some y) :
    ∃ x : EntV, cs = [.int .i64 x.slot, .int .i64 x.ino, .string ⟨x.name.toArray⟩] ∧ y.1 = datE x := by
  obtain ⟨c0, c1, c2, rfl⟩ := three hl
  obtain ⟨xs, n, -, rfl, -, hlen, hp⟩ := DataW.trod_struct Try.underlying23 h
  match xs, hlen, hp with
  | [x0, x1, x2], _, hp =>
    have p0 := hp 0 _ rfl
    have p1 := hp 1 _ rfl
    have p2 := hp 2 _ rfl
    obtain ⟨a0, rfl, e0⟩ := ent_i64 (c := c0) p0
    obtain ⟨a1, rfl, e1⟩ := ent_i64 (c := c1) p1
    obtain ⟨a2, rfl, e2⟩ := ent_str (c := c2) p2
    exact ⟨⟨a0, a1, a2⟩, rfl, by simp [datE, e0, e1, e2]⟩
set_option maxRecDepth 100000 in
theorem open_ent {r : Reach} {b0 : Nat} {v : Value} {d : DataW H} {p : List MemPlace} (hv : Value.okWide Try.prog w r b0 23 v) (h : DataW.Trod enc Try.prog w base spare held 23 v d p) :
    ∃ x : EntV, v = .agg #[.int .i64 x.slot, .int .i64 x.ino, .string ⟨x.name.toArray⟩] ∧ d = datE x := by
  obtain ⟨cs, rfl, hsz⟩ := okWide_struct Try.underlying23 hv
  have hC : Try.prog.cellsOf 23 = 3 := by kernel_rfl
  obtain ⟨l⟩ := cs
  obtain ⟨fuel, hf⟩ := h
  obtain ⟨x, hx, hd⟩ := trod_ent (hsz.trans hC) hf
  simp only at hx
  exact ⟨x, by rw [show l = _ from hx], hd⟩
set_option maxRecDepth 100000 in
theorem ent_weight (x : EntV) : x.name.length ∈ (datE (H := H) x).weights Try.prog 23 := by
  simp [datE, DataW.weights, DataW.weightsEach, Try.underlying23]
set_option maxRecDepth 100000 in
theorem ent_reach {ts : List TypeId} {ds : List (DataW H)} (h : (DataW.weightsEach Try.prog ts ds).all (· ≤ reachBytes) = true) {j : Nat} {x : EntV} (ht : ts[j]? = some 23) (hd : ds[j]? = some (datE x)) : x.name.length ≤ 140737488355328 := by
  have := List.all_eq_true.1 h _ (DataW.weights_mem_each ht hd x.name.length (ent_weight x))
  simp only [decide_eq_true_eq] at this
  exact Nat.le_trans this (by decide)
end
end Go.Proofs.Ythjjjeolpdekoaa
