/- Attributes that came in, opened (layer 9). -/
import Derived.Test.YthjjjeolpdekoaaAttA
import Derived.WalkKit
import Derived.Lib.SmallJoins
import Derived.OpenShut
import Derived.ProofKit
import Derived.ChangeArms
namespace Go.Proofs.Ythjjjeolpdekoaa
open Go.RowKit Go.WideShapes Go.ChangeShapes Plain

section
variable {H : Type} {enc : TypeId × Value → H} {w : World} {base : Nat} {spare : Nat → Bool} {held : Bool}
theorem att_i64 {n : Nat} {c : Value} {y : DataW H × List MemPlace} (h : DataW.trod enc Try.prog w base spare held n 3 [c] = some y) : ∃ a : Int, c = .int .i64 a := by
  obtain ⟨a, e, -, -⟩ := DataW.trod_int Try.underlying3 h
  exact ⟨a, by simpa using e⟩
set_option maxRecDepth 100000 in
theorem att_str {n : Nat} {c : Value} {y : DataW H × List MemPlace} (h : DataW.trod enc Try.prog w base spare held n 9 [c] = some y) : ∃ l : List UInt8, c = .string ⟨l.toArray⟩ ∧ l.length ≤ maxLen := by
  obtain ⟨s, e, -, hs⟩ := DataW.trod_string Try.underlying9 h
  exact ⟨s.data.toList, by simpa using e, by rw [Array.length_toList]; exact hs⟩
theorem seven {l : List Value} (h : l.length = 7) : ∃ a b c d e f g, l = [a, b, c, d, e, f, g] := by
  match l, h with
  | [a, b, c, d, e, f, g], _ => exact ⟨a, b, c, d, e, f, g, rfl⟩
set_option maxRecDepth 100000 in
theorem open_att {r : Reach} {b0 : Nat} {v : Value} {d : DataW H} {p : List MemPlace} (hv : Value.okWide Try.prog w r b0 48 v) (h : DataW.Trod enc Try.prog w base spare held 48 v d p) :
    ∃ x : AttV, v = .agg #[.int .i64 x.h, .int .i64 x.o, .string ⟨x.r.toArray⟩, .int .i64 x.l, .int .i64 x.i, .int .i64 x.g, .int .i64 x.s] ∧ x.r.length ≤ maxLen := by
  obtain ⟨cs, rfl, hsz⟩ := okWide_struct Try.underlying48 hv
  have hC : Try.prog.cellsOf 48 = 7 := by kernel_rfl
  obtain ⟨l⟩ := cs
  obtain ⟨c0, c1, c2, c3, c4, c5, c6, rfl⟩ := seven (l := l) (hsz.trans hC)
  obtain ⟨fuel, hf⟩ := h
  obtain ⟨xs, n, -, -, -, hlen, hp⟩ := DataW.trod_struct Try.underlying48 hf
  have h1 : Try.prog.cellsOf 3 = 1 := by kernel_rfl
  match xs, hlen, hp with
  | [x0, x1, x2, x3, x4], _, hp =>
    have p0 := hp 0 _ rfl
    have p1 := hp 1 _ rfl
    have p2 := hp 2 _ rfl
    have p3 := hp 3 _ rfl
    have p4 := hp 4 _ rfl
    simp only [Value.cells] at p0 p1 p2 p3 p4
    obtain ⟨a0, rfl⟩ := att_i64 (c := c0) p0
    obtain ⟨a1, rfl⟩ := att_i64 (c := c1) p1
    obtain ⟨a2, rfl, hl⟩ := att_str (c := c2) p2
    obtain ⟨a6, rfl⟩ := att_i64 (c := c6) p4
    obtain ⟨ys, m, -, -, -, hyl, hq⟩ := DataW.trod_struct Try.underlying46 (cs := [c3, c4, c5]) p3
    match ys, hyl, hq with
    | [y0, y1, y2], _, hq =>
      have q0 := hq 0 _ rfl
      have q1 := hq 1 _ rfl
      have q2 := hq 2 _ rfl
      obtain ⟨a3, rfl⟩ := att_i64 (c := c3) q0
      obtain ⟨a4, rfl⟩ := att_i64 (c := c4) q1
      obtain ⟨a5, rfl⟩ := att_i64 (c := c5) q2
      exact ⟨⟨a0, a1, a2, a3, a4, a5, a6⟩, rfl, hl⟩
end
end Go.Proofs.Ythjjjeolpdekoaa
