/- Inodes that came in, opened: a slice of them (layer 11). -/
import Derived.Test.YtnllbdigpnopoaaMemP
import Derived.Test.YtnllbdigpnopoaaClaB
namespace Go.Proofs.Ytnllbdigpnopoaa
open Go.RowKit Go.WideShapes Go.ChangeShapes Plain

section
variable {H : Type} {enc : TypeId × Value → H} {w : World} {base : Nat} {spare : Nat → Bool} {held : Bool}
theorem trod_w64 {n : Nat} {c : Value} {y : DataW H × List MemPlace} (h : DataW.trod enc Try.prog w base spare held n 3 [c] = some y) : ∃ a : Int, c = .int .i64 a ∧ w64 a := by
  obtain ⟨a, e, -, hw⟩ := DataW.trod_int Try.underlying3 h
  refine ⟨a, by simpa using e, ?_⟩
  unfold w64
  simp [Lit.wf, IntKind.min, IntKind.max, IntKind.signed, IntKind.bits] at hw
  omega
theorem ten_of {l : List Value} (h : l.length = 10) : ∃ a b c d e f g i j k, l = [a, b, c, d, e, f, g, i, j, k] := by
  match l, h with
  | [a, b, c, d, e, f, g, i, j, k], _ => exact ⟨a, b, c, d, e, f, g, i, j, k, rfl⟩
theorem trod_ino {fuel : Nat} {cs : List Value} {y : DataW H × List MemPlace} (hl : cs.length = 10) (hf : DataW.trod enc Try.prog w base spare held fuel 39 cs = some y) : ∃ x : InoV, cs = inoC x ∧ x.wf := by
  obtain ⟨c0, c1, c2, c3, c4, c5, c6, c7, c8, c9, rfl⟩ := ten_of hl
  obtain ⟨xs, n, -, -, -, hlen, hp⟩ := DataW.trod_struct Try.underlying39 hf
  have h1 : Try.prog.cellsOf 3 = 1 := by kernel_rfl
  match xs, hlen, hp with
  | [x0, x1, x2, x3, x4, x5, x6], _, hp =>
    have p0 := hp 0 _ rfl
    have p1 := hp 1 _ rfl
    have p2 := hp 2 _ rfl
    have p3 := hp 3 _ rfl
    have p4 := hp 4 _ rfl
    have p5 := hp 5 _ rfl
    have p6 := hp 6 _ rfl
    obtain ⟨a0, rfl, -⟩ := trod_w64 (c := c0) p0
    obtain ⟨a1, rfl, -⟩ := trod_w64 (c := c1) p1
    obtain ⟨a2, rfl, -⟩ := trod_w64 (c := c2) p2
    obtain ⟨a3, rfl, -⟩ := trod_w64 (c := c3) p3
    obtain ⟨a4, rfl, -⟩ := trod_w64 (c := c4) p4
    obtain ⟨a9, rfl, w9⟩ := trod_w64 (c := c9) p6
    obtain ⟨ys, m, -, -, -, hyl, hq⟩ := DataW.trod_array Try.underlying37 (cs := [c5, c6, c7, c8]) p5
    match ys, hyl, hq with
    | [y0, y1, y2, y3], _, hq =>
      have q0 := hq 0 (by omega)
      have q1 := hq 1 (by omega)
      have q2 := hq 2 (by omega)
      have q3 := hq 3 (by omega)
      simp only [h1] at q0 q1 q2 q3
      obtain ⟨a5, rfl, w5⟩ := trod_w64 (c := c5) q0
      obtain ⟨a6, rfl, w6⟩ := trod_w64 (c := c6) q1
      obtain ⟨a7, rfl, w7⟩ := trod_w64 (c := c7) q2
      obtain ⟨a8, rfl, w8⟩ := trod_w64 (c := c8) q3
      exact ⟨⟨a0, a1, a2, a3, a4, a5, a6, a7, a8, a9⟩, rfl, w5, w6, w7, w8, w9⟩
theorem open_inos {fuel : Nat} {cs : List Value} {x : DataW H × List MemPlace} (h : DataW.trod enc Try.prog w 0 spare held fuel 22 cs = some x) :
    ∃ A n c l, cs = [.slice A n c] ∧ n ≤ c ∧ RdE inoEn w (Under w.heap.size) A n l :=
  open_rde (e := 39) inoEn Try.underlying22 (by kernel_rfl) (by decide) (fun _ _ _ hl hy => by
    obtain ⟨x, h1, h2⟩ := trod_ino hl hy
    exact ⟨x, h1, h2⟩) h
end
end Go.Proofs.Ytnllbdigpnopoaa
