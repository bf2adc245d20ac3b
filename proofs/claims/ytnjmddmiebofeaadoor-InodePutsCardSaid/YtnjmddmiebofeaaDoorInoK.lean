/- An inode that came in, opened; the table of sizes, as the card lays it (layer 7). -/
import Derived.Test.YtnjmddmiebofeaaDoorInoE
import Derived.Lib.SmallJoins
import Derived.OpenShut
import Derived.ProofKit
import Derived.LaidMore
import Derived.Stop.Joined
namespace Go.Proofs.YtnjmddmiebofeaaDoor
open Go.RowKit Go.WideShapes Go.ChangeShapes Plain

section
variable {H : Type} {enc : TypeId × Value → H} {w : World} {base : Nat} {spare : TypeId → Bool} {held : Bool}
theorem trod_i64 {n : Nat} {c : Value} {y : DataW H × List MemPlace} (h : DataW.trod enc Tryd.prog w base spare held n 3 [c] = some y) : ∃ a : Int, c = .int .i64 a := by
  obtain ⟨a, e, -, -⟩ := DataW.trod_int Tryd.underlying3 h
  exact ⟨a, by simpa using e⟩
theorem ten {l : List Value} (h : l.length = 10) : ∃ a b c d e f g i j k, l = [a, b, c, d, e, f, g, i, j, k] := by
  match l, h with
  | [a, b, c, d, e, f, g, i, j, k], _ => exact ⟨a, b, c, d, e, f, g, i, j, k, rfl⟩
theorem open_ino {r : Reach} {b0 : Nat} {v : Value} {d : DataW H} {p : List MemPlace} (hv : Value.okWide Tryd.prog w r b0 24 v) (h : DataW.Trod enc Tryd.prog w base spare held 24 v d p) :
    ∃ x : InoV, v = .agg #[.int .i64 x.k, .int .i64 x.i, .int .i64 x.n, .int .i64 x.g, .int .i64 x.s, .int .i64 x.p, .int .i64 x.q, .int .i64 x.r, .int .i64 x.t, .int .i64 x.a] := by
  obtain ⟨cs, rfl, hsz⟩ := okWide_struct Tryd.underlying24 hv
  have hC : Tryd.prog.cellsOf 24 = 10 := by kernel_rfl
  obtain ⟨l⟩ := cs
  obtain ⟨c0, c1, c2, c3, c4, c5, c6, c7, c8, c9, rfl⟩ := ten (l := l) (hsz.trans hC)
  obtain ⟨fuel, hf⟩ := h
  obtain ⟨xs, n, -, -, -, hlen, hp⟩ := DataW.trod_struct Tryd.underlying24 hf
  have h1 : Tryd.prog.cellsOf 3 = 1 := by kernel_rfl
  match xs, hlen, hp with
  | [x0, x1, x2, x3, x4, x5, x6], _, hp =>
    have p0 := hp 0 _ rfl
    have p1 := hp 1 _ rfl
    have p2 := hp 2 _ rfl
    have p3 := hp 3 _ rfl
    have p4 := hp 4 _ rfl
    have p5 := hp 5 _ rfl
    have p6 := hp 6 _ rfl
    simp only [Value.cells] at p0 p1 p2 p3 p4 p5 p6
    obtain ⟨a0, rfl⟩ := trod_i64 (c := c0) p0
    obtain ⟨a1, rfl⟩ := trod_i64 (c := c1) p1
    obtain ⟨a2, rfl⟩ := trod_i64 (c := c2) p2
    obtain ⟨a3, rfl⟩ := trod_i64 (c := c3) p3
    obtain ⟨a4, rfl⟩ := trod_i64 (c := c4) p4
    obtain ⟨a9, rfl⟩ := trod_i64 (c := c9) p6
    obtain ⟨ys, m, -, -, -, hyl, hq⟩ := DataW.trod_array Tryd.underlying22 (cs := [c5, c6, c7, c8]) p5
    match ys, hyl, hq with
    | [y0, y1, y2, y3], _, hq =>
      have q0 := hq 0 (by omega)
      have q1 := hq 1 (by omega)
      have q2 := hq 2 (by omega)
      have q3 := hq 3 (by omega)
      simp only [h1] at q0 q1 q2 q3
      obtain ⟨a5, rfl⟩ := trod_i64 (c := c5) q0
      obtain ⟨a6, rfl⟩ := trod_i64 (c := c6) q1
      obtain ⟨a7, rfl⟩ := trod_i64 (c := c7) q2
      obtain ⟨a8, rfl⟩ := trod_i64 (c := c8) q3
      exact ⟨⟨a0, a1, a2, a3, a4, a5, a6, a7, a8, a9⟩, rfl⟩
end
theorem gSizes : Tryd.prog.globalNamed "craquelure/inode.sizes" = some 0 := by kernel_rfl
theorem tSizes : (Tryd.prog.globals[0]?).map (·.type) = some 37 := by kernel_rfl
/-- What the card's condition gives the walks. -/
theorem sz_of_laid {W : World} (h : laidMetH Tryd.prog [("craquelure/inode.sizes", Rows.laid_craquelure_inode_sizes)] W) : SzW W := by
  rw [MakeChecks.laidMetH_plain _ _ _ (by kernel_rfl)] at h
  obtain ⟨ps, ⟨g0, t0, cs0, f0, p0, q0, hg0, ht0, hv0, hd0, _, _⟩, _, _⟩ := h
  obtain rfl := Option.some.inj (gSizes.symm.trans hg0)
  obtain rfl := Option.some.inj (tSizes.symm.trans ht0)
  obtain ⟨xs, m1, rfl, hx1, hlen, hn, hel⟩ := DataW.trod_array Tryd.underlying37 hd0
  have c1 : Tryd.prog.cellsOf 3 = 1 := by kernel_rfl
  have c10 : Tryd.prog.cellsOf 37 = 10 := by kernel_rfl
  intro j hj
  have hj10 : j < cs0.toList.length := by rw [hlen, c10]; exact hj
  obtain ⟨c, hc⟩ : ∃ c, cs0.toList[j]? = some c := ⟨_, List.getElem?_eq_getElem hj10⟩
  have he := hel j hj
  rw [c1, Nat.mul_one] at he
  have hdr : (cs0.toList.drop j).take 1 = [c] := by
    rw [List.drop_eq_getElem_cons hj10, List.take_succ_cons, List.take_zero]
    congr 1
    have := List.getElem?_eq_getElem hj10
    rw [hc] at this
    exact (Option.some.inj this).symm
  rw [hdr] at he
  have hxj : xs[j]? = some xs[j] := List.getElem?_eq_getElem (by omega)
  rw [hxj] at he
  obtain ⟨k, e1, e2, _⟩ := DataW.trod_int Tryd.underlying3 he
  have hcell := World.var?_cell hg0 hv0 j
  rw [show (⟨0, j, none⟩ : Addr) = ⟨0, j, none⟩ from rfl] at hcell
  have hcs : cs0[j]? = some c := by rw [← Array.getElem?_toList]; exact hc
  have ec : c = .int .i64 k := by simpa using e1
  have hk : k = sz0.num j := by
    have hx := congrArg Prod.fst hx1
    simp only [Rows.laid_craquelure_inode_sizes, DataW.agg.injEq] at hx
    have h1 : (xs.map (·.1))[j]? = some (xs[j]).1 := by rw [List.getElem?_map, hxj]; rfl
    rw [← hx, e2] at h1
    obtain rfl | rfl | rfl | rfl | rfl | rfl | rfl | rfl | rfl | rfl : j = 0 ∨ j = 1 ∨ j = 2 ∨ j = 3 ∨ j = 4 ∨ j = 5 ∨ j = 6 ∨ j = 7 ∨ j = 8 ∨ j = 9 := by omega
    all_goals (simp at h1; simp only [sz0, InoV.num]; omega)
  rw [hcell, hcs, ec, hk]
end Go.Proofs.YtnjmddmiebofeaaDoor
