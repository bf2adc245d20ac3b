/- walk: reach, Reach (layer 13). -/
import Derived.Test.YtnehkgbdppbhiaaGreatWalL
import Derived.Test.YtnehkgbdppbhiaaGreatMemR
namespace Go.Proofs.YtnehkgbdppbhiaaGreat
open Go.RowKit Go.Shelf Plain

def setB (bs : List Bool) (i : Int) : List Bool := bs.set (i - 1).toNat true
def entF (ns : List NodV) (bs : List Bool) (e : EntV) : List Bool := if inN ns e.ino = true then setB bs e.ino else bs
def wayF (ns : List NodV) (bs : List Bool) (y : WayV) : List Bool := (nodAt ns y.ino).ents.foldl (entF ns) (setB bs y.ino)
/-- Of each inode, is it come to, or named where one comes to? -/
def reachL (ns : List NodV) (l : List WayV) : List Bool := l.foldl (wayF ns) (List.replicate ns.length false)
theorem setB_len (bs : List Bool) (i : Int) : (setB bs i).length = bs.length := by simp [setB]
theorem entF_len (ns : List NodV) (bs : List Bool) (e : EntV) : (entF ns bs e).length = bs.length := by unfold entF; split <;> simp [setB_len]
theorem entsF_len (ns : List NodV) (bs : List Bool) (l : List EntV) : (l.foldl (entF ns) bs).length = bs.length := foldl_keep (P := fun x : List Bool => x.length = bs.length) _ _ rfl (fun _ _ _ h => by rw [entF_len, h])
theorem wayF_len (ns : List NodV) (bs : List Bool) (y : WayV) : (wayF ns bs y).length = bs.length := by unfold wayF; rw [entsF_len, setB_len]
theorem waysF_len (ns : List NodV) (bs : List Bool) (l : List WayV) : (l.foldl (wayF ns) bs).length = bs.length := foldl_keep (P := fun x : List Bool => x.length = bs.length) _ _ rfl (fun _ _ _ h => by rw [wayF_len, h])
theorem reachL_len (ns : List NodV) (l : List WayV) : (reachL ns l).length = ns.length := by unfold reachL; rw [waysF_len]; simp
/-- It returns a row of bools. -/
def BoolsRet (w : World) (l : List Bool) (e : Ending) (w' : World) : Prop := ∃ A n c, e = .returned (.slice A n c) ∧ n ≤ c ∧ Rd Value.bool w' w'.heap.size A n l ∧ Below w.heap.size w w' ∧ ∀ b o, A = some ⟨b, o, none⟩ → w.heap.size ≤ b
/-- make([]T, n) of one cell each. -/
theorem wpList_make_Row' {P : Program} (w : World) {ops : Array Oper} {rest : List Oper} {o : Oper} {a : Act} {Q : Exit → Act → World → Prop}
    (hg : o.guard = none) (l c : Operand) (t : TypeId) (hop : o.op = Op.makeSlice t l c) (e : TypeId) (h1 : P.underlying t = some (.slice e)) (z : Value) (hz1 : z.cells = #[z]) (k : Nat)
    (hinfo : (P.info? e).map (fun i => (i.zero, i.size, i.bytes)) = some (some z, 1, k))
    (kl kc : IntKind) (L C : Int) (n : Nat) (hl : a.eval l = .int kl L) (hc : a.eval c = .int kc C) (hL : L = (n : Int)) (hC : C = (n : Int)) (hn : k * n ≤ 140737488355328) (hn2 : n ≤ 140737488355328)
    (hK : ∀ w', RowL w' w.heap.size e (List.replicate n z) → Below w.heap.size w w' → wpList P ops Q rest (a.put o.dst (.slice (some ⟨w.heap.size, 0, none⟩) n n)) w') :
    wpList P ops Q (o :: rest) a w := by
  obtain ⟨i, hi, hz, hsz, hby⟩ := info_parts hinfo
  refine wpList_make_full w hg l c t hop w.heap.size e i z 1 h1 hi hz hsz kl kc L C n hl hc hL hC (by rw [hby]; omega) (by simp only [maxLen]; omega) (Nat.le_refl _) ?_
  intro w' hown hgr
  refine hK w' ?_ ((Below.refl _ _).grown hgr (Nat.le_refl _) (by simp))
  have := RowL.of_made hown
  rw [hz1, toList_madeCells_one, Nat.mul_one] at this
  exact this
set_option maxRecDepth 100000 in
theorem boolw_info : (Tryz.prog.info? 4).map (fun i => (i.zero, i.size, i.bytes)) = some (some (.bool false), 1, 1) := by kernel_rfl
theorem bools_cell {w : World} {g t : Nat} {bs : List Bool} {j : Nat} (h : RowL w g t (bs.map Value.bool)) (hj : j < bs.length) : ∃ x, w.cell? ⟨g, j, none⟩ = some (.bool x) := by
  refine ⟨bs[j], ?_⟩
  rw [h.cell, List.getElem?_map, List.getElem?_eq_getElem hj]
  rfl
theorem bools_set {w : World} {g t : Nat} {bs : List Bool} {i : Int} {j : Nat} (h : RowL w g t (bs.map Value.bool)) (hj : i = (j : Int) + 1) : RowL (w.setCell ⟨g, j, none⟩ (.bool true)) g t ((setB bs i).map Value.bool) := by
  have := h.set_ j (.bool true)
  unfold setB
  rw [show (i - 1).toNat = j from by omega, List.map_set]
  exact this
theorem way_at {W : World} {B n c : Nat} {A : Option Addr} {l : List WayV} {j : Nat} {y : WayV} (h : W.ownsRow B 61 3 (.slice A n c) n (flatW l)) (hy : l[j]? = some y) : ∃ gW, A = some ⟨gW, 0, none⟩ ∧ gW < W.heap.size ∧ n ≤ c ∧ ∀ i v, (wayC y)[i]? = some v → W.cell? ⟨gW, j * 3 + i, none⟩ = some v := by
  have hl := h.1
  rw [flatW_len] at hl
  have hjl := (List.getElem?_eq_some_iff.1 hy).1
  rcases h.2 with ⟨_, h0⟩ | ⟨gW, cap, cur, he, _, hg, hle, _⟩
  · omega
  · simp only [Value.slice.injEq] at he
    obtain ⟨rfl, -, rfl⟩ := he
    refine ⟨gW, rfl, heap_lt hg, hle, fun i v hv => ?_⟩
    have hi : i < 3 := by have := (List.getElem?_eq_some_iff.1 hv).1; simpa [wayC] using this
    refine (World.ownsRow.cellAt (g := gW) h (j * 3 + i) (by omega)).trans ?_
    have := flat_get (k := 3) (css := l.map wayC) (fun cs hc => by obtain ⟨z, _, rfl⟩ := List.mem_map.1 hc; rfl) (i := j) (j := i) (cs := wayC y) (by rw [List.getElem?_map, hy]; rfl) hi
    rw [show flatW l = (l.map wayC).flatten from by simp [flatW, List.flatMap], this]
    exact hv
theorem wayC_one (y : WayV) : ∀ v ∈ wayC y, v.oneCell' = true := by simp [wayC, Value.oneCell']
end Go.Proofs.YtnehkgbdppbhiaaGreat
