/- walk: how a layer lies in memory; has, node, dir (layer 13). -/
import Derived.Test.YtnehkgbdppbhiaaGreatRows
import Derived.Test.YtnehkgbdppbhiaaGreatWalA
import Derived.Test.YtnehkgbdppbhiaaGreatMemK
namespace Go.Proofs.YtnehkgbdppbhiaaGreat
open Go.RowKit Go.Shelf Plain

/-- A node's cells, its bytes and its entries in slices. -/
def nodC (x : NodV) (d e : Value) : List Value := [.int .i64 x.k, .int .i64 x.p, .int .i64 x.n, .int .i64 x.g, d, e, .int .i64 x.att.h, .int .i64 x.att.o, .string ⟨x.att.r.toArray⟩, .int .i64 x.att.l, .int .i64 x.att.i, .int .i64 x.att.g, .int .i64 x.att.s]
/-- The cells read as the node. -/
def NodR (w : World) (D : Nat → Prop) (cs : List Value) (x : NodV) : Prop := ∃ A n c C m d, cs = nodC x (.slice A n c) (.slice C m d) ∧ n ≤ c ∧ RdE Enc.byte w D A n x.data ∧ m ≤ d ∧ RdE entEn w D C m x.ents
theorem NodR.mono {w w' : World} {D D' : Nat → Prop} {cs : List Value} {x : NodV} (h : NodR w D cs x) (hk : Kept D w w') (hD : ∀ b, D b → D' b) : NodR w' D' cs x := by
  obtain ⟨A, n, c, C, m, d, h1, h2, h3, h4, h5⟩ := h
  exact ⟨A, n, c, C, m, d, h1, h2, h3.mono hk hD, h4, h5.mono hk hD⟩
def nodEn : Enc NodV where
  k := 13
  R := NodR
  len := fun ⟨_, _, _, _, _, _, h, _⟩ => by rw [h]; rfl
  one := fun ⟨_, _, _, _, _, _, h, _⟩ v hv => by
    rw [h] at hv
    simp only [nodC, List.mem_cons, List.not_mem_nil, or_false] at hv
    rcases hv with rfl | rfl | rfl | rfl | rfl | rfl | rfl | rfl | rfl | rfl | rfl | rfl | rfl <;> rfl
  mono := NodR.mono
theorem RdE.get_nod {w : World} {D : Nat → Prop} {A : Option Addr} {n : Nat} {l : List NodV} (h : RdE nodEn w D A n l) {i : Nat} {x : NodV} (hx : l[i]? = some x) :
    ∃ b o cs, A = some ⟨b, o, none⟩ ∧ D b ∧ NodR w D cs x ∧ ∀ j v, cs[j]? = some v → w.cell? ⟨b, o + i * 13 + j, none⟩ = some v := by
  have hi := (List.getElem?_eq_some_iff.1 hx).1
  obtain ⟨b, o, e, hb, hc⟩ := h.2 (by have := h.1; omega)
  obtain ⟨cs, hcs, hcell⟩ := hc i x hx
  refine ⟨b, o, cs, e, hb, hcs, fun j v hv => ?_⟩
  have := hcell j v hv
  rwa [show o + (i * nodEn.k + j) = o + i * 13 + j from by show o + (i * 13 + j) = o + i * 13 + j; omega] at this
set_option maxRecDepth 100000 in
theorem nod_agg : ∀ w, (isAgg 71).run Tryz.prog w = .ok true w := fun w => by kernel_rfl
set_option maxRecDepth 100000 in
theorem nod_size : ∀ w, (Go.sizeOf 71).run Tryz.prog w = .ok 13 w := fun w => by kernel_rfl
theorem nodC_one (x : NodV) (A C : Option Addr) (n c m d : Nat) : ∀ v ∈ nodC x (.slice A n c) (.slice C m d), v.oneCell' = true := by simp [nodC, Value.oneCell']
/-- It returns a node's cells. -/
def NodRet (w : World) (B : Nat) (x : NodV) (e : Ending) (w' : World) : Prop := ∃ A n c C m d, e = .returned (.agg (nodC x (.slice A n c) (.slice C m d)).toArray) ∧ n ≤ c ∧ RdE Enc.byte w' (Under B) A n x.data ∧ m ≤ d ∧ RdE entEn w' (Under B) C m x.ents ∧ Below w.heap.size w w'
theorem RdE.under {α : Type} {E : Enc α} {w w' : World} {B : Nat} {A : Option Addr} {n : Nat} {l : List α} (h : RdE E w (Under B) A n l) (hb : Below w.heap.size w w') (hB : B ≤ w.heap.size) : RdE E w' (Under B) A n l :=
  h.mono (Kept.of_below hb fun _ h => Nat.lt_of_lt_of_le h hB) fun _ h => h
theorem NodRet.of {w w' : World} {B : Nat} {x : NodV} {A C : Option Addr} {n c m d : Nat} (hn : n ≤ c) (h1 : RdE Enc.byte w (Under B) A n x.data) (hm : m ≤ d) (h2 : RdE entEn w (Under B) C m x.ents) (hb : Below w.heap.size w w') (hB : B ≤ w.heap.size) : NodRet w B x (.returned (.agg (nodC x (.slice A n c) (.slice C m d)).toArray)) w' :=
  ⟨A, n, c, C, m, d, rfl, hn, h1.under hb hB, hm, h2.under hb hB, hb⟩
/-- Is there such an inode? -/
def inN (ns : List NodV) (i : Int) : Bool := decide (1 ≤ i) && decide (i ≤ (ns.length : Int))
/-- The walker's layer: its nodes lie below B. -/
def WkN (w : World) (B g : Nat) (ns : List NodV) : Prop := ∃ A n c, w.cell? ⟨g, 0, none⟩ = some (.slice A n c) ∧ RdE nodEn w (Under B) A n ns
theorem WkN.on {w w' : World} {B g : Nat} {ns : List NodV} (h : WkN w B g ns) (hb : Below w.heap.size w w') (hB : B ≤ w.heap.size) (hg : g < w.heap.size) : WkN w' B g ns := by
  obtain ⟨A, n, c, h1, h2⟩ := h
  exact ⟨A, n, c, (hb.cell (p := ⟨g, 0, none⟩) hg).trans h1, h2.under hb hB⟩
end Go.Proofs.YtnehkgbdppbhiaaGreat
