/- walk: walked, Dirs (layer 13). -/
import Derived.Test.YtnehkgbdppbhiaaWalJ
namespace Go.Proofs.Ytnehkgbdppbhiaa
open Go.RowKit Go.Shelf Plain

/-- A way in three cells. -/
def wayEn : Enc WayV where
  k := 3
  R := fun _ _ cs x => cs = wayC x
  len := fun h => by rw [h]; rfl
  one := fun h v hv => by
    rw [h] at hv
    simp only [wayC, List.mem_cons, List.not_mem_nil, or_false] at hv
    rcases hv with rfl | rfl | rfl <;> rfl
  mono := fun h _ _ => h
theorem own_way {W : World} {base t n c : Nat} {A : Option Addr} {l : List WayV} (h : W.ownsRow base t 3 (.slice A n c) n (flatW l)) : OwE wayEn W base t A n c l := by
  have hl := h.1
  rw [flatW_len] at hl
  refine ⟨l.map wayC, by rw [show (l.map wayC).flatten = flatW l from by simp [flatW, List.flatMap]]; exact h, ⟨by simp, fun i cs x h1 h2 => ?_⟩, by omega⟩
  rw [List.getElem?_map, h2] at h1
  cases h1
  exact rfl
theorem int_get {w : World} {D : Nat → Prop} {A : Option Addr} {n k : Nat} {l : List Int} {x : Int} (h : RdE Enc.int w D A n l) (hx : l[k]? = some x) : ∃ b o, A = some ⟨b, o, none⟩ ∧ w.cell? ⟨b, o + k, none⟩ = some (.int .i64 x) := by
  have hi := (List.getElem?_eq_some_iff.1 hx).1
  obtain ⟨b, o, e, hb, hc⟩ := h.2 (by have := h.1; omega)
  obtain ⟨cs, hcs, hcell⟩ := hc k x hx
  refine ⟨b, o, e, ?_⟩
  have := hcell 0 (.int .i64 x) (by rw [show cs = [.int .i64 x] from hcs]; rfl)
  rwa [show o + (k * Enc.int.k + 0) = o + k from by show o + (k * 1 + 0) = o + k; omega] at this
theorem take_walk {ns : List NodV} {ff : List Int} {j : Nat} {i : Int} (h : ff[j]? = some i) : walkW ns (ff.take (j + 1)) = rootW ns (walkW ns (ff.take j)) i := by
  rw [List.take_add_one, h]
  exact walk_snoc ns _ i
theorem way_fresh {W : World} {base t n c : Nat} {A : Option Addr} {l : List WayV} (h : W.ownsRow base t 3 (.slice A n c) n (flatW l)) : RdE wayEn W (fun b => base ≤ b ∧ b < W.heap.size) A n l := by
  have hl := h.1
  rw [flatW_len] at hl
  have hln : l.length = n := by omega
  refine ⟨hln, fun h0 => ?_⟩
  rcases h.2 with ⟨_, h0'⟩ | ⟨g, cap, cur, he, hb, hg, _⟩
  · omega
  · simp only [Value.slice.injEq] at he
    obtain ⟨rfl, -, -⟩ := he
    refine ⟨g, 0, rfl, ⟨hb, heap_lt hg⟩, fun i x hx => ⟨wayC x, rfl, fun j v hv => ?_⟩⟩
    have hj : j < 3 := by have := (List.getElem?_eq_some_iff.1 hv).1; simpa [wayC] using this
    have hi := (List.getElem?_eq_some_iff.1 hx).1
    rw [Nat.zero_add]
    refine (World.ownsRow.cellAt (g := g) h (i * 3 + j) (by omega)).trans ?_
    have := flat_get (k := 3) (css := l.map wayC) (fun cs hc => by obtain ⟨z, _, rfl⟩ := List.mem_map.1 hc; rfl) (i := i) (j := j) (cs := wayC x) (by rw [List.getElem?_map, hx]; rfl) hj
    rw [show flatW l = (l.map wayC).flatten from by simp [flatW, List.flatMap], this]
    exact hv
/-- It returns a list of ways. -/
def WaysRet (w : World) (l : List WayV) (e : Ending) (w' : World) : Prop := ∃ A n c, e = .returned (.slice A n c) ∧ n ≤ c ∧ RdE wayEn w' (fun b => w.heap.size ≤ b ∧ b < w'.heap.size) A n l ∧ Below w.heap.size w w'
end Go.Proofs.Ytnehkgbdppbhiaa
