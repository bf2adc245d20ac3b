/- walk: what WalkOnce asks: mathematics, and slices of ints and ways (layer 13). -/
import Derived.Test.YtnehkgbdppbhiaaPlnB
namespace Go.Proofs.Ytnehkgbdppbhiaa
open Go.RowKit Go.Shelf Plain

/-- Each way stands behind the one that names it; one that none names is a root. -/
def UpW (ff : List Int) (l : List WayV) : Prop := ∀ (j : Nat) (y : WayV), l[j]? = some y → y.up < (j : Int) ∧ (y.up < 0 → y.ino ∈ ff)
theorem UpW.snoc {ff : List Int} {l : List WayV} {x : WayV} (h : UpW ff l) (hx : x.up < (l.length : Int) ∧ (x.up < 0 → x.ino ∈ ff)) : UpW ff (l ++ [x]) := by
  intro j y hy
  by_cases hj : j < l.length
  · rw [List.getElem?_append_left hj] at hy
    exact h j y hy
  · rw [List.getElem?_append_right (by omega)] at hy
    have hj0 : j - l.length = 0 := by have := (List.getElem?_eq_some_iff.1 hy).1; simpa using this
    rw [hj0] at hy
    cases hy
    exact ⟨by omega, hx.2⟩
theorem one_up {ff : List Int} {d : Int} {p : Nat} {s : StW} {x : EntV × Nat} (h : p < s.1.length ∧ UpW ff s.1) : p < (oneW d p s x).1.length ∧ UpW ff (oneW d p s x).1 := by
  unfold oneW
  split
  · exact h
  · exact ⟨by simp; omega, h.2.snoc ⟨by show (p : Int) < _; omega, fun h0 => absurd h0 (by show ¬ (p : Int) < 0; omega)⟩⟩
theorem visit_up {ff : List Int} {ns : List NodV} {p : Nat} {s : StW} (h : UpW ff s.1) : UpW ff (visitW ns p s).1 := by
  unfold visitW
  split
  · exact h
  · rename_i y hy
    exact (foldl_keep (P := fun t : StW => p < t.1.length ∧ UpW ff t.1) _ _ ⟨(List.getElem?_eq_some_iff.1 hy).1, h⟩ (fun _ _ _ ht => one_up ht)).2
theorem run_up {ff : List Int} {ns : List NodV} : ∀ (f p : Nat) (s : StW), UpW ff s.1 → UpW ff (runW ns f p s).1
  | 0, _, _, h => h
  | f + 1, p, s, h => by
    unfold runW
    split
    · exact run_up f _ _ (visit_up h)
    · exact h
theorem walk_up (ns : List NodV) (ff : List Int) : UpW ff (walkW ns ff).1 := by
  refine foldl_keep (P := fun s : StW => UpW ff s.1) _ _ (fun j y h => by cases h) (fun s i hi hs => ?_)
  unfold rootW
  split
  · exact run_up _ _ _ (hs.snoc ⟨by show (-1 : Int) < _; omega, fun _ => hi⟩)
  · exact hs
theorem plain_many {ns : List NodV} (h : ns.length ≤ 24) (hp : ∀ x ∈ ns, PlainN x) : Many ns ∧ ∀ x ∈ ns, x.data.length ≤ 1000 :=
  ⟨⟨h, fun x hx => (hp x hx).2.2.2.2.1⟩, fun x hx => by have := (hp x hx).2.2.2.1; omega⟩
theorem take_apart {ns : List NodV} {l : List WayV} (h : OkW ns l) {j : Nat} {y : WayV} (hy : l[j]? = some y) : ∀ x ∈ l.take j, x.ino ≠ y.ino := by
  intro x hx e
  obtain ⟨i, hi, hxi⟩ := List.mem_iff_getElem.1 hx
  rw [List.length_take] at hi
  rw [List.getElem_take] at hxi
  have hj := (List.getElem?_eq_some_iff.1 hy)
  obtain ⟨hjl, hyj⟩ := hj
  have hnd := h.2
  have h1 : (l.map WayV.ino)[i]'(by simp; omega) = (l.map WayV.ino)[j]'(by simp; omega) := by
    simp only [List.getElem_map]
    rw [hxi, hyj, e]
  exact (List.pairwise_iff_getElem.1 hnd) i j (by simp; omega) (by simp; omega) (by omega) h1

def iV (x : Int) : Value := .int .i64 x
theorem RdE.rdI {w : World} {B n : Nat} {A : Option Addr} {l : List Int} (h : RdE Enc.int w (Under B) A n l) : Rd iV w B A n l := ⟨h.1, fun hn => by
  obtain ⟨b, o, e, hb, hc⟩ := h.2 hn
  refine ⟨b, o, e, hb, fun i x hx => ?_⟩
  obtain ⟨cs, hcs, hcell⟩ := hc i x hx
  obtain rfl : cs = [.int .i64 x] := hcs
  have := hcell 0 _ rfl
  rwa [show o + (i * Enc.int.k + 0) = o + i from by show o + (i * 1 + 0) = o + i; omega] at this⟩
theorem Rd.rdeI {w : World} {B n : Nat} {A : Option Addr} {l : List Int} (h : Rd iV w B A n l) : RdE Enc.int w (Under B) A n l := ⟨h.1, fun hn => by
  obtain ⟨b, o, e, hb, hc⟩ := h.2 hn
  refine ⟨b, o, e, hb, fun i x hx => ⟨[.int .i64 x], rfl, fun j v hv => ?_⟩⟩
  have hj : j = 0 := by have := (List.getElem?_eq_some_iff.1 hv).1; simpa using this
  subst hj
  cases hv
  rw [show o + (i * Enc.int.k + 0) = o + i from by show o + (i * 1 + 0) = o + i; omega]
  exact hc i x hx⟩
set_option maxRecDepth 100000 in
theorem intw_info : (Try.prog.info? 3).map (fun i => (i.zero, i.size, i.bytes)) = some (some (.int .i64 0), 1, 8) := by kernel_rfl
end Go.Proofs.Ytnehkgbdppbhiaa
