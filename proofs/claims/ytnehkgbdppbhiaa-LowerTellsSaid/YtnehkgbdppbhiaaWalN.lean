/- walk: Reach, Path; the reference's Path (layer 13). -/
import Derived.Test.YtnehkgbdppbhiaaWalM
import Derived.Test.YtnehkgbdppbhiaaRefNameA
import Derived.Test.YtnehkgbdppbhiaaShelf
import Derived.Sort.OwnSorted
import Derived.Lib.RowBridge
namespace Go.Proofs.Ytnehkgbdppbhiaa
open Go.RowKit Go.Shelf Plain Go.Sort

def wayI (l : List WayV) (i : Int) : Option WayV := if 0 ≤ i ∧ i < (l.length : Int) then l[i.toNat]? else none
def upsF (l : List WayV) : Nat → Int → List (List UInt8)
  | 0, _ => []
  | f + 1, i => match wayI l i with
    | none => []
    | some y => if 0 ≤ y.up ∧ y.up < i then y.name :: upsF l f y.up else []
def pathS (l : List WayV) (i : Int) : List (List UInt8) := (upsF l l.length i).reverse
theorem upsF_len (l : List WayV) : ∀ (f : Nat) (i : Int), (upsF l f i).length ≤ f
  | 0, _ => by simp [upsF]
  | f + 1, i => by
    unfold upsF
    split
    · simp
    · rename_i y _
      split
      · have := upsF_len l f y.up
        simp only [List.length_cons]
        omega
      · simp
theorem upsF_none {l : List WayV} {i : Int} (h : wayI l i = none) : ∀ f, upsF l f i = []
  | 0 => rfl
  | f + 1 => by unfold upsF; rw [h]
theorem upsF_stop {l : List WayV} {i : Int} {y : WayV} (h : wayI l i = some y) (hn : ¬ (0 ≤ y.up ∧ y.up < i)) : ∀ f, upsF l f i = []
  | 0 => rfl
  | f + 1 => by unfold upsF; rw [h]; simp only [if_neg hn]
theorem upsF_go {l : List WayV} {i : Int} {y : WayV} {f : Nat} (h : wayI l i = some y) (hn : 0 ≤ y.up ∧ y.up < i) : upsF l (f + 1) i = y.name :: upsF l f y.up := by
  conv => lhs; unfold upsF
  rw [h]
  simp only [if_pos hn]
theorem wayI_some {l : List WayV} {i : Int} {y : WayV} (h : wayI l i = some y) : ∃ j : Nat, i = (j : Int) ∧ l[j]? = some y := by
  unfold wayI at h
  split at h
  · rename_i hh
    obtain ⟨j, rfl⟩ := Int.eq_ofNat_of_zero_le hh.1
    exact ⟨j, rfl, by simpa using h⟩
  · cases h
theorem way_get {w : World} {D : Nat → Prop} {A : Option Addr} {n j : Nat} {l : List WayV} {y : WayV} (h : RdE wayEn w D A n l) (hy : l[j]? = some y) : ∃ b o, A = some ⟨b, o, none⟩ ∧ D b ∧ ∀ i v, (wayC y)[i]? = some v → w.cell? ⟨b, o + j * 3 + i, none⟩ = some v := by
  have hj := (List.getElem?_eq_some_iff.1 hy).1
  obtain ⟨b, o, e, hb, hc⟩ := h.2 (by rw [← h.1]; omega)
  obtain ⟨cs, hR, hcs⟩ := hc j y hy
  refine ⟨b, o, e, hb, fun i v hv => ?_⟩
  have := hcs i v (by rw [show cs = wayC y from hR]; exact hv)
  rwa [show o + (j * wayEn.k + i) = o + j * 3 + i from by show o + (j * 3 + i) = o + j * 3 + i; omega] at this
set_option maxRecDepth 100000 in
theorem str_info : (Try.prog.info? 9).map (fun i => (i.zero, i.size, i.bytes)) = some (some (.string ⟨#[]⟩), 1, 16) := by kernel_rfl
end Go.Proofs.Ytnehkgbdppbhiaa
