/- What came in, opened: a slice of elements, each with a reading of its own. -/
import Derived.Test.YtnehkgbdppbhiaaMemE
import Derived.WalkKit
import Derived.OpenShut
import Derived.ChangeArms
import Derived.Lib.SmallJoins
namespace Go.Proofs.Ytnehkgbdppbhiaa
open Go.RowKit Plain Go.ChangeShapes Go.WideShapes

section
variable {α H : Type} {enc : TypeId × Value → H} {P : Program} {w : World} {spare : Nat → Bool} {held : Bool}
theorem open_rde {t e : TypeId} {fuel : Nat} {cs : List Value} {x : DataW H × List MemPlace} (E : Enc α) (ht : P.underlying t = some (.slice e)) (hc : P.cellsOf e = E.k) (hk : 0 < E.k)
    (hel : ∀ n cs y, cs.length = E.k → DataW.trod enc P w 0 spare held n e cs = some y → ∃ x, E.R w (Under w.heap.size) cs x)
    (h : DataW.trod enc P w 0 spare held fuel t cs = some x) : ∃ A n c l, cs = [.slice A n c] ∧ n ≤ c ∧ RdE E w (Under w.heap.size) A n l := by
  rcases DataW.trod_slice ht h with ⟨rfl, -⟩ | ⟨a, len, cap, elems, rest, n, -, rfl, -, -, hl, -, hlen, hcel, -, -⟩
  · exact ⟨_, _, _, [], rfl, Nat.le_refl _, RdE.none_ _ _ _ _⟩
  · have each : ∀ i, i < len → ∃ y, ∃ cs, w.cells? 0 (a.add (i * E.k)) E.k = some cs ∧ E.R w (Under w.heap.size) cs y := by
      intro i hi
      have h1 := hcel i hi
      rw [hc, List.getElem?_eq_getElem (by omega), Option.bind_eq_some_iff] at h1
      obtain ⟨cs', hcs, hy⟩ := h1
      obtain ⟨x, hx⟩ := hel _ _ _ (World.cells?_some hcs).2.1 hy
      exact ⟨x, cs', hcs, hx⟩
    refine ⟨_, _, _, List.ofFn (fun i : Fin len => Classical.choose (each i.1 i.2)), rfl, hl, by simp, fun hn => ?_⟩
    obtain ⟨y, cs0, hcs0, -⟩ := each 0 hn
    obtain ⟨-, hl0, h0⟩ := World.cells?_some hcs0
    have hcell0 := h0 0 hk
    rw [List.getElem?_eq_getElem (by omega)] at hcell0
    obtain ⟨b, off, spot⟩ := a
    have hspot : spot = none := by simpa [Addr.add] using World.cell?_spot hcell0
    subst hspot
    have hadd : ∀ o i, (⟨b, o, none⟩ : Addr).add i = ⟨b, o + i, none⟩ := by
      intro o i
      unfold Addr.add
      split
      · rename_i h0; subst h0; rfl
      · rfl
    refine ⟨b, off, rfl, ?_, fun i y hy => ?_⟩
    · have := block_lt_of_cell hcell0
      rw [hadd, hadd] at this
      exact this
    · rw [List.getElem?_ofFn] at hy
      split at hy
      · next hi =>
        obtain rfl := Option.some.inj hy
        obtain ⟨cs, hcs, hr⟩ := Classical.choose_spec (each i hi)
        obtain ⟨-, hl1, h1⟩ := World.cells?_some hcs
        refine ⟨cs, hr, fun j v hj => ?_⟩
        have hjl := (List.getElem?_eq_some_iff.1 hj).1
        have := h1 j (by omega)
        rw [hadd, hadd, hj] at this
        rw [← this, Nat.add_assoc]
      · cases hy
theorem open_bytes {t e : TypeId} {fuel : Nat} {cs : List Value} {x : DataW H × List MemPlace} (ht : P.underlying t = some (.slice e)) (he : P.underlying e = some (.int .u8)) (hc : P.cellsOf e = 1)
    (h : DataW.trod enc P w 0 spare held fuel t cs = some x) : ∃ A n c l, cs = [.slice A n c] ∧ n ≤ c ∧ RdE Enc.byte w (Under w.heap.size) A n l :=
  open_rde Enc.byte ht hc (by decide) (fun n cs y _ hy => by
    obtain ⟨z, rfl, -, hw⟩ := DataW.trod_int he hy
    have hb : 0 ≤ z ∧ z < 256 := by
      simp [Lit.wf, IntKind.min, IntKind.max, IntKind.signed, IntKind.bits] at hw
      omega
    refine ⟨UInt8.ofNat z.toNat, ?_⟩
    show [Value.int .u8 z] = [bv (UInt8.ofNat z.toNat)]
    simp only [bv]
    congr 2
    simp
    omega) h
theorem open_bools {t e : TypeId} {fuel : Nat} {cs : List Value} {x : DataW H × List MemPlace} (ht : P.underlying t = some (.slice e)) (he : P.underlying e = some .bool) (hc : P.cellsOf e = 1)
    (h : DataW.trod enc P w 0 spare held fuel t cs = some x) : ∃ A n c l, cs = [.slice A n c] ∧ n ≤ c ∧ RdE Enc.bool w (Under w.heap.size) A n l :=
  open_rde Enc.bool ht hc (by decide) (fun n cs y _ hy => by
    obtain ⟨z, rfl, -⟩ := DataW.trod_bool he hy
    exact ⟨z, rfl⟩) h
theorem four_of {cs : List Value} (h : cs.length = 4) : ∃ c0 c1 c2 c3, cs = [c0, c1, c2, c3] := by
  match cs, h with
  | [c0, c1, c2, c3], _ => exact ⟨_, _, _, _, rfl⟩
/-- A slice that came in as a parameter. -/
theorem came_E {t : TypeId} {a : Option Addr} {len cap : Nat} {d : DataW H} {p : List MemPlace} {E : Enc α} (h : ∃ fuel, DataW.trod enc P w 0 spare held fuel t (Value.slice a len cap).cells.toList = some (d, p))
    (ho : ∀ fuel cs x, DataW.trod enc P w 0 spare held fuel t cs = some x → ∃ A n c l, cs = [.slice A n c] ∧ n ≤ c ∧ RdE E w (Under w.heap.size) A n l) : ∃ l, len ≤ cap ∧ RdE E w (Under w.heap.size) a len l := by
  obtain ⟨fuel, hf⟩ := h
  obtain ⟨A, n, c, l, hcs, hnc, hr⟩ := ho _ _ _ hf
  simp [Value.cells] at hcs
  obtain ⟨rfl, rfl, rfl⟩ := hcs
  exact ⟨l, hnc, hr⟩
end
/-- Bools that came in, in the words of MemR. -/
theorem rd_bools {w : World} {B n : Nat} {A : Option Addr} {l : List Bool} (h : RdE Enc.bool w (Under B) A n l) : Rd Value.bool w B A n l := by
  refine ⟨h.len, fun hn => ?_⟩
  obtain ⟨b, o, e, hb, hc⟩ := h.2 hn
  refine ⟨b, o, e, hb, fun i x hx => ?_⟩
  obtain ⟨cs, hR, hcs⟩ := hc i x hx
  have hR : cs = [.bool x] := hR
  subst hR
  have := hcs 0 (.bool x) rfl
  rwa [show o + (i * Enc.bool.k + 0) = o + i from by show o + (i * 1 + 0) = o + i; omega] at this
end Go.Proofs.Ytnehkgbdppbhiaa
