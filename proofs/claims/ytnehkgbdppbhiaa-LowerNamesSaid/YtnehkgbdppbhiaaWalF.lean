/- walk: the set of inodes that were come to; cameTo (layer 13). -/
import Derived.Test.YtnehkgbdppbhiaaWalE
import Derived.Maps.OwnIn
import Derived.Maps.RangeWalk
import Derived.Carry
namespace Go.Proofs.Ytnehkgbdppbhiaa
open Go.RowKit Go.Shelf Plain Go.Maps

/-- An int of 64 bits. -/
def i64 (x : Int) : Prop := -9223372036854775808 ≤ x ∧ x ≤ 9223372036854775807
theorem i64_wf {n : Int} (h : i64 n) : (Lit.int .i64 n).wf = true := by
  unfold i64 at h
  simp [Lit.wf, IntKind.min, IntKind.max, IntKind.signed, IntKind.bits]
  omega
theorem intKey : Keyed Try.prog 3 := int_keyed Try.underlying3
/-- The block holds this set. -/
def SetW (w : World) (b c : Nat) (f : Int → Bool) : Prop := ∃ D : DataW Unit, w.ownsMap Try.prog 3 unitElem b c D ∧ ∀ n, i64 n → Maps.has D (.int .i64 n) = f n
section
variable {w w' : World} {b c : Nat} {f : Int → Bool}
theorem SetW.made (w : World) : SetW (w.alloc (.map #[] 0)) w.heap.size 0 (fun _ => false) := ⟨.map [], World.ownsMap_made w _ _ _, fun _ _ => rfl⟩
theorem SetW.lt (h : SetW w b c f) : b < w.heap.size := by obtain ⟨D, h1, h2⟩ := h; exact h1.lt
theorem SetW.kept {row : Option Nat} (h : SetW w b c f) (hg : w.grownBy w' row) (hne : some b ≠ row) : SetW w' b c f := by obtain ⟨D, h1, h2⟩ := h; exact ⟨D, h1.kept hg hne, h2⟩
theorem SetW.on (h : SetW w b c f) (hb : Below w.heap.size w w') : SetW w' b c f := h.kept (grown_below hb) (by simp)
theorem SetW.eq {g : Int → Bool} (h : SetW w b c f) (e : f = g) : SetW w b c g := e ▸ h
theorem SetW.at_ (h : SetW w b c f) (e : w'.heap[b]? = w.heap[b]?) : SetW w' b c f := by
  obtain ⟨D, ⟨es, clock, h1, h2⟩, h3⟩ := h
  exact ⟨D, ⟨es, clock, e.trans h1, h2⟩, h3⟩
theorem SetW.obj (h : SetW w b c f) : ∃ o : Obj, w.heap[b]? = some o ∧ (∀ x, o ≠ .deferred x) ∧ o.isCells = false := by
  obtain ⟨D, ⟨es, clock, h1, _⟩, h2⟩ := h
  exact ⟨_, h1, (fun x e => by cases e), rfl⟩
end
end Go.Proofs.Ytnehkgbdppbhiaa
