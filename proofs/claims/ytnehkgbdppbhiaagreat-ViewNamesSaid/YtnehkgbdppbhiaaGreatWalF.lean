/- walk: the set of inodes that were come to; cameTo (layer 13). -/
import Derived.Test.YtnehkgbdppbhiaaGreatWalE
import Derived.Maps.OwnIn
import Derived.Maps.RangeWalk
import Derived.Carry
namespace Go.Proofs.YtnehkgbdppbhiaaGreat
open Go.RowKit Go.Shelf Plain Go.Maps

/-- An int of 64 bits. -/
def i64 (x : Int) : Prop := -9223372036854775808 ≤ x ∧ x ≤ 9223372036854775807
theorem i64_wf {n : Int} (h : i64 n) : (Lit.int .i64 n).wf = true := by
  unfold i64 at h
  simp [Lit.wf, IntKind.min, IntKind.max, IntKind.signed, IntKind.bits]
  omega
theorem intKey : Keyed Tryz.prog 3 := int_keyed Tryz.underlying3
theorem unit_zero : ∀ w, (zeroValue 171).run Tryz.prog w = .ok (.agg #[]) w := fun w => by kernel_rfl
/-- The block holds this set. -/
def SetW (w : World) (b c : Nat) (f : Int → Bool) : Prop := ∃ D : DataW Unit, w.ownsMap Tryz.prog 3 unitElem b c D ∧ ∀ n, i64 n → Maps.has D (.int .i64 n) = f n
section
variable {w w' : World} {b c : Nat} {f : Int → Bool}
theorem SetW.made (w : World) : SetW (w.alloc (.map #[] 0)) w.heap.size 0 (fun _ => false) := ⟨.map [], World.ownsMap_made w _ _ _, fun _ _ => rfl⟩
theorem SetW.lt (h : SetW w b c f) : b < w.heap.size := by obtain ⟨D, h1, h2⟩ := h; exact h1.lt
theorem SetW.kept {row : Option Nat} (h : SetW w b c f) (hg : w.grownBy w' row) (hne : some b ≠ row) : SetW w' b c f := by obtain ⟨D, h1, h2⟩ := h; exact ⟨D, h1.kept hg hne, h2⟩
theorem SetW.on (h : SetW w b c f) (hb : Below w.heap.size w w') : SetW w' b c f := h.kept (grown_below hb) (by simp)
theorem SetW.eq {g : Int → Bool} (h : SetW w b c f) (e : f = g) : SetW w b c g := e ▸ h
theorem SetW.at_ (h : SetW w b c f) (e : w'.heap[b]? = w.heap[b]?) : SetW w' b c f := by
  obtain ⟨D, ⟨es, clock, h1, h2⟩, h3⟩ := h
  exact ⟨D, ⟨es, clock, e.trans h1, h2⟩, h3⟩
theorem SetW.obj (h : SetW w b c f) : ∃ o : Obj, w.heap[b]? = some o ∧ (∀ x, o ≠ .deferred x) ∧ o.isCells = false := by
  obtain ⟨D, ⟨es, clock, h1, _⟩, h2⟩ := h
  exact ⟨_, h1, (fun x e => by cases e), rfl⟩
theorem SetW.look (h : SetW w b c f) {n : Int} (hn : i64 n) : (Instr.lookup 116 (.map (some b)) (.int .i64 n) true).run Tryz.prog w = .ok (.tuple #[.agg #[], .bool (f n)]) w := by
  obtain ⟨D, h1, h2⟩ := h
  obtain ⟨v, ps, hrun, hv⟩ := h1.look_ok (t := 116) (e := 171) intKey Tryz.underlying116 (unit_zero w) unitElem_mk (keyOf_int_mk Tryz.underlying3 (i64_wf hn))
  obtain ⟨rfl, -⟩ := unitElem_inv hv
  rw [hrun, h2 n hn]
theorem SetW.put (h : SetW w b c f) {n : Int} (hn : i64 n) (hc : c < maxLen) : ∃ w', (Instr.mapUpdate 116 (.map (some b)) (.int .i64 n) (.agg #[])).run Tryz.prog w = .ok () w' ∧ SetW w' b (c + 1) (fun x => f x || x == n) ∧ w.grownBy w' (some b) := by
  obtain ⟨D, h1, h2⟩ := h
  obtain ⟨w', hrun, h3, h4⟩ := h1.update (t := 116) (e := 171) intKey Tryz.underlying116 hc (keyOf_int_mk Tryz.underlying3 (i64_wf hn)) unitElem_mk
  have hm : Maps.IsMap D := h1.isMap
  have hk : WideAt.IsKeyLit (.int .i64 n) := intKey.key (keyOf_int_mk Tryz.underlying3 (i64_wf hn))
  refine ⟨w', hrun, ⟨_, h3, fun x hx => ?_⟩, h4⟩
  by_cases e : x = n
  · subst e
    rw [has_put_same hm hk]
    simp
  · have hne : Lit.int .i64 x ≠ Lit.int .i64 n := by simpa using e
    rw [has_put_other hne, h2 x hx]
    simp [e]
end
set_option maxHeartbeats 800000 in
theorem came_any {g b c : Nat} {f : Int → Bool} {i : Int} {r : Bool} (w : World) (hc : w.cell? ⟨g, 2, none⟩ = some (.map (some b))) (h : SetW w b c f) (hi : i64 i) (hr : f i = r) : Calls Tryz.prog 114 #[.pointer (some ⟨g, 0, none⟩), .int .i64 i] w (BoolB w r) := by
  subst hr
  have hl := h.look hi
  obtain ⟨r, hr⟩ : ∃ r, f i = r := ⟨_, rfl⟩
  rw [hr] at hl ⊢
  clear h hi hr
  go_enter Tryz.func114, Tryz.ntmps114
  go_wp2
  go_ret
  exact BoolB.of (below_new (below_self w) _)
end Go.Proofs.YtnehkgbdppbhiaaGreat
