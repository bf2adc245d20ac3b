/- walk: sets of names by where they stand (layer 13). -/
import Derived.Test.YtalhkcheglbolaaWalO
import Derived.DeepKeys4
namespace Go.Proofs.Ytalhkcheglbolaa
open Go.RowKit Go.Shelf Plain Go.Maps

set_option maxRecDepth 100000 in
theorem nam_laid : laidOutB Try.prog = true := by kernel_rfl
set_option maxRecDepth 100000 in
theorem namKey : Keyed Try.prog 78 := Keyed.of_law (deep_law_laid nam_laid (m := 4) (by omega) (of_decide_eq_true (by kernel_rfl)) (by kernel_rfl) (by kernel_rfl))
set_option maxRecDepth 100000 in
theorem nam_size1 : decide (1 ≤ Try.prog.types.size) = true := by kernel_rfl
theorem namSize : ∃ k, Try.prog.types.size + 1 = k + 1 + 1 := ⟨Try.prog.types.size - 1, by have h := of_decide_eq_true nam_size1; revert h; generalize Try.prog.types.size = z; intro h; omega⟩
set_option maxRecDepth 100000 in
theorem nam_cells : Try.prog.cellsOf 78 = 2 := by kernel_rfl
set_option maxRecDepth 100000 in
theorem nam_kt : Try.prog.keyType 78 = true := by kernel_rfl
set_option maxRecDepth 100000 in
theorem int_cells : Try.prog.cellsOf 3 = 1 := by kernel_rfl
set_option maxRecDepth 100000 in
set_option maxHeartbeats 800000 in
theorem nam_key {a b : Int} (ha : i64 a) (hb : i64 b) : ∃ kl, keyOf Try.prog 78 (.agg #[.int .i64 a, .int .i64 b]) = some kl := by
  have h1 := i64_wf ha
  have h2 := i64_wf hb
  obtain ⟨k, hk⟩ := namSize
  refine ⟨.string (keyBytes [.int .i64 a, .int .i64 b]), ?_⟩
  unfold keyOf
  simp only [Try.underlying78]
  have hfm : Value.formed Try.prog 78 (Value.agg #[Value.int IntKind.i64 a, Value.int IntKind.i64 b]) = true := by
    simp only [Value.formed, Try.underlying78]
    rw [nam_cells]
    rfl
  rw [nam_kt, hfm, hk, show (Value.agg #[Value.int IntKind.i64 a, Value.int IntKind.i64 b]).cells.toList = [Value.int IntKind.i64 a, Value.int IntKind.i64 b] from rfl]
  have hk1 : ∀ x : Int, (Lit.int IntKind.i64 x).wf = true → Try.prog.keyLits (k + 1) 3 [Value.int IntKind.i64 x] = some [Lit.int IntKind.i64 x] := by
    intro x hx
    unfold Program.keyLits
    simp only [Try.underlying3]
    rw [if_pos ⟨trivial, hx⟩]
  have hk2 : Try.prog.keyLits (k + 1 + 1) 78 [Value.int IntKind.i64 a, Value.int IntKind.i64 b] = some [Lit.int IntKind.i64 a, Lit.int IntKind.i64 b] := by
    unfold Program.keyLits
    simp only [Try.underlying78]
    rw [if_pos ⟨by rw [nam_cells]; rfl, by kernel_rfl⟩]
    simp only [List.mapM_cons, List.mapM_nil, int_cells, List.drop_zero, List.drop_succ_cons, List.take_succ_cons, List.take_zero, hk1 a h1, hk1 b h2]
    rfl
  rw [hk2]
  rfl
/-- The block holds this set of names. -/
def SetN (w : World) (b c : Nat) (f : Int × Int → Bool) : Prop := ∃ D : DataW Unit, w.ownsMap Try.prog 78 unitElem b c D ∧ ∀ x y kl, i64 x → i64 y → keyOf Try.prog 78 (.agg #[.int .i64 x, .int .i64 y]) = some kl → Maps.has D kl = f (x, y)
section
variable {w w' : World} {b c : Nat} {f : Int × Int → Bool}
theorem SetN.made (w : World) : SetN (w.alloc (.map #[] 0)) w.heap.size 0 (fun _ => false) := ⟨.map [], World.ownsMap_made w _ _ _, fun _ _ _ _ _ _ => rfl⟩
theorem SetN.lt (h : SetN w b c f) : b < w.heap.size := by obtain ⟨D, h1, h2⟩ := h; exact h1.lt
theorem SetN.kept {row : Option Nat} (h : SetN w b c f) (hg : w.grownBy w' row) (hne : some b ≠ row) : SetN w' b c f := by obtain ⟨D, h1, h2⟩ := h; exact ⟨D, h1.kept hg hne, h2⟩
theorem SetN.on (h : SetN w b c f) (hb : Below w.heap.size w w') : SetN w' b c f := h.kept (grown_below hb) (by simp)
theorem SetN.eq {g : Int × Int → Bool} (h : SetN w b c f) (e : f = g) : SetN w b c g := e ▸ h
theorem SetN.obj (h : SetN w b c f) : ∃ o : Obj, w.heap[b]? = some o ∧ (∀ x, o ≠ .deferred x) ∧ o.isCells = false := by
  obtain ⟨D, ⟨es, clock, h1, _⟩, h2⟩ := h
  exact ⟨_, h1, (fun x e => by cases e), rfl⟩
theorem SetN.look (h : SetN w b c f) {x y : Int} (hx : i64 x) (hy : i64 y) : (Instr.lookup 83 (.map (some b)) (.agg #[.int .i64 x, .int .i64 y]) true).run Try.prog w = .ok (.tuple #[.agg #[], .bool (f (x, y))]) w := by
  obtain ⟨D, h1, h2⟩ := h
  obtain ⟨kl, hkl⟩ := nam_key hx hy
  obtain ⟨v, ps, hrun, hv⟩ := h1.look_ok (t := 83) (e := 84) namKey Try.underlying83 (unit_zero w) unitElem_mk hkl
  obtain ⟨rfl, -⟩ := unitElem_inv hv
  rw [hrun, h2 x y kl hx hy hkl]
theorem SetN.put (h : SetN w b c f) {x y : Int} (hx : i64 x) (hy : i64 y) (hc : c < maxLen) : ∃ w', (Instr.mapUpdate 83 (.map (some b)) (.agg #[.int .i64 x, .int .i64 y]) (.agg #[])).run Try.prog w = .ok () w' ∧ SetN w' b (c + 1) (fun q => f q || decide (q = (x, y))) ∧ w.grownBy w' (some b) := by
  obtain ⟨D, h1, h2⟩ := h
  obtain ⟨kl, hkl⟩ := nam_key hx hy
  obtain ⟨w', hrun, h3, h4⟩ := h1.update (t := 83) (e := 84) namKey Try.underlying83 hc hkl unitElem_mk
  have hm : Maps.IsMap D := h1.isMap
  have hk : WideAt.IsKeyLit kl := namKey.key hkl
  refine ⟨w', hrun, ⟨_, h3, fun a d kl' ha hd hkl' => ?_⟩, h4⟩
  by_cases e : (a, d) = (x, y)
  · cases e
    rw [hkl] at hkl'
    cases hkl'
    rw [has_put_same hm hk]
    simp
  · have hne : kl' ≠ kl := fun e' => e (by
      subst e'
      have := namKey.inj hkl' hkl
      simpa using this)
    rw [has_put_other hne, h2 a d kl' ha hd hkl']
    simp [e]
end
end Go.Proofs.Ytalhkcheglbolaa
