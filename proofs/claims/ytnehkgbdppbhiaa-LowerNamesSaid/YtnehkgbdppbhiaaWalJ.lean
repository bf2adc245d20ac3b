/- walk: begin (layer 13). -/
import Derived.Test.YtnehkgbdppbhiaaWalI
namespace Go.Proofs.Ytnehkgbdppbhiaa
open Go.RowKit Go.Shelf Plain
attribute [local go_sem] Oper.semAt_some

/-- A scope with one label to which the run jumps back, at the wide fence. -/
theorem wpIn_scope_back {P : Program} {n : Nat} {a : Act} {w : World} {Q : Exit → Act → World → Prop} {c rest : Code} (l : Nat) (J : Act → World → Prop) (μ : Act → World → Nat) (hf : findLabel c l = some (Code.skip.seq rest))
    (pass : ∀ a w, J a w → rest.wpIn Fence.wide n P (Exit.jump l (fun a' w' => J a' w' ∧ μ a' w' < μ a w) Q) a w)
    (first : (∀ a w, J a w → rest.wpIn Fence.wide n P (Exit.jump l J Q) a w) → c.wpIn Fence.wide n P (Exit.jump l J Q) a w) : (Code.scope c).wpIn Fence.wide n P Q a w := by
  refine wpIn_wide.2 (wp_scope_jumps l J μ hf (wpIn_wide.1 (first fun a w h => wpIn_wide.2 (Code.wp_mono (fun e a' w' hq => ?_) (wpIn_wide.1 (pass a w h))))) (fun a w h => wp_seq (wp_skip (wpIn_wide.1 (pass a w h)))))
  cases e with
  | goto l' => exact ⟨hq.1, hq.2.1⟩
  | normal => exact hq
  | exit id => exact hq
  | ret => exact hq
  | panic ch => exact hq
  | outgrown => exact hq
/-- A number in a cell. -/
def cellN (w : World) (m : Nat) : Nat := match w.cell? ⟨m, 0, none⟩ with | some (.int _ n) => n.toNat | _ => 0
def znam : Value := .agg #[.int .i64 0, .int .i64 0]
theorem run_stop {ns : List NodV} {p : Nat} {s : StW} (h : ¬ p < s.1.length) : ∀ f, runW ns f p s = s
  | 0 => rfl
  | f + 1 => by unfold runW; rw [if_neg h]
theorem visit_at {ns : List NodV} {p : Nat} {s : StW} {y : WayV} (hy : s.1[p]? = some y) : visitW ns p s = (dirsOf ns (nodAt ns y.ino).ents).foldl (oneW y.ino p) s := by unfold visitW; rw [hy]
/-- As Q, but for a panic. -/
def NoP (Q : Exit → Act → World → Prop) : Exit → Act → World → Prop
  | .panic _, _, _ => False
  | e, a, w => Q e a w
theorem noP_le {Q : Exit → Act → World → Prop} (e : Exit) (a : Act) (w : World) (h : NoP Q e a w) : Q e a w := by
  cases e <;> first | exact h | exact h.elim
theorem noP_n {Q : Exit → Act → World → Prop} {a : Act} {w : World} (h : Q .normal a w) : NoP Q .normal a w := h
/-- Two new variables, the second one given a value. -/
theorem rows_set2 (W : World) (c1 : List Value) (z v : Value) (t1 t2 : Nat) : RowL (((W.alloc (.cells c1.toArray t1)).alloc (.cells #[z] t2)).setCell ⟨W.heap.size + 1, 0, none⟩ v) W.heap.size t1 c1 ∧ RowL (((W.alloc (.cells c1.toArray t1)).alloc (.cells #[z] t2)).setCell ⟨W.heap.size + 1, 0, none⟩ v) (W.heap.size + 1) t2 [v] ∧
    Below W.heap.size W (((W.alloc (.cells c1.toArray t1)).alloc (.cells #[z] t2)).setCell ⟨W.heap.size + 1, 0, none⟩ v) ∧ (((W.alloc (.cells c1.toArray t1)).alloc (.cells #[z] t2)).setCell ⟨W.heap.size + 1, 0, none⟩ v).heap.size = W.heap.size + 2 := by
  obtain ⟨h1, h2, h3, h4⟩ := rows2 W c1 [z] t1 t2
  have hg := grown_cell ((W.alloc (.cells c1.toArray t1)).alloc (.cells [z].toArray t2)) (W.heap.size + 1) 0 v
  exact ⟨h1.grown hg (fun e => by have := Option.some.inj e; omega), h2.set_ 0 v, h3.grown hg (by rw [h4]; omega) (fun k hk => by have := Option.some.inj hk; omega), by simp [World.setCell]⟩
theorem own_same {W W' : World} {base e s n : Nat} {v : Value} {xs : List Value} (h : W.ownsRow base e s v n xs) (hk : ∀ (k : Nat) (o : Obj), W.heap[k]? = some o → (∀ x, o ≠ .deferred x) → W'.heap[k]? = some o) : W'.ownsRow base e s v n xs := by
  refine ⟨h.1, ?_⟩
  rcases h.2 with h0 | ⟨g, cap, cur, h1, h2, h3, h4⟩
  · exact .inl h0
  · exact .inr ⟨g, cap, cur, h1, h2, hk _ _ h3 (fun x e => by cases e), h4⟩
end Go.Proofs.Ytnehkgbdppbhiaa
