/- claim: maps from what a pointer is to its place (layer 11). -/
import Derived.Test.YtnllbdigpnopoaaClaH
import Derived.Maps.OwnIn
import Derived.Maps.RangeWalk
namespace Go.Proofs.Ytnllbdigpnopoaa
open Go.RowKit Go.Shelf Plain Go.Maps

/-- How a place reads. -/
def placeD (a b : Int) : DataW Unit := .agg [.lit (.int .i64 a), .lit (.int .i64 b)]
def placeR : Value → Option (DataW Unit × List MemPlace)
  | .agg ⟨[.int .i64 a, .int .i64 b]⟩ => some (placeD a b, [])
  | _ => none
theorem placeR_mk (a b : Int) : placeR (.agg #[.int .i64 a, .int .i64 b]) = some (placeD a b, []) := rfl
theorem placeR_any {v : Value} {y : DataW Unit × List MemPlace} (h : placeR v = some y) : ∃ a b, v = .agg #[.int .i64 a, .int .i64 b] ∧ y = (placeD a b, []) := by
  unfold placeR at h
  split at h
  · cases h; exact ⟨_, _, rfl, rfl⟩
  · cases h
theorem placeR_inv {v : Value} {a b : Int} {ps : List MemPlace} (h : placeR v = some (placeD a b, ps)) : v = .agg #[.int .i64 a, .int .i64 b] := by
  obtain ⟨a', b', rfl, e⟩ := placeR_any h
  simp [placeD] at e
  obtain ⟨⟨rfl, rfl⟩, -⟩ := e
  rfl
/-- The datum is this map. -/
def MapIs (D : DataW Unit) (f : Int → Option Nat) : Prop := ∀ n, (Lit.int .i64 n).wf = true → Maps.has D (.int .i64 n) = (f n).isSome ∧ ∀ q, f n = some q → ∀ z, D.atKey (.int .i64 n) z = placeD (ownI (some q)) (ownK (some q))
theorem key_law : Keyed Try.prog 3 := int_keyed Try.underlying3
theorem place_zero : ∀ w, (zeroValue 41).run Try.prog w = .ok (.agg #[.int .i64 0, .int .i64 0]) w := fun w => by kernel_rfl
/-- The block holds this map. -/
def MapW (w : World) (b c : Nat) (f : Int → Option Nat) : Prop := ∃ D : DataW Unit, w.ownsMap Try.prog 3 placeR b c D ∧ MapIs D f
section
variable {w w' : World} {b c : Nat} {f : Int → Option Nat}
theorem MapW.made (w : World) : MapW (w.alloc (.map #[] 0)) w.heap.size 0 (fun _ => none) := ⟨.map [], World.ownsMap_made w _ _ _, fun n _ => ⟨rfl, fun q h => by cases h⟩⟩
theorem MapW.mono (h : MapW w b c f) {c' : Nat} (hc : c ≤ c') : MapW w b c' f := by obtain ⟨D, h1, h2⟩ := h; exact ⟨D, h1.mono hc, h2⟩
theorem MapW.lt (h : MapW w b c f) : b < w.heap.size := by obtain ⟨D, h1, h2⟩ := h; exact h1.lt
theorem MapW.kept {row : Option Nat} (h : MapW w b c f) (hg : w.grownBy w' row) (hne : some b ≠ row) : MapW w' b c f := by obtain ⟨D, h1, h2⟩ := h; exact ⟨D, h1.kept hg hne, h2⟩
theorem MapW.on (h : MapW w b c f) (hb : Below w.heap.size w w') : MapW w' b c f := h.kept (grown_below hb) (by simp)
theorem MapW.eq {g : Int → Option Nat} (h : MapW w b c f) (e : f = g) : MapW w b c g := e ▸ h
theorem MapW.obj (h : MapW w b c f) : ∃ o : Obj, w.heap[b]? = some o ∧ ∀ x, o ≠ .deferred x := by
  obtain ⟨D, ⟨es, clock, h1, _⟩, h2⟩ := h
  exact ⟨_, h1, fun x e => by cases e⟩
theorem wf_64 {n : Int} (h : w64 n) : (Lit.int .i64 n).wf = true := by
  unfold w64 at h
  simp [Lit.wf, IntKind.min, IntKind.max, IntKind.signed, IntKind.bits]
  omega
theorem MapW.look (h : MapW w b c f) {n : Int} (hn : w64 n) : (Instr.lookup 46 (.map (some b)) (.int .i64 n) true).run Try.prog w = .ok (.tuple #[.agg #[.int .i64 (ownI (f n)), .int .i64 (ownK (f n))], .bool (f n).isSome]) w := by
  obtain ⟨D, h1, h2⟩ := h
  obtain ⟨v, ps, hrun, hv⟩ := h1.look_ok (t := 46) (e := 41) key_law Try.underlying46 (place_zero w) (placeR_mk 0 0) (keyOf_int_mk Try.underlying3 (wf_64 hn))
  obtain ⟨h3, h4⟩ := h2 n (wf_64 hn)
  rw [hrun, h3]
  cases hf : f n with
  | none =>
    rw [hf] at h3
    rw [atKey_of_not_has h3] at hv
    rw [placeR_inv hv]
    rfl
  | some q =>
    rw [h4 q hf] at hv
    rw [placeR_inv hv]
theorem MapW.look0 (h : MapW w b c f) {n : Int} (hn : w64 n) : (Instr.lookup 46 (.map (some b)) (.int .i64 n) false).run Try.prog w = .ok (.agg #[.int .i64 (ownI (f n)), .int .i64 (ownK (f n))]) w := by
  obtain ⟨D, h1, h2⟩ := h
  obtain ⟨v, ps, hrun, hv⟩ := h1.lookup (t := 46) (e := 41) key_law Try.underlying46 (place_zero w) (placeR_mk 0 0) (keyOf_int_mk Try.underlying3 (wf_64 hn))
  obtain ⟨h3, h4⟩ := h2 n (wf_64 hn)
  rw [hrun]
  cases hf : f n with
  | none =>
    rw [hf] at h3
    rw [atKey_of_not_has h3] at hv
    rw [placeR_inv hv]
    rfl
  | some q =>
    rw [h4 q hf] at hv
    rw [placeR_inv hv]
/-- One more. -/
def putF (f : Int → Option Nat) (n : Int) (q : Nat) : Int → Option Nat := fun x => if x = n then some q else f x
theorem MapW.put (h : MapW w b c f) {n : Int} (hn : w64 n) (q : Nat) (hc : c < maxLen) : ∃ w', (Instr.mapUpdate 46 (.map (some b)) (.int .i64 n) (.agg #[.int .i64 (ownI (some q)), .int .i64 (ownK (some q))])).run Try.prog w = .ok () w' ∧ MapW w' b (c + 1) (putF f n q) ∧ w.grownBy w' (some b) := by
  obtain ⟨D, h1, h2⟩ := h
  obtain ⟨w', hrun, h3, h4⟩ := h1.update (t := 46) (e := 41) key_law Try.underlying46 hc (keyOf_int_mk Try.underlying3 (wf_64 hn)) (placeR_mk _ _)
  have hm : Maps.IsMap D := h1.isMap
  have hk : WideAt.IsKeyLit (.int .i64 n) := key_law.key (keyOf_int_mk Try.underlying3 (wf_64 hn))
  refine ⟨w', hrun, ⟨_, h3, fun x hx => ?_⟩, h4⟩
  unfold putF
  by_cases e : x = n
  · subst e
    rw [has_put_same hm hk]
    refine ⟨by simp, fun q' hq z => ?_⟩
    rw [atKey_put_same hm hk]
    simp at hq
    subst hq
    rfl
  · have hne : Lit.int .i64 x ≠ Lit.int .i64 n := by simpa using e
    rw [has_put_other hne]
    refine ⟨by rw [if_neg e]; exact (h2 x hx).1, fun q' hq z => ?_⟩
    rw [if_neg e] at hq
    rw [atKey_put_other hne]
    exact (h2 x hx).2 q' hq z
end
/-- The map of the first j pointers. -/
def mapF (ps : List Int) (m : Int) (j : Nat) : Int → Option Nat := fun n => if 1 ≤ n ∧ n ≤ m then fst1 n (ps.take j) else none
def stepF (m p : Int) (q : Nat) (f : Int → Option Nat) : Int → Option Nat := if 1 ≤ p ∧ p ≤ m ∧ f p = none then putF f p q else f
theorem mapF_zero (ps : List Int) (m : Int) : mapF ps m 0 = fun _ => none := by
  funext n
  unfold mapF fst1
  simp
theorem fst1_take_some {ps : List Int} {n : Int} {j q : Nat} : fst1 n (ps.take j) = some q ↔ q < j ∧ ps[q]? = some n ∧ ∀ i, i < q → ps[i]? ≠ some n := by
  rw [fst1_some]
  simp only [List.getElem?_take]
  constructor
  · rintro ⟨h1, h2⟩
    split at h1
    · refine ⟨by assumption, h1, fun i hi => ?_⟩
      have := h2 i hi
      rw [if_pos (by omega)] at this
      exact this
    · cases h1
  · rintro ⟨h1, h2, h3⟩
    rw [if_pos h1]
    exact ⟨h2, fun i hi => by rw [if_pos (by omega)]; exact h3 i hi⟩
theorem mapF_succ {ps : List Int} {m p : Int} {q : Nat} (hp : ps[q]? = some p) : mapF ps m (q + 1) = stepF m p q (mapF ps m q) := by
  funext n
  unfold stepF
  have key : ∀ x : Int, fst1 x (ps.take (q + 1)) = if fst1 x (ps.take q) = none ∧ x = p then some q else fst1 x (ps.take q) := by
    intro x
    by_cases h : fst1 x (ps.take q) = none
    · by_cases e : x = p
      · rw [if_pos ⟨h, e⟩, fst1_take_some]
        subst e
        refine ⟨by omega, hp, fun i hi hx => ?_⟩
        have := (fst1_take (ps := ps) (n := x) (j := q)).2 ⟨i, hi, hx⟩
        rw [h] at this
        cases this
      · rw [if_neg (fun hh => e hh.2), h]
        cases h2 : fst1 x (ps.take (q + 1)) with
        | none => rfl
        | some i =>
          exfalso
          obtain ⟨h3, h4, -⟩ := fst1_take_some.1 h2
          by_cases hi : i = q
          · subst hi; rw [hp] at h4; exact e (Option.some.inj h4).symm
          · have := (fst1_take (ps := ps) (n := x) (j := q)).2 ⟨i, by omega, h4⟩
            rw [h] at this
            cases this
    · rw [if_neg (fun hh => h hh.1)]
      cases h2 : fst1 x (ps.take q) with
      | none => exact absurd h2 h
      | some i =>
        obtain ⟨h3, h4, h5⟩ := fst1_take_some.1 h2
        exact fst1_take_some.2 ⟨by omega, h4, h5⟩
  by_cases hc : 1 ≤ p ∧ p ≤ m ∧ mapF ps m q p = none
  · rw [if_pos hc]
    unfold putF
    by_cases e : n = p
    · subst e
      rw [if_pos rfl]
      have h1 := hc.2.2
      unfold mapF at h1 ⊢
      rw [if_pos ⟨hc.1, hc.2.1⟩] at h1
      rw [if_pos ⟨hc.1, hc.2.1⟩, key, if_pos ⟨h1, rfl⟩]
    · rw [if_neg e]
      unfold mapF
      by_cases hr : 1 ≤ n ∧ n ≤ m
      · rw [if_pos hr, if_pos hr, key, if_neg (fun h => e h.2)]
      · rw [if_neg hr, if_neg hr]
  · rw [if_neg hc]
    unfold mapF at hc ⊢
    by_cases hr : 1 ≤ n ∧ n ≤ m
    · rw [if_pos hr, if_pos hr, key]
      by_cases h : fst1 n (ps.take q) = none ∧ n = p
      · exfalso
        obtain ⟨h1, rfl⟩ := h
        exact hc ⟨hr.1, hr.2, by rw [if_pos hr]; exact h1⟩
      · rw [if_neg h]
    · rw [if_neg hr, if_neg hr]
theorem mapF_all (ps : List Int) (m : Int) (n : Int) : mapF ps m ps.length n = if 1 ≤ n ∧ n ≤ m then fst1 n ps else none := by
  unfold mapF
  rw [List.take_length]
/-- Behind an inode's pointers that have come. -/
def rowF (y : InoV) (m : Int) (j : Nat) (f : Int → Option Nat) (pre : List (Fin 5)) : Int → Option Nat := pre.foldl (fun f x => stepF m (ptr y x.1) (5 * j + x.1) f) f
theorem rowF_snoc (y : InoV) (m : Int) (j : Nat) (f : Int → Option Nat) (pre : List (Fin 5)) (x : Fin 5) : rowF y m j f (pre ++ [x]) = stepF m (ptr y x.1) (5 * j + x.1) (rowF y m j f pre) := by
  unfold rowF
  rw [List.foldl_append]
  rfl
theorem rowF_all {l : List InoV} {j : Nat} {y : InoV} (hy : l[j]? = some y) (m : Int) : rowF y m j (mapF (flatP l) m (5 * j)) (List.finRange 5) = mapF (flatP l) m (5 * (j + 1)) := by
  have h0 := mapF_succ (m := m) (flatP_ptr hy (k := 0) (by omega))
  have h1 := mapF_succ (m := m) (flatP_ptr hy (k := 1) (by omega))
  have h2 := mapF_succ (m := m) (flatP_ptr hy (k := 2) (by omega))
  have h3 := mapF_succ (m := m) (flatP_ptr hy (k := 3) (by omega))
  have h4 := mapF_succ (m := m) (flatP_ptr hy (k := 4) (by omega))
  have e : 5 * (j + 1) = 5 * j + 4 + 1 := by omega
  rw [e, h4, show 5 * j + 4 = 5 * j + 3 + 1 from rfl, h3, show 5 * j + 3 = 5 * j + 2 + 1 from rfl, h2, show 5 * j + 2 = 5 * j + 1 + 1 from rfl, h1, show 5 * j + 1 = 5 * j + 0 + 1 from rfl, h0]
  rfl
end Go.Proofs.Ytnllbdigpnopoaa
