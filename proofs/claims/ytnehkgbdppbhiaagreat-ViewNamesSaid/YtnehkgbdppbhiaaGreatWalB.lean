/- walk: the mathematics of what is taken away (layer 13). Nothing here speaks of a program. -/
import Derived.Test.YtnehkgbdppbhiaaGreatWalA
namespace Go.Proofs.YtnehkgbdppbhiaaGreat
open Go.RowKit Plain

theorem run_tw {ns : List NodV} (h : Many ns) : ∀ (f p : Nat) (s : StW), p ≤ s.1.length → s.2.length ≤ 16 * p → (runW ns f p s).2.length ≤ 16 * (runW ns f p s).1.length
  | 0, p, s, h1, h2 => by show s.2.length ≤ 16 * s.1.length; omega
  | f + 1, p, s, h1, h2 => by
    unfold runW
    split
    · have h3 := visit_tw h p s
      have h4 := (visit_pre (ns := ns) (p := p) (s := s)).length_le
      exact run_tw h f _ _ (by omega) (by omega)
    · omega
theorem root_tw {ns : List NodV} (h : Many ns) {s : StW} {i : Int} (hs : s.2.length ≤ 16 * s.1.length) : (rootW ns s i).2.length ≤ 16 * (rootW ns s i).1.length := by
  unfold rootW
  split
  · exact run_tw h _ _ _ (by simp) (by simpa using hs)
  · exact hs
theorem walk_tw {ns : List NodV} (h : Many ns) (ff : List Int) : (walkW ns ff).2.length ≤ 16 * (walkW ns ff).1.length := foldl_keep (P := fun s : StW => s.2.length ≤ 16 * s.1.length) _ _ (by simp) (fun _ _ _ hs => root_tw h hs)

/-! What is reached, and what is taken away. -/
def reachW (ns : List NodV) (l : List WayV) (i : Int) : Bool := l.any (fun y => y.ino == i || (nodAt ns y.ino).ents.any (fun e => e.ino == i))
def keepE (t : List (Int × Nat)) (i : Int) (l : List EntV) : List EntV := (l.zipIdx.filter (fun x => !t.contains (i, x.2))).map (fun x => x.1)
def pruneN (t : List (Int × Nat)) (r : Bool) (i : Int) (n : NodV) : NodV := if r then { n with ents := keepE t i n.ents } else nod0
def pruneW (ns : List NodV) (s : StW) : List NodV := ns.mapIdx (fun j n => pruneN s.2 (reachW ns s.1 ((j : Int) + 1)) ((j : Int) + 1) n)

theorem fold_sim (d : Int) (p : Nat) : ∀ (xs : List (EntV × Nat)) (s : StW), (xs.map (fun x => x.2)).Nodup → (∀ x ∈ xs, (d, x.2) ∉ s.2) →
    (xs.filter (fun x => !(xs.foldl (oneW d p) s).2.contains (d, x.2))).foldl (oneW d p) (s.1, []) = ((xs.foldl (oneW d p) s).1, []) ∧ (∀ q ∈ s.2, q ∈ (xs.foldl (oneW d p) s).2) ∧ (∀ q ∈ (xs.foldl (oneW d p) s).2, q ∈ s.2 ∨ ∃ x ∈ xs, q = (d, x.2)) := by
  intro xs
  induction xs with
  | nil => intro s _ _; exact ⟨rfl, fun q h => h, fun q h => .inl h⟩
  | cons x r ih =>
    intro s hn hs
    rw [List.map_cons, List.nodup_cons] at hn
    have hx : ∀ y ∈ r, y.2 ≠ x.2 := fun y hy e => hn.1 (by rw [← e]; exact List.mem_map_of_mem hy)
    simp only [List.foldl_cons]
    cases hc : cameW s.1 x.1.ino with
    | true =>
      have h1 : oneW d p s x = (s.1, s.2 ++ [(d, x.2)]) := by unfold oneW; rw [if_pos hc]
      rw [h1]
      obtain ⟨i1, i2, i3⟩ := ih (s.1, s.2 ++ [(d, x.2)]) hn.2 (fun y hy h => by
        rcases List.mem_append.1 h with h | h
        · exact hs y (List.mem_cons_of_mem _ hy) h
        · rw [List.mem_singleton] at h; exact hx y hy (Prod.mk.inj h).2)
      have hm : (d, x.2) ∈ (List.foldl (oneW d p) (s.1, s.2 ++ [(d, x.2)]) r).2 := i2 _ (by simp)
      refine ⟨?_, fun q hq => i2 q (List.mem_append_left _ hq), fun q hq => ?_⟩
      · rw [List.filter_cons_of_neg (by simpa using hm)]
        exact i1
      · rcases i3 q hq with h | ⟨y, hy, e⟩
        · rcases List.mem_append.1 h with h | h
          · exact .inl h
          · rw [List.mem_singleton] at h; exact .inr ⟨x, List.mem_cons_self, h⟩
        · exact .inr ⟨y, List.mem_cons_of_mem _ hy, e⟩
    | false =>
      have h1 : oneW d p s x = (s.1 ++ [⟨x.1.ino, p, x.1.name⟩], s.2) := by unfold oneW; rw [hc]; rfl
      rw [h1]
      obtain ⟨i1, i2, i3⟩ := ih (s.1 ++ [⟨x.1.ino, p, x.1.name⟩], s.2) hn.2 (fun y hy => hs y (List.mem_cons_of_mem _ hy))
      have hm : (d, x.2) ∉ (List.foldl (oneW d p) (s.1 ++ [⟨x.1.ino, p, x.1.name⟩], s.2) r).2 := by
        intro h
        rcases i3 _ h with h | ⟨y, hy, e⟩
        · exact hs x List.mem_cons_self h
        · exact hx y hy (Prod.mk.inj e).2.symm
      refine ⟨?_, i2, fun q hq => ?_⟩
      · rw [List.filter_cons_of_pos (by simpa using hm), List.foldl_cons]
        have h2 : oneW d p (s.1, []) x = (s.1 ++ [⟨x.1.ino, p, x.1.name⟩], []) := by unfold oneW; rw [show (s.1, ([] : List (Int × Nat))).1 = s.1 from rfl, hc]; rfl
        rw [h2]
        exact i1
      · rcases i3 q hq with h | ⟨y, hy, e⟩
        · exact .inl h
        · exact .inr ⟨y, List.mem_cons_of_mem _ hy, e⟩
theorem one_more (d : Int) (p : Nat) (l : List WayV) (t : List (Int × Nat)) : ∀ (xs : List (EntV × Nat)) (s : StW), s.2 ≠ [] → (xs.foldl (oneW d p) s).2 ≠ []
  | [], _, h => h
  | x :: r, s, h => one_more d p l t r _ (by unfold oneW; split <;> simp [h])
/-- Where none was come to already, the entries' places play no part. -/
theorem fold_same (d : Int) (p : Nat) : ∀ (xs ys : List (EntV × Nat)) (l : List WayV), xs.map (fun x => x.1) = ys.map (fun x => x.1) → (xs.foldl (oneW d p) (l, [])).2 = [] → ys.foldl (oneW d p) (l, []) = xs.foldl (oneW d p) (l, []) := by
  intro xs
  induction xs with
  | nil =>
    intro ys l h _
    have : ys = [] := by cases ys with | nil => rfl | cons y r => simp at h
    rw [this]
  | cons x r ih =>
    intro ys l h h0
    cases ys with
    | nil => simp at h
    | cons y q =>
      simp only [List.map_cons, List.cons.injEq] at h
      simp only [List.foldl_cons] at h0 ⊢
      cases hc : cameW l x.1.ino with
      | true =>
        exfalso
        refine one_more d p [] [] r (oneW d p (l, []) x) ?_ h0
        unfold oneW
        simp [hc]
      | false =>
        have h1 : oneW d p (l, []) x = (l ++ [⟨x.1.ino, p, x.1.name⟩], []) := by unfold oneW; simp [hc]
        have h2 : oneW d p (l, []) y = (l ++ [⟨x.1.ino, p, x.1.name⟩], []) := by unfold oneW; rw [← h.1]; simp [hc]
        rw [h1] at h0 ⊢
        rw [h2]
        exact ih q _ h.2 h0

/-! Where the entries stand that brought none. -/
/-- All of them stand in directories ahead of place p. -/
def AheadW (p : Nat) (s : StW) : Prop := ∀ q ∈ s.2, ∃ j y, j < p ∧ s.1[j]? = some y ∧ y.ino = q.1
/-- Behind place p none but those of directories from p on come to them. -/
def AddsW (p : Nat) (s r : StW) : Prop := s.1 <+: r.1 ∧ (∀ q ∈ s.2, q ∈ r.2) ∧ ∀ q ∈ r.2, q ∈ s.2 ∨ ∃ j y, p ≤ j ∧ r.1[j]? = some y ∧ y.ino = q.1
theorem AddsW.refl (p : Nat) (s : StW) : AddsW p s s := ⟨List.prefix_refl _, fun _ h => h, fun _ h => .inl h⟩
theorem pre_get {l r : List WayV} {j : Nat} {y : WayV} (h : l <+: r) (hy : l[j]? = some y) : r[j]? = some y := by
  obtain ⟨t, rfl⟩ := h
  rw [List.getElem?_append_left (List.getElem?_eq_some_iff.1 hy).1]
  exact hy
theorem AddsW.trans {p p' : Nat} {s r u : StW} (h : AddsW p s r) (k : AddsW p' r u) (hp : p ≤ p') : AddsW p s u := by
  refine ⟨h.1.trans k.1, fun q hq => k.2.1 q (h.2.1 q hq), fun q hq => ?_⟩
  rcases k.2.2 q hq with h1 | ⟨j, y, h1, h2, h3⟩
  · rcases h.2.2 q h1 with h1 | ⟨j, y, h1, h2, h3⟩
    · exact .inl h1
    · exact .inr ⟨j, y, h1, pre_get k.1 h2, h3⟩
  · exact .inr ⟨j, y, by omega, h2, h3⟩
theorem AheadW.mono {p p' : Nat} {s : StW} (h : AheadW p s) (hp : p ≤ p') : AheadW p' s := fun q hq => by
  obtain ⟨j, y, h1, h2, h3⟩ := h q hq
  exact ⟨j, y, by omega, h2, h3⟩
theorem AheadW.adds {p p' : Nat} {s r : StW} (h : AheadW p s) (k : ∀ q ∈ r.2, q ∈ s.2 ∨ ∃ j y, j < p' ∧ r.1[j]? = some y ∧ y.ino = q.1) (hs : s.1 <+: r.1) (hp : p ≤ p') : AheadW p' r := fun q hq => by
  rcases k q hq with h1 | h1
  · obtain ⟨j, y, h2, h3, h4⟩ := h q h1
    exact ⟨j, y, by omega, pre_get hs h3, h4⟩
  · exact h1
theorem dirsOf_nodup (ns : List NodV) (l : List EntV) : ((dirsOf ns l).map (fun x => x.2)).Nodup := by
  unfold dirsOf
  refine List.Nodup.sublist ((List.filter_sublist).map _) ?_
  rw [List.zipIdx_map_snd]
  exact List.nodup_range'
theorem nodup_get {l : List WayV} (h : (l.map WayV.ino).Nodup) {i j : Nat} {x y : WayV} (hx : l[i]? = some x) (hy : l[j]? = some y) (e : x.ino = y.ino) : i = j := by
  have h1 : (l.map WayV.ino)[i]? = some x.ino := by rw [List.getElem?_map, hx]; rfl
  have h2 : (l.map WayV.ino)[j]? = some x.ino := by rw [List.getElem?_map, hy, e]; rfl
  obtain ⟨hi, h3⟩ := List.getElem?_eq_some_iff.1 h1
  obtain ⟨hj, h4⟩ := List.getElem?_eq_some_iff.1 h2
  have hp := List.pairwise_iff_getElem.1 h
  rcases Nat.lt_trichotomy i j with hlt | he | hgt
  · exact absurd (h3.trans h4.symm) (hp i j hi hj hlt)
  · exact he
  · exact absurd (h4.trans h3.symm) (hp j i hj hi hgt)
theorem fresh_dir {ns : List NodV} {p : Nat} {s : StW} {y : WayV} (ho : OkW ns s.1) (ha : AheadW p s) (hy : s.1[p]? = some y) (k : Nat) : (y.ino, k) ∉ s.2 := by
  intro h
  obtain ⟨j, z, h1, h2, h3⟩ := ha _ h
  have := nodup_get ho.2 h2 hy h3
  omega
theorem visit_adds {ns : List NodV} {p : Nat} {s : StW} (ho : OkW ns s.1) (ha : AheadW p s) : AddsW p s (visitW ns p s) ∧ AheadW (p + 1) (visitW ns p s) := by
  unfold visitW
  cases hy : s.1[p]? with
  | none => exact ⟨AddsW.refl _ _, ha.mono (by omega)⟩
  | some y =>
    have hsim := fold_sim y.ino p (dirsOf ns (nodAt ns y.ino).ents) s (dirsOf_nodup _ _) (fun x _ => fresh_dir ho ha hy x.2)
    have hpre : s.1 <+: ((dirsOf ns (nodAt ns y.ino).ents).foldl (oneW y.ino p) s).1 := foldl_keep (P := fun t : StW => s.1 <+: t.1) _ _ (List.prefix_refl _) (fun _ _ _ hs => hs.trans one_pre)
    have hq : ∀ q ∈ ((dirsOf ns (nodAt ns y.ino).ents).foldl (oneW y.ino p) s).2, q ∈ s.2 ∨ (((dirsOf ns (nodAt ns y.ino).ents).foldl (oneW y.ino p) s).1[p]? = some y ∧ y.ino = q.1) := fun q hq => by
      rcases hsim.2.2 q hq with h | ⟨x, _, rfl⟩
      · exact .inl h
      · exact .inr ⟨pre_get hpre hy, rfl⟩
    refine ⟨⟨hpre, hsim.2.1, fun q h => ?_⟩, ha.adds (fun q h => ?_) hpre (by omega)⟩
    · rcases hq q h with h1 | ⟨h1, h2⟩
      · exact .inl h1
      · exact .inr ⟨p, y, Nat.le_refl _, h1, h2⟩
    · rcases hq q h with h1 | ⟨h1, h2⟩
      · exact .inl h1
      · exact .inr ⟨p, y, by omega, h1, h2⟩
theorem run_adds {ns : List NodV} : ∀ (f p : Nat) (s : StW), OkW ns s.1 → AheadW p s → p ≤ s.1.length → AddsW p s (runW ns f p s) ∧ AheadW (runW ns f p s).1.length (runW ns f p s)
  | 0, p, s, _, ha, hp => ⟨AddsW.refl _ _, ha.mono hp⟩
  | f + 1, p, s, ho, ha, hp => by
    unfold runW
    split
    · obtain ⟨h1, h2⟩ := visit_adds ho ha
      have h3 := run_adds f (p + 1) _ (visit_ok (p := p) ho) h2 (by have := h1.1.length_le; omega)
      exact ⟨h1.trans h3.1 (by omega), h3.2⟩
    · exact ⟨AddsW.refl _ _, ha.mono hp⟩
theorem root_adds {ns : List NodV} {s : StW} {i : Int} (ho : OkW ns s.1) (ha : AheadW s.1.length s) : AddsW s.1.length s (rootW ns s i) ∧ AheadW (rootW ns s i).1.length (rootW ns s i) := by
  unfold rootW
  split
  · rename_i hc
    rw [Bool.and_eq_true, Bool.not_eq_true'] at hc
    have hpre : s.1 <+: s.1 ++ [⟨i, -1, []⟩] := List.prefix_append _ _
    have ha' : AheadW s.1.length (s.1 ++ [⟨i, -1, []⟩], s.2) := ha.adds (fun q h => .inl h) hpre (Nat.le_refl _)
    obtain ⟨h1, h2⟩ := run_adds (ns.length - s.1.length) s.1.length _ (ho.snoc (x := ⟨i, -1, []⟩) hc.1 hc.2) ha' (by simp)
    exact ⟨AddsW.trans (s := s) (r := (s.1 ++ [⟨i, -1, []⟩], s.2)) ⟨hpre, fun _ h => h, fun _ h => .inl h⟩ h1 (Nat.le_refl _), h2⟩
  · exact ⟨AddsW.refl _ _, ha⟩
end Go.Proofs.YtnehkgbdppbhiaaGreat
