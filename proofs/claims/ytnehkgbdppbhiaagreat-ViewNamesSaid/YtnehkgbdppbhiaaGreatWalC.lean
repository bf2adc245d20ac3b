/- walk: what was taken away is not there any more (layer 13). Nothing here speaks of a program. -/
import Derived.Test.YtnehkgbdppbhiaaGreatWalB
namespace Go.Proofs.YtnehkgbdppbhiaaGreat
open Go.RowKit Plain

theorem nodAt_get {ns : List NodV} {j : Nat} {n : NodV} (h : ns[j]? = some n) : nodAt ns ((j : Int) + 1) = n := by
  have hj := (List.getElem?_eq_some_iff.1 h).1
  unfold nodAt
  rw [if_pos (by omega), show ((j : Int) + 1 - 1).toNat = j from by omega, h]
  rfl
theorem nodAt_out {ns : List NodV} {i : Int} (h : ¬ (1 ≤ i ∧ i ≤ (ns.length : Int))) : nodAt ns i = nod0 := by unfold nodAt; rw [if_neg h]
theorem nodAt_in {ns : List NodV} {i : Int} (h : 1 ≤ i ∧ i ≤ (ns.length : Int)) : ∃ (j : Nat) (n : NodV), i = (j : Int) + 1 ∧ ns[j]? = some n ∧ nodAt ns i = n := by
  obtain ⟨j, hj⟩ := Int.eq_ofNat_of_zero_le (show 0 ≤ i - 1 by omega)
  have hl : j < ns.length := by omega
  refine ⟨j, ns[j], by omega, List.getElem?_eq_getElem hl, ?_⟩
  rw [show i = (j : Int) + 1 from by omega]
  exact nodAt_get (List.getElem?_eq_getElem hl)
theorem prune_len (ns : List NodV) (s : StW) : (pruneW ns s).length = ns.length := by simp [pruneW]
theorem prune_get {ns : List NodV} {s : StW} {j : Nat} {n : NodV} (h : ns[j]? = some n) : (pruneW ns s)[j]? = some (pruneN s.2 (reachW ns s.1 ((j : Int) + 1)) ((j : Int) + 1) n) := by
  unfold pruneW
  rw [List.getElem?_mapIdx, h]
  rfl
theorem pruneN_zero (t : List (Int × Nat)) (r : Bool) (i : Int) : pruneN t r i nod0 = nod0 := by
  unfold pruneN
  split <;> simp [nod0, keepE]
theorem prune_at (ns : List NodV) (s : StW) (i : Int) : nodAt (pruneW ns s) i = pruneN s.2 (reachW ns s.1 i) i (nodAt ns i) := by
  by_cases h : 1 ≤ i ∧ i ≤ (ns.length : Int)
  · obtain ⟨j, n, rfl, hn, e⟩ := nodAt_in h
    rw [e]
    exact nodAt_get (prune_get hn)
  · rw [nodAt_out h, nodAt_out (by rw [prune_len]; exact h), pruneN_zero]
theorem prune_dir (ns : List NodV) (s : StW) (i : Int) : isDir (pruneW ns s) i = (isDir ns i && reachW ns s.1 i) := by
  unfold isDir
  rw [prune_at]
  unfold pruneN
  cases reachW ns s.1 i <;> simp [nod0]
theorem reach_way {ns : List NodV} {l : List WayV} {y : WayV} (h : y ∈ l) : reachW ns l y.ino = true := by
  unfold reachW
  rw [List.any_eq_true]
  exact ⟨y, h, by simp⟩
theorem reach_ent {ns : List NodV} {l : List WayV} {y : WayV} {e : EntV} (h : y ∈ l) (he : e ∈ (nodAt ns y.ino).ents) : reachW ns l e.ino = true := by
  unfold reachW
  rw [List.any_eq_true]
  refine ⟨y, h, ?_⟩
  rw [Bool.or_eq_true, List.any_eq_true]
  exact .inr ⟨e, he, by simp⟩
theorem reach_mono {ns : List NodV} {l r : List WayV} {i : Int} (h : ∀ y ∈ l, y ∈ r) (hr : reachW ns l i = true) : reachW ns r i = true := by
  unfold reachW at hr ⊢
  rw [List.any_eq_true] at hr ⊢
  obtain ⟨y, hy, h1⟩ := hr
  exact ⟨y, h y hy, h1⟩
theorem filter_filter_comm {α : Type} (p q : α → Bool) (l : List α) : (l.filter p).filter q = (l.filter q).filter p := by
  simp only [List.filter_filter]
  congr 1
  funext x
  exact Bool.and_comm _ _
theorem map_filter_zip (q : EntV → Bool) : ∀ (l : List EntV) (k : Nat), ((l.zipIdx k).filter (fun x => q x.1)).map (fun x => x.1) = l.filter q
  | [], _ => rfl
  | x :: r, k => by
    rw [List.zipIdx_cons, List.filter_cons, List.filter_cons]
    show (if q x = true then _ else _ : List (EntV × Nat)).map _ = _
    cases q x
    · simpa using map_filter_zip q r (k + 1)
    · simpa using map_filter_zip q r (k + 1)
/-- The final state's entries, for the directories ahead of place p of a state on the way. -/
def AgreeW (p : Nat) (T : StW) (R : StW) : Prop := R.1 <+: T.1 ∧ ∀ q : Int × Nat, (∃ j y, j < p ∧ R.1[j]? = some y ∧ y.ino = q.1) → (q ∈ T.2 ↔ q ∈ R.2)
theorem AgreeW.back {ns : List NodV} {T s R : StW} {p m : Nat} (hA : AgreeW m T R) (ho : OkW ns R.1) (k : AddsW p s R) (hp : p ≤ m) : AgreeW p T s := by
  refine ⟨k.1.trans hA.1, ?_⟩
  rintro q ⟨j, y, h1, h2, h3⟩
  rw [hA.2 q ⟨j, y, by omega, pre_get k.1 h2, h3⟩]
  constructor
  · intro h
    rcases k.2.2 q h with h4 | ⟨i, z, h4, h5, h6⟩
    · exact h4
    · exfalso
      have := nodup_get ho.2 (pre_get k.1 h2) h5 (h3.trans h6.symm)
      omega
  · exact k.2.1 q
/-- One directory, in the layer without what was taken away. -/
theorem visit_sim {ns : List NodV} {T s : StW} {p : Nat} (ho : OkW ns s.1) (ha : AheadW p s) (hA : AgreeW (p + 1) T (visitW ns p s)) : visitW (pruneW ns T) p (s.1, []) = ((visitW ns p s).1, []) := by
  have hvp := visit_pre (ns := ns) (p := p) (s := s)
  unfold visitW at hA hvp ⊢
  show (match s.1[p]? with | none => _ | some y => _) = _
  cases hy : s.1[p]? with
  | none => rfl
  | some y =>
    rw [hy] at hA hvp
    have hym : y ∈ s.1 := List.mem_of_getElem? hy
    have hyT : y ∈ T.1 := hA.1.subset (hvp.subset hym)
    have hsim := fold_sim y.ino p (dirsOf ns (nodAt ns y.ino).ents) s (dirsOf_nodup _ _) (fun x _ => fresh_dir ho ha hy x.2)
    obtain ⟨R, hR⟩ : ∃ R, (dirsOf ns (nodAt ns y.ino).ents).foldl (oneW y.ino p) s = R := ⟨_, rfl⟩
    simp only [hR] at hA hsim hvp ⊢
    have hag : ∀ k, T.2.contains (y.ino, k) = R.2.contains (y.ino, k) := fun k => by
      have := hA.2 (y.ino, k) ⟨p, y, by omega, pre_get hvp hy, rfl⟩
      rw [Bool.eq_iff_iff, List.contains_iff_mem, List.contains_iff_mem]
      exact this
    have hents : (nodAt (pruneW ns T) y.ino).ents = keepE T.2 y.ino (nodAt ns y.ino).ents := by
      rw [prune_at]
      unfold pruneN
      rw [reach_way hyT]
      rfl
    rw [hents]
    have hmap : ((dirsOf ns (nodAt ns y.ino).ents).filter (fun x => !R.2.contains (y.ino, x.2))).map (fun x => x.1) = (dirsOf (pruneW ns T) (keepE T.2 y.ino (nodAt ns y.ino).ents)).map (fun x => x.1) := by
      unfold dirsOf
      rw [map_filter_zip (fun e => isDir (pruneW ns T) e.ino)]
      unfold keepE
      rw [List.filter_map]
      congr 1
      rw [filter_filter_comm]
      simp only [hag]
      apply List.filter_congr
      intro x hx
      have hxe : x.1 ∈ (nodAt ns y.ino).ents := by
        have := List.mem_map_of_mem (f := fun z : EntV × Nat => z.1) ((List.mem_filter.1 hx).1)
        simpa using this
      show isDir ns x.1.ino = isDir (pruneW ns T) x.1.ino
      rw [prune_dir, reach_ent hyT hxe, Bool.and_true]
    rw [fold_same y.ino p _ _ s.1 hmap (by rw [hsim.1])]
    exact hsim.1
theorem run_sim {ns : List NodV} {T : StW} : ∀ (f p : Nat) (s : StW), OkW ns s.1 → AheadW p s → p ≤ s.1.length → AgreeW (runW ns f p s).1.length T (runW ns f p s) → runW (pruneW ns T) f p (s.1, []) = ((runW ns f p s).1, [])
  | 0, _, _, _, _, _, _ => rfl
  | f + 1, p, s, ho, ha, hp, hA => by
    unfold runW at hA ⊢
    show (if p < s.1.length then _ else _) = _
    by_cases h : p < s.1.length
    · simp only [if_pos h] at hA ⊢
      obtain ⟨h1, h2⟩ := visit_adds (p := p) ho ha
      have ho' := visit_ok (p := p) ho
      have hl := h1.1.length_le
      have h3 := run_adds f (p + 1) _ ho' h2 (by omega)
      have hl3 := h3.1.1.length_le
      rw [visit_sim ho ha (hA.back (run_ok f (p + 1) _ ho') h3.1 (by omega))]
      exact run_sim f (p + 1) _ ho' h2 (by omega) hA
    · simp only [if_neg h]
theorem root_sim {ns : List NodV} {T s : StW} {i : Int} (ho : OkW ns s.1) (ha : AheadW s.1.length s) (hA : AgreeW (rootW ns s i).1.length T (rootW ns s i)) : rootW (pruneW ns T) (s.1, []) i = ((rootW ns s i).1, []) := by
  unfold rootW at hA ⊢
  rw [prune_dir, prune_len]
  show (if (_ && !cameW s.1 i) = true then _ else _) = _
  cases hd : isDir ns i with
  | false => simp
  | true =>
    cases hc : cameW s.1 i with
    | true => simp
    | false =>
      rw [hd, hc] at hA
      simp only [Bool.not_false, Bool.and_true, if_true, Bool.true_and] at hA ⊢
      have hpre : s.1 <+: s.1 ++ [⟨i, -1, []⟩] := List.prefix_append _ _
      have ha' : AheadW s.1.length (s.1 ++ [⟨i, -1, []⟩], s.2) := ha.adds (fun q h => .inl h) hpre (Nat.le_refl _)
      have hm : (⟨i, -1, []⟩ : WayV) ∈ T.1 := hA.1.subset ((run_pre _ _ _).subset (by simp))
      have hr : reachW ns T.1 i = true := reach_way hm
      rw [hr, if_pos rfl]
      exact run_sim (ns.length - s.1.length) s.1.length _ (ho.snoc (x := ⟨i, -1, []⟩) hd hc) ha' (by simp) hA
theorem fold_root {ns : List NodV} : ∀ (ff : List Int) (s : StW), OkW ns s.1 → AheadW s.1.length s → OkW ns (ff.foldl (rootW ns) s).1 ∧ AddsW s.1.length s (ff.foldl (rootW ns) s)
  | [], s, ho, _ => ⟨ho, AddsW.refl _ _⟩
  | i :: r, s, ho, ha => by
    obtain ⟨h1, h2⟩ := root_adds (i := i) ho ha
    obtain ⟨h3, h4⟩ := fold_root r _ (root_ok ho) h2
    exact ⟨h3, h1.trans h4 h1.1.length_le⟩
theorem fold_sim' {ns : List NodV} {T : StW} : ∀ (ff : List Int) (s : StW), OkW ns s.1 → AheadW s.1.length s → AgreeW (ff.foldl (rootW ns) s).1.length T (ff.foldl (rootW ns) s) → ff.foldl (rootW (pruneW ns T)) (s.1, []) = ((ff.foldl (rootW ns) s).1, [])
  | [], _, _, _, _ => rfl
  | i :: r, s, ho, ha, hA => by
    obtain ⟨h1, h2⟩ := root_adds (i := i) ho ha
    obtain ⟨h3, h4⟩ := fold_root r _ (root_ok (i := i) ho) h2
    simp only [List.foldl_cons] at hA ⊢
    rw [root_sim ho ha (hA.back h3 h4 h4.1.length_le)]
    exact fold_sim' r _ (root_ok ho) h2 hA
/-- The walk through what is left: the same ways, and nothing named twice. -/
theorem prune_walk (ns : List NodV) (ff : List Int) : walkW (pruneW ns (walkW ns ff)) ff = ((walkW ns ff).1, []) :=
  fold_sim' ff ([], []) (OkW.nil_ ns) (fun q h => (by cases h)) ⟨List.prefix_refl _, fun _ _ => Iff.rfl⟩

/-! Pruned again it is the same. -/
/-- What stands where an entry brought none. -/
def ComesW (ns : List NodV) (s : StW) : Prop := ∀ q ∈ s.2, ∃ e, (nodAt ns q.1).ents[q.2]? = some e ∧ ∃ y ∈ s.1, y.ino = e.ino
theorem ComesW.pre {ns : List NodV} {l r : List WayV} {t : List (Int × Nat)} (h : ComesW ns (l, t)) (hp : l <+: r) : ComesW ns (r, t) := fun q hq => by
  obtain ⟨e, h1, y, h2, h3⟩ := h q hq
  exact ⟨e, h1, y, hp.subset h2, h3⟩
theorem one_comes {ns : List NodV} {d : Int} {p : Nat} {s : StW} {x : EntV × Nat} (h : ComesW ns s) (hx : (nodAt ns d).ents[x.2]? = some x.1) : ComesW ns (oneW d p s x) := by
  unfold oneW
  cases hc : cameW s.1 x.1.ino with
  | true =>
    rw [if_pos rfl]
    intro q hq
    rcases List.mem_append.1 hq with h1 | h1
    · exact h q h1
    · rw [List.mem_singleton] at h1
      subst h1
      exact ⟨x.1, hx, came_iff.1 hc⟩
  | false => exact ComesW.pre (l := s.1) h (List.prefix_append _ _)
theorem visit_comes {ns : List NodV} {p : Nat} {s : StW} (h : ComesW ns s) : ComesW ns (visitW ns p s) := by
  unfold visitW
  split
  · exact h
  · refine foldl_keep (P := fun s : StW => ComesW ns s) _ _ h (fun s x hx hs => one_comes hs ?_)
    have := List.mem_zipIdx_iff_getElem?.1 (List.mem_filter.1 hx).1
    exact this
theorem run_comes {ns : List NodV} : ∀ (f p : Nat) (s : StW), ComesW ns s → ComesW ns (runW ns f p s)
  | 0, _, _, h => h
  | f + 1, p, s, h => by
    unfold runW
    split
    · exact run_comes f _ _ (visit_comes h)
    · exact h
theorem walk_comes (ns : List NodV) (ff : List Int) : ComesW ns (walkW ns ff) := by
  refine foldl_keep (P := fun s : StW => ComesW ns s) _ _ (fun q h => (by cases h)) (fun s i _ hs => ?_)
  unfold rootW
  split
  · exact run_comes _ _ _ (ComesW.pre (l := s.1) hs (List.prefix_append _ _))
  · exact hs
theorem keep_none (i : Int) (l : List EntV) : keepE [] i l = l := by
  unfold keepE
  rw [List.filter_eq_self.2 (by simp)]
  simp
theorem keep_mem {t : List (Int × Nat)} {i : Int} {l : List EntV} {k : Nat} {e : EntV} (h : l[k]? = some e) (ht : (i, k) ∉ t) : e ∈ keepE t i l := by
  unfold keepE
  refine List.mem_map.2 ⟨(e, k), List.mem_filter.2 ⟨List.mem_zipIdx_iff_getElem?.2 h, by simpa using ht⟩, rfl⟩
theorem reach_pruned {ns : List NodV} {ff : List Int} {i : Int} (h : reachW ns (walkW ns ff).1 i = true) : reachW (pruneW ns (walkW ns ff)) (walkW ns ff).1 i = true := by
  have hr := h
  unfold reachW at hr
  rw [List.any_eq_true] at hr
  obtain ⟨y, hy, h1⟩ := hr
  rw [Bool.or_eq_true, beq_iff_eq, List.any_eq_true] at h1
  rcases h1 with rfl | ⟨e, he, h2⟩
  · exact reach_way hy
  · rw [beq_iff_eq] at h2
    subst h2
    obtain ⟨k, hk, hke⟩ := List.mem_iff_getElem.1 he
    have hk' : (nodAt ns y.ino).ents[k]? = some e := by rw [List.getElem?_eq_getElem hk, hke]
    by_cases ht : (y.ino, k) ∈ (walkW ns ff).2
    · obtain ⟨e', h3, z, h4, h5⟩ := walk_comes ns ff _ ht
      rw [hk'] at h3
      cases Option.some.inj h3
      rw [← h5]
      exact reach_way h4
    · refine reach_ent hy ?_
      rw [prune_at, reach_way hy]
      exact keep_mem hk' ht
theorem prune_prune (ns : List NodV) (ff : List Int) : pruneW (pruneW ns (walkW ns ff)) (walkW (pruneW ns (walkW ns ff)) ff) = pruneW ns (walkW ns ff) := by
  rw [prune_walk]
  apply List.ext_getElem?
  intro j
  by_cases hj : j < ns.length
  · have hn : ns[j]? = some ns[j] := List.getElem?_eq_getElem hj
    rw [prune_get (prune_get hn), prune_get hn]
    congr 1
    cases hr : reachW ns (walkW ns ff).1 ((j : Int) + 1) with
    | true =>
      rw [reach_pruned hr]
      unfold pruneN
      simp only [if_true, keep_none]
    | false =>
      rw [show pruneN (walkW ns ff).2 false ((j : Int) + 1) ns[j] = nod0 from rfl, pruneN_zero]
  · rw [List.getElem?_eq_none (by rw [prune_len, prune_len]; omega), List.getElem?_eq_none (by rw [prune_len]; omega)]
end Go.Proofs.YtnehkgbdppbhiaaGreat
