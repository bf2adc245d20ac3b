/- Sorted texts (layer 3): the order of texts, that sorting makes each text stand once, rising, and that there is but one such list. Nothing here speaks of a program. -/
import Derived.Test.YtnehkgbdppbhiaaSortP
namespace Go.Proofs.Ytnehkgbdppbhiaa.Plain
theorem less_irrefl (a : List UInt8) : lessS a a = false := by
  unfold lessS
  induction a with
  | nil => simp [Op.bytesLess]
  | cons x r ih => simp [Op.bytesLess, ih]
theorem less_trans {a b c : List UInt8} (h1 : lessS a b = true) (h2 : lessS b c = true) : lessS a c = true := by
  unfold lessS at *
  induction a generalizing b c with
  | nil =>
    cases b with
    | nil => simp [Op.bytesLess] at h1
    | cons y s => cases c with
      | nil => simp [Op.bytesLess] at h2
      | cons z t => simp [Op.bytesLess]
  | cons x r ih =>
    cases b with
    | nil => simp [Op.bytesLess] at h1
    | cons y s => cases c with
      | nil => simp [Op.bytesLess] at h2
      | cons z t =>
        simp only [Op.bytesLess, Bool.or_eq_true, Bool.and_eq_true, decide_eq_true_eq, beq_iff_eq] at h1 h2 ⊢
        rcases h1 with h1 | ⟨rfl, h1⟩
        · rcases h2 with h2 | ⟨rfl, h2⟩
          · left; exact UInt8.lt_trans h1 h2
          · left; exact h1
        · rcases h2 with h2 | ⟨rfl, h2⟩
          · left; exact h2
          · right; exact ⟨rfl, ih h1 h2⟩
theorem less_total {a b : List UInt8} (h1 : lessS a b = false) (h2 : lessS b a = false) : a = b := by
  unfold lessS at *
  induction a generalizing b with
  | nil =>
    cases b with
    | nil => rfl
    | cons y s => simp [Op.bytesLess] at h1
  | cons x r ih =>
    cases b with
    | nil => simp [Op.bytesLess] at h2
    | cons y s =>
      simp only [Op.bytesLess, Bool.or_eq_false_iff, Bool.and_eq_false_iff, decide_eq_false_iff_not, beq_eq_false_iff_ne] at h1 h2
      have hxy : x = y := by
        apply UInt8.toNat_inj.1
        have a1 : ¬ x.toNat < y.toNat := fun h => h1.1 (UInt8.lt_iff_toNat_lt.2 h)
        have a2 : ¬ y.toNat < x.toNat := fun h => h2.1 (UInt8.lt_iff_toNat_lt.2 h)
        omega
      subst hxy
      congr 1
      apply ih
      · rcases h1.2 with h | h
        · exact absurd rfl h
        · exact h
      · rcases h2.2 with h | h
        · exact absurd rfl h
        · exact h
theorem less_asymm {a b : List UInt8} (h : lessS a b = true) : lessS b a = false := by
  cases h2 : lessS b a with
  | false => rfl
  | true => have := less_trans h h2; rw [less_irrefl] at this; cases this
/-- Each once, rising. -/
def Rising (l : List (List UInt8)) : Prop := l.Pairwise fun a b => lessS a b = true
theorem rising_eq {l k : List (List UInt8)} (hl : Rising l) (hk : Rising k) (h : ∀ y, y ∈ l ↔ y ∈ k) : l = k := by
  induction l generalizing k with
  | nil =>
    cases k with
    | nil => rfl
    | cons y s => exact absurd ((h y).2 (List.mem_cons_self)) (by simp)
  | cons x r ih =>
    cases k with
    | nil => exact absurd ((h x).1 (List.mem_cons_self)) (by simp)
    | cons y s =>
      have hx := List.pairwise_cons.1 hl
      have hy := List.pairwise_cons.1 hk
      have hxy : x = y := by
        rcases List.mem_cons.1 ((h x).1 List.mem_cons_self) with e | e
        · exact e
        · rcases List.mem_cons.1 ((h y).2 List.mem_cons_self) with e2 | e2
          · exact e2.symm
          · have h1 := hy.1 x e
            have h2 := hx.1 y e2
            rw [less_asymm h1] at h2
            cases h2
      subst hxy
      congr 1
      refine ih hx.2 hy.2 fun z => ?_
      have hz := h z
      constructor
      · intro hm
        rcases List.mem_cons.1 (hz.1 (List.mem_cons_of_mem _ hm)) with e | e
        · subst e; have := hx.1 z hm; rw [less_irrefl] at this; cases this
        · exact e
      · intro hm
        rcases List.mem_cons.1 (hz.2 (List.mem_cons_of_mem _ hm)) with e | e
        · subst e; have := hy.1 z hm; rw [less_irrefl] at this; cases this
        · exact e
theorem pos_spec (x : List UInt8) (o : List (List UInt8)) : (∀ y ∈ o.take (posS x o), lessS y x = true) ∧ (∀ y, o[posS x o]? = some y → lessS y x = false) := by
  unfold posS
  induction o with
  | nil => simp
  | cons y r ih =>
    rw [List.takeWhile_cons]
    cases h : lessS y x with
    | false =>
      simp only [Bool.false_eq_true, if_false, List.length_nil, List.take_zero, List.not_mem_nil, false_imp_iff, implies_true, true_and, List.getElem?_cons_zero, Option.some.injEq]
      intro z e; rw [← e]; exact h
    | true =>
      simp only [if_true, List.length_cons, List.take_succ_cons, List.mem_cons, List.getElem?_cons_succ]
      refine ⟨fun z hz => ?_, ih.2⟩
      rcases hz with rfl | hz
      · exact h
      · exact ih.1 z hz
theorem ins_rising {x : List UInt8} {o : List (List UInt8)} (ho : Rising o) : Rising (insS x o) ∧ ∀ y, y ∈ insS x o ↔ y = x ∨ y ∈ o := by
  obtain ⟨h1, h2⟩ := pos_spec x o
  have hsplit : o.take (posS x o) ++ o.drop (posS x o) = o := List.take_append_drop _ _
  unfold insS
  split
  · rename_i he
    refine ⟨ho, fun y => ⟨fun hy => .inr hy, fun hy => ?_⟩⟩
    rcases hy with rfl | hy
    · exact List.mem_of_getElem? he
    · exact hy
  · rename_i he
    have hd : ∀ y ∈ o.drop (posS x o), lessS x y = true := by
      cases hdr : o.drop (posS x o) with
      | nil => intro y hy; cases hy
      | cons z t =>
        have hz : o[posS x o]? = some z := by
          have : (o.drop (posS x o))[0]? = some z := by rw [hdr]; rfl
          rwa [List.getElem?_drop, Nat.add_zero] at this
        have hzx := h2 z hz
        have hne : z ≠ x := by intro e; apply he; rw [hz, e]
        have hxz : lessS x z = true := by
          cases hh : lessS x z with
          | true => rfl
          | false => exact absurd (less_total hzx hh) hne
        have hpw : Rising (z :: t) := by
          have : Rising (o.drop (posS x o)) := List.Pairwise.sublist (List.drop_sublist _ _) ho
          rwa [hdr] at this
        intro y hy
        rcases List.mem_cons.1 hy with rfl | hy
        · exact hxz
        · exact less_trans hxz ((List.pairwise_cons.1 hpw).1 y hy)
    refine ⟨?_, fun y => ?_⟩
    · refine List.pairwise_append.2 ⟨List.Pairwise.sublist (List.take_sublist _ _) ho, List.pairwise_cons.2 ⟨hd, List.Pairwise.sublist (List.drop_sublist _ _) ho⟩, fun a ha b hb => ?_⟩
      rcases List.mem_cons.1 hb with rfl | hb
      · exact h1 a ha
      · exact less_trans (h1 a ha) (hd b hb)
    · rw [List.mem_append, List.mem_cons]
      conv => rhs; rw [← hsplit, List.mem_append]
      constructor
      · rintro (h | h | h)
        · exact .inr (.inl h)
        · exact .inl h
        · exact .inr (.inr h)
      · rintro (h | h | h)
        · exact .inr (.inl h)
        · exact .inl h
        · exact .inr (.inr h)
theorem sortS_rising (l : List (List UInt8)) : Rising (sortS l) ∧ ∀ y, y ∈ sortS l ↔ y ∈ l := by
  suffices h : ∀ (l o : List (List UInt8)), Rising o → Rising (l.foldl (fun o x => insS x o) o) ∧ ∀ y, y ∈ l.foldl (fun o x => insS x o) o ↔ y ∈ o ∨ y ∈ l by
    have := h l [] List.Pairwise.nil
    refine ⟨this.1, fun y => ?_⟩
    have := this.2 y
    simpa [sortS] using this
  intro l
  induction l with
  | nil => intro o ho; exact ⟨ho, fun y => by simp⟩
  | cons x r ih =>
    intro o ho
    obtain ⟨a1, a2⟩ := ins_rising (x := x) ho
    obtain ⟨b1, b2⟩ := ih _ a1
    refine ⟨b1, fun y => ?_⟩
    rw [List.foldl_cons, b2, a2, List.mem_cons]
    constructor
    · rintro ((h | h) | h)
      · exact .inr (.inl h)
      · exact .inl h
      · exact .inr (.inr h)
    · rintro (h | h | h)
      · exact .inl (.inr h)
      · exact .inl (.inl h)
      · exact .inr h
theorem sortS_unique {l k : List (List UInt8)} (hk : Rising k) (h : ∀ y, y ∈ k ↔ y ∈ l) : k = sortS l :=
  rising_eq hk (sortS_rising l).1 fun y => (h y).trans ((sortS_rising l).2 y).symm
theorem sortS_sortS (l : List (List UInt8)) : sortS (sortS l) = sortS l :=
  (sortS_unique (sortS_rising l).1 fun _ => Iff.rfl).symm
theorem rising_adj {l : List (List UInt8)} (h : Rising l) (i : Nat) (hi : i + 1 < l.length) : lessS (l.getD (i + 1) []) (l.getD i []) = false := by
  simp only [List.getD]
  rw [List.getElem?_eq_getElem hi, List.getElem?_eq_getElem (by omega)]
  exact less_asymm (List.pairwise_iff_getElem.1 h i (i + 1) (by omega) hi (by omega))
end Go.Proofs.Ytnehkgbdppbhiaa.Plain
