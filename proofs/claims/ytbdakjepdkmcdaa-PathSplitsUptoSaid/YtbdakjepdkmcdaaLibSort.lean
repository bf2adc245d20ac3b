/- Contracts of slices.Clone, slices.Sort and slices.Compact at strings, in the words of rows of the call's own; and of the program's name.Sort. -/
import Derived.Test.YtbdakjepdkmcdaaShelf
import Derived.Test.YtbdakjepdkmcdaaLibStr
import Derived.Test.YtbdakjepdkmcdaaSortR
import Derived.Sort.OwnSorted
import Derived.Lib.RowBridge
namespace Go.Proofs.Ytbdakjepdkmcdaa
open Go.RowKit Go.Sort Plain

theorem CloneS_any {A : Option Addr} {m c B : Nat} {l : List (List UInt8)} (w : World) (ha : Rd st w B A m l) (hm : m ≤ 1000000) :
    Calls Try.prog 36 #[.slice A m c] w (ORet st w 9 m l) := by
  by_cases h0 : m = 0
  · subst h0
    obtain rfl : l = [] := List.eq_nil_of_length_eq_zero ha.len
    cases A with
    | none =>
      refine (Try.slices_Clone_string_nil 0 c w).mono ?_
      rintro e w' ⟨rfl, rfl⟩
      exact (Ow.nil_ st _ _ _).ret (below_self _)
    | some a =>
      refine (Try.slices_Clone_string_zero a c w).mono ?_
      rintro e w' ⟨v, rfl, hown, _, hbel⟩
      obtain ⟨A', c', rfl, ho⟩ := Ow.of (f := st) (l := []) hown
      exact ho.ret hbel
  · obtain ⟨b, o, rfl, _, hc⟩ := ha.2 (by omega)
    have hl := ha.len
    have hlen : (l.map fun x => (⟨x.toArray⟩ : ByteArray)).length = m := by simp [hl]
    refine (Try.slices_Clone_string b o m c (l.map fun x => ⟨x.toArray⟩) w (by omega) (by omega) (fun j hj => ?_)).mono ?_
    · rw [hc j (l[j]'(by omega)) (List.getElem?_eq_getElem (by omega))]
      simp [st, List.getD, show j < l.length by omega]
    · rintro e w' ⟨v, rfl, hown, _, hbel⟩
      have hmap : ((l.map fun x => (⟨x.toArray⟩ : ByteArray)).take m).map (Value.string) = l.map st := by
        rw [List.take_of_length_le (by omega), List.map_map]
        rfl
      rw [hmap] at hown
      obtain ⟨A', c', rfl, ho⟩ := Ow.of (f := st) hown
      exact ho.ret hbel

theorem SortS_own {base g n c : Nat} {l : List (List UInt8)} (w : World) (h : Ow st w base 9 (some ⟨g, 0, none⟩) n c l) (hn : n ≤ 1000000) :
    Calls Try.prog 37 #[.slice (some ⟨g, 0, none⟩) n c] w fun e w' => e = .returned (.tuple #[]) ∧ Ow st w' base 9 (some ⟨g, 0, none⟩) n c (l.mergeSort fun x y => decide (x ≤ y)) ∧ w.grownBy w' (some g) := by
  have hl := h.len
  rcases h.2 with ⟨h0, _⟩ | ⟨g', cap, cur, he, hbase, hb, h1, h2, h3, h4⟩
  · cases h0
  · cases he
    subst hl
    refine (Try.slices_Sort_string g 0 c l w (holds_of_block hb (by rw [Nat.mul_one] at h4; exact h4)) (Array.getElem?_eq_some_iff.1 hb).1 (by omega)).mono ?_
    rintro e w' ⟨rfl, k, os, rfl⟩
    exact ⟨rfl, ownsRow_sorted (by simp) hbase hb h1 h2 h3, grownBy_sorted _⟩
theorem grow_none (w : World) : grow w #[] = w := by simp [grow]
theorem CompactS_own {base g n c : Nat} {l : List (List UInt8)} (w : World) (h : Ow st w base 9 (some ⟨g, 0, none⟩) n c l) (hn : n ≤ 1000000) :
    Calls Try.prog 38 #[.slice (some ⟨g, 0, none⟩) n c] w fun e w' => e = .returned (.slice (some ⟨g, 0, none⟩) (Lib.compact l).length c) ∧ Ow st w' base 9 (some ⟨g, 0, none⟩) (Lib.compact l).length c (Lib.compact l) ∧ w.grownBy w' (some g) := by
  have hl := h.len
  have hcap := h.cap
  rcases h.2 with ⟨h0, _⟩ | ⟨g', cap, cur, he, hbase, hb, h1, h2, h3, h4⟩
  · cases h0
  · cases he
    subst hl
    have hle := Lib.compact_length_le l
    refine (Try.slices_Compact_string g 0 c l w (holds_of_block hb (by rw [Nat.mul_one] at h4; exact h4)) (by omega) hcap).mono ?_
    rintro e w' ⟨rfl, q, rfl⟩
    have ho : Ow st (grow (putRow encStr (Sort.ahead w q) g 0 (Lib.compact l ++ List.replicate (l.length - (Lib.compact l).length) []).toArray) #[]) base 9 (some ⟨g, 0, none⟩) l.length c (Lib.compact l ++ List.replicate (l.length - (Lib.compact l).length) []) :=
      ownsRow_sorted (by simp; omega) hbase hb h1 h2 h3
    have hg := grownBy_sorted (w := w) (g := g) (n := q) (os := #[]) (Lib.compact l ++ List.replicate (l.length - (Lib.compact l).length) []).toArray
    rw [grow_none] at ho hg
    have := ho.cut hle (by simp)
    rw [List.take_left'] at this
    · exact ⟨rfl, this, hg⟩
    · rfl

theorem NSort_any {A : Option Addr} {m c : Nat} {l : List (List UInt8)} (w : World) (ha : Rd st w w.heap.size A m l) (hm : m ≤ 1000000) :
    Calls Try.prog 17 #[.slice A m c] w (ORet st w 9 (sortS l).length (sortS l)) := by
  have hl := ha.len
  have HA := hide ha
  clear ha
  by_cases h0 : m = 0
  · subst h0
    obtain rfl : l = [] := List.eq_nil_of_length_eq_zero hl
    go_enter Try.func17, Try.ntmps17
    go_wp2_with fail
    refine (CloneS_any _ HA.out (by omega)).mono ?_
    rintro e w1 ⟨A1, c1, rfl, hown, hbel⟩
    have HO := hide hown
    have HB := hide hbel
    clear hown hbel
    go_wp2_with fail
    refine (Try.slices_Sort_string_none _ _ _).mono ?_
    rintro e w' ⟨rfl, rfl⟩
    go_wp2_with fail
    refine (Try.slices_Compact_string_empty _ _ _).mono ?_
    rintro e w'' ⟨rfl, rfl⟩
    go_wp2_with fail
    go_ret
    exact HO.out.ret HB.out
  · have hm0 : 0 < m := by omega
    clear h0
    go_enter Try.func17, Try.ntmps17
    go_wp2_with fail
    refine (CloneS_any _ HA.out hm).mono ?_
    rintro e w1 ⟨A1, c1, rfl, hown, hbel⟩
    obtain ⟨g, rfl, hbase, _⟩ := hown.at_ hm0
    have HO := hide hown
    have HB := hide hbel
    have HG := hide hbase
    clear hown hbel hbase
    go_wp2_with fail
    refine (SortS_own _ HO.out hm).mono ?_
    rintro e w2 ⟨rfl, hown, hgr⟩
    have HO2 := hide hown
    have HB2 := hide (HB.out.grown hgr HB.out.size (fun j hj => by cases hj; exact HG.out))
    clear hown hgr
    go_wp2_with fail
    refine (CompactS_own _ HO2.out hm).mono ?_
    rw [sortS_lib]
    rintro e w3 ⟨rfl, hown, hgr⟩
    have HO3 := hide hown
    have HB3 := hide (HB2.out.grown hgr HB2.out.size (fun j hj => by cases hj; exact HG.out))
    clear hown hgr
    go_wp2_with fail
    go_ret
    exact HO3.out.ret HB3.out
end Go.Proofs.Ytbdakjepdkmcdaa
