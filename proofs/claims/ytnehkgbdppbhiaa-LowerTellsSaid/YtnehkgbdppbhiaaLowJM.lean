import Derived.Test.YtnehkgbdppbhiaaLowAM
import Derived.Test.YtnehkgbdppbhiaaLowEM
import Derived.Test.YtnehkgbdppbhiaaSortQ
import Derived.Lib.SlicesCompact
import Derived.Sort.Row
import Derived.Test.YtnehkgbdppbhiaaRefNameA
import Derived.Test.YtnehkgbdppbhiaaSortP
import Derived.BigQuiet
import Derived.Deep.QuietTactic
import Derived.Test.YtnehkgbdppbhiaaShelf
import Derived.Test.YtnehkgbdppbhiaaLibStr
import Derived.Sort.OwnSorted
import Derived.Lib.RowBridge
import Derived.Test.YtnehkgbdppbhiaaPlanN
import Derived.Test.YtnehkgbdppbhiaaPlnB

/- Sorted texts (layer 3): sorting by the library and striking what stands twice gives the one list in which each text stands once, rising. Nothing here speaks of a program. -/
namespace Go.Proofs.Ytnehkgbdppbhiaa.Plain
theorem less_lt {a b : List UInt8} : lessS a b = true ↔ a < b := by
  unfold lessS
  induction a generalizing b with
  | nil => cases b with
    | nil => simp [Op.bytesLess]
    | cons y s => simp [Op.bytesLess]
  | cons x r ih =>
    cases b with
    | nil => simp [Op.bytesLess]
    | cons y s => simp [Op.bytesLess, List.cons_lt_cons_iff, ih]
theorem le_not_less {a b : List UInt8} (h : a ≤ b) : lessS b a = false := by
  cases h2 : lessS b a with
  | false => rfl
  | true => exact absurd (less_lt.1 h2) h
theorem less_of_le_ne {a b : List UInt8} (h : a ≤ b) (hne : a ≠ b) : lessS a b = true := by
  cases h2 : lessS a b with
  | true => rfl
  | false => exact absurd (less_total h2 (le_not_less h)) hne
theorem compact_rising {k : List (List UInt8)} (hk : k.Pairwise fun x y => x ≤ y) : Rising (Lib.compact k) ∧ ∀ y, y ∈ Lib.compact k ↔ y ∈ k := by
  have hget : ∀ j (h : j < k.length), k.toArray[j]! = k[j] := fun j h => by simp [h]
  have hle : ∀ i j (hi : i < j) (hj : j < k.length), k[i]'(by omega) ≤ k[j] := fun i j hi hj => List.pairwise_iff_getElem.1 hk i j (by omega) hj hi
  have main : ∀ m, m ≤ k.length → Rising (Lib.compactUpTo k.toArray m) ∧ ∀ y, y ∈ Lib.compactUpTo k.toArray m ↔ ∃ j, ∃ h : j < k.length, j < m ∧ k[j] = y := by
    intro m
    induction m with
    | zero => intro _; exact ⟨by simp [Lib.compactUpTo, Rising], fun y => by simp [Lib.compactUpTo]⟩
    | succ m ih =>
      intro hm
      obtain ⟨h1, h2⟩ := ih (by omega)
      have hmk : m < k.length := by omega
      rw [Lib.compactUpTo_succ, hget m hmk]
      cases hkp : Lib.keeps k.toArray m with
      | true =>
        rw [if_pos rfl]
        refine ⟨List.pairwise_append.2 ⟨h1, List.pairwise_singleton _ _, fun a ha b hb => ?_⟩, fun y => ?_⟩
        · rw [List.mem_singleton] at hb
          subst hb
          obtain ⟨j, hj, hjm, rfl⟩ := (h2 a).1 ha
          simp only [Lib.keeps, decide_eq_true_eq] at hkp
          have hne : k[m] ≠ k[m - 1] := by
            rcases hkp with h0 | h0
            · omega
            · rwa [hget m hmk, hget (m - 1) (by omega)] at h0
          have hb1 : lessS k[m - 1] k[m] = true := less_of_le_ne (hle (m - 1) m (by omega) hmk) (fun e => hne e.symm)
          by_cases hjm1 : j = m - 1
          · subst hjm1; exact hb1
          · by_cases he : k[j] = k[m - 1]
            · rw [he]; exact hb1
            · exact less_trans (less_of_le_ne (hle j (m - 1) (by omega) (by omega)) he) hb1
        · rw [List.mem_append, List.mem_singleton, h2]
          constructor
          · rintro (⟨j, hj, hjm, rfl⟩ | rfl)
            · exact ⟨j, hj, by omega, rfl⟩
            · exact ⟨m, hmk, by omega, rfl⟩
          · rintro ⟨j, hj, hjm, rfl⟩
            by_cases hjm1 : j = m
            · subst hjm1; exact .inr rfl
            · exact .inl ⟨j, hj, by omega, rfl⟩
      | false =>
        rw [if_neg (by simp), List.append_nil]
        refine ⟨h1, fun y => ?_⟩
        rw [h2]
        simp only [Lib.keeps, decide_eq_false_iff_not, not_or, ne_eq, Decidable.not_not] at hkp
        obtain ⟨hm0, he⟩ := hkp
        rw [hget m hmk, hget (m - 1) (by omega)] at he
        constructor
        · rintro ⟨j, hj, hjm, rfl⟩
          exact ⟨j, hj, by omega, rfl⟩
        · rintro ⟨j, hj, hjm, rfl⟩
          by_cases hjm1 : j = m
          · subst hjm1; exact ⟨j - 1, by omega, by omega, he.symm⟩
          · exact ⟨j, hj, by omega, rfl⟩
  obtain ⟨a, b⟩ := main k.length (Nat.le_refl _)
  refine ⟨a, fun y => (b y).trans ⟨fun ⟨j, hj, _, e⟩ => e ▸ List.getElem_mem hj, fun h => ?_⟩⟩
  obtain ⟨j, hj, e⟩ := List.mem_iff_getElem.1 h
  exact ⟨j, hj, hj, e⟩
theorem sortS_lib (l : List (List UInt8)) : Lib.compact (l.mergeSort fun x y => decide (x ≤ y)) = sortS l := by
  have hs : (l.mergeSort fun x y => decide (x ≤ y)).Pairwise fun x y => x ≤ y := by
    have := List.pairwise_mergeSort (le := fun x y : List UInt8 => decide (x ≤ y)) (fun a b c h1 h2 => by simp only [decide_eq_true_eq] at *; exact List.le_trans h1 h2) (fun a b => by simp only [Bool.or_eq_true, decide_eq_true_eq]; exact List.le_total a b) l
    simpa using this
  obtain ⟨a, b⟩ := compact_rising hs
  exact sortS_unique a fun y => (b y).trans (List.mem_mergeSort)
end Go.Proofs.Ytnehkgbdppbhiaa.Plain

/- The contract of the reference's Sort (layer 3). -/
namespace Go.Proofs.Ytnehkgbdppbhiaa
open Go.RowKit Plain
theorem info_st : (Try.prog.info? 9).map (fun i => (i.zero, i.size, i.bytes)) = some (some (.string ⟨#[]⟩), 1, 16) := by kernel_rfl
theorem st_one (l : List UInt8) : (st l).oneCell' = true := rfl

set_option maxHeartbeats 1600000 in
theorem RSort_any {A : Option Addr} {m c : Nat} {l : List (List UInt8)} (w : World) (ha : Rd st w w.heap.size A m l) (hm : m ≤ 1000000) :
    Calls Try.prog 35 #[.slice A m c] w (ORet st w 9 (sortS l).length (sortS l)) := by
  have HA := hide ha
  clear ha
  go_enter Try.func35, Try.ntmps35
  go_wp2_with fail
  go_loopw [3, 4] (fun v i wr => ∃ (k p : Nat) (o : List (List UInt8)), k ≤ m ∧ i = .int .i64 k ∧ o = sortS (l.take k) ∧ p ≤ k ∧ (∃ A c, v = .slice A p c ∧ Ow st wr w.heap.size 9 A p c o) ∧ Below w.heap.size w wr) (fun _ i _ => m - (intOf i).toNat)
  case atStart => exact ⟨0, 0, [], Nat.zero_le _, rfl, rfl, Nat.le_refl _, ⟨_, _, rfl, Ow.empty st w _⟩, below_new (below_self w) _⟩
  case round =>
    obtain ⟨i, p, o, hi, rfl, ho, hp, ⟨A1, c1, rfl, hown⟩, hbel⟩ := hrel
    have HOE := hide ho
    have HO := hide hown
    have HB := hide hbel
    have HA1 := hide (HA.out.on hbel)
    clear ho hown hbel
    by_cases hlt : i < m
    · obtain ⟨ba, oa, rfl, hba, hca0⟩ := HA.out.2 (by omega)
      have hca : ∀ i x, l[i]? = some x → wr.cell? ⟨ba, oa + i, none⟩ = some (st x) := fun i x h => (HB.out.cell hba).trans (hca0 i x h)
      have hxw := hca0 i _ (List.getElem?_eq_getElem (show i < l.length by rw [HA.out.len]; exact hlt))
      clear hca0
      have hil : i < l.length := by rw [HA.out.len]; exact hlt
      have hx := hca i l[i] (List.getElem?_eq_getElem hil)
      clear hca
      obtain ⟨x, hxe⟩ : ∃ x, x = l[i] := ⟨_, rfl⟩
      rw [← hxe] at hx hxw
      have HXW := hide hxw
      clear hxw
      have hs : sortS (l.take (i + 1)) = insS x o := by rw [List.take_succ_eq_append_getElem hil, sortS_snoc, ← HOE.out, hxe]
      have HS := hide hs
      clear hs hxe hil
      unfold st at hx
      go_wp2_with fail
      go_loopw [5] (fun kv wr2 => ∃ k q : Nat, k ≤ p ∧ kv = .int .i64 k ∧ (∀ j (hj : j < k), lessS (o.getD j []) x = true) ∧ wr2 = wr.drewN q) (fun kv _ => p - (intOf kv).toNat)
      case atStart => exact ⟨0, 0, Nat.zero_le _, rfl, fun j hj => absurd hj (by omega), rfl⟩
      case round =>
        obtain ⟨k, q, hk, rfl, hless, rfl⟩ := hrel
        have HL := hide hless
        clear hless
        by_cases hkp : k < p
        · obtain ⟨g, rfl, hg, hgl, hcg, hfz⟩ := HO.out.at_ (by omega)
          have hol := HO.out.len
          have hy := hcg k (o.getD k []) (by simp only [List.getD]; rw [List.getElem?_eq_getElem (by omega)]; rfl)
          clear hcg hfz
          obtain ⟨y, hye⟩ : ∃ y, y = o.getD k [] := ⟨_, rfl⟩
          rw [← hye] at hy
          unfold st at hy
          have HYE := hide hye
          have HOL := hide hol
          clear hye hol
          cases hyx : Op.bytesLess y x with
          | true =>
            have HYX := hide hyx
            go_wp2
            go_quiet (fail)
            clear hyx
            go_wp2
            go_roundw
            case rel => exact ⟨k + 1, _, by omega, by go_num, fun j hj => by
              by_cases hjk : j < k
              · exact HL.out j hjk
              · obtain rfl : j = k := by omega
                rw [← HYE.out]; exact HYX.out, rfl⟩
            case measure => simp [intOf]; omega
          | false =>
            have HYX := hide hyx
            go_wp2
            go_quiet (fail)
            clear hyx
            go_wp2
            by_cases hyq : y = x
            · have hpos : posS x o = k := posS_of (by have := HO.out.len; omega) (fun j hj => HL.out j hj) (fun _ => by rw [← HYE.out]; exact HYX.out)
              have hins : insS x o = o := by
                unfold insS
                rw [hpos, if_pos]
                rw [← hyq, HYE.out]
                simp only [List.getD]
                rw [List.getElem?_eq_getElem (by have := HO.out.len; omega)]
                rfl
              have HINS := hide hins
              have hbq : (y == x) = true := by simp [hyq]
              clear hpos hins hyq
              go_quiet (fail)
              clear hbq
              go_wp2
              go_roundw
              case rel => exact ⟨i + 1, p, o, by omega, by go_num, by rw [HS.out, HINS.out], by omega, ⟨_, _, rfl, by repeat (first | exact HO.out | refine Ow.drewN ?_ _)⟩, by repeat (first | exact HB.out | refine below_drewN ?_ _)⟩
              case measure => simp [intOf]; omega
            · have NE := hide hyq
              have hbq : (y == x) = false := by simp [hyq]
              clear hyq
              go_quiet (fail)
              clear hbq
              go_wp2_with (at_builtin; refine wpList_append_Rd _ rfl (.tmp 46) (.tmp 47) 31 rfl w.heap.size 9 _ 16 Try.underlying31 info_st rfl st_one _ p _ o rfl (by repeat (first | exact HO.out | refine Ow.drewN ?_ _ | refine Ow.alloc ?_ _)) _ _ 1 1 _ rfl (Rd.one _ _ rfl) (p + 1) rfl (by omega) (by omega) (by have := HB.out.size; simp; omega) ?_; intro A2 c2 w1 hown1 hbel1; have HO1 := hide hown1; have HB1 := hide (Below.trans (show Below w.heap.size w _ by repeat (first | exact HB.out | refine below_drewN ?_ _ | (refine Below.alloc ?_ (by have := HB.out.size; simp; omega) _))) hbel1); clear hown1 hbel1)
              have hpos : posS x o = k := posS_of (by have := HO.out.len; omega) (fun j hj => HL.out j hj) (fun _ => by rw [← HYE.out]; exact HYX.out)
              have hnot : o[k]? ≠ some x := by
                intro e
                apply NE.out
                rw [HYE.out]
                simp [List.getD, e]
              have hins : insS x o = o.take k ++ x :: o.drop k := by unfold insS; rw [hpos, if_neg hnot]
              have HINS := hide hins
              clear hpos hnot hins
              have hgl := HO.out.len
              have HGL := hide hgl
              clear hgl
              go_loopw [6] (fun jv wr3 => ∃ j : Nat, k ≤ j ∧ j ≤ p ∧ jv = .int .i64 j ∧ Ow st wr3 w.heap.size 9 A2 (p + 1) c2 (gapS o j) ∧ Below w.heap.size w wr3) (fun jv _ => (intOf jv).toNat)
              case atStart => exact ⟨p, by omega, Nat.le_refl _, by go_num, by have e := gapS_end o; rw [HGL.out] at e; rw [e]; exact HO1.out, HB1.out⟩
              case round =>
                obtain ⟨j, hj1, hj2, rfl, hown2, hbel2⟩ := hrel
                have HO2 := hide hown2
                have HB2 := hide hbel2
                obtain ⟨g2, rfl, hg2, hgl2, hcg2, hfz2⟩ := hown2.at_ (by omega)
                by_cases hjk : k < j
                · have hgj : (gapS o j)[j - 1]? = some (o.getD (j - 1) []) := by
                    rw [gapS_get (by omega) (by rw [HGL.out]; omega)]
                    simp only [List.getD]
                    rw [List.getElem?_eq_getElem (by rw [HGL.out]; omega)]
                    rfl
                  have hz := hcg2 (j - 1) _ hgj
                  obtain ⟨u, hu⟩ : ∃ u, (gapS o j)[j]? = some u := ⟨_, List.getElem?_eq_getElem (by rw [gapS_length (by rw [HGL.out]; omega), HGL.out]; omega)⟩
                  have hzz := hcg2 j _ hu
                  have hf := hfz2 j
                  have hst := hown2.set_ (p := j) (u := st (o.getD (j - 1) [])) (y := o.getD (j - 1) []) rfl
                  have hbs := hbel2.setCell (p := ⟨g2, j, none⟩) hg2 (st (o.getD (j - 1) []))
                  obtain ⟨j', rfl⟩ : ∃ j', j = j' + 1 := ⟨j - 1, by omega⟩
                  simp only [Nat.add_sub_cancel] at hz hst hbs
                  have hgo : o.getD j' [] = o[j']'(by rw [HGL.out]; omega) := by
                    simp only [List.getD]
                    rw [List.getElem?_eq_getElem (by rw [HGL.out]; omega)]
                    rfl
                  rw [hgo, gapS_step] at hst
                  rw [← hgo] at hst
                  obtain ⟨z, hze⟩ : ∃ z, z = o.getD j' [] := ⟨_, rfl⟩
                  rw [← hze] at hz hst hbs
                  have HST := hide hst
                  have HBS := hide hbs
                  clear hown2 hbel2 hcg2 hfz2 hgj hu hst hbs hgo hze
                  unfold st at hz hzz
                  go_wp2
                  go_roundw
                  case rel => exact ⟨j', by omega, by omega, by go_num, HST.out, HBS.out⟩
                  case measure => (simp [intOf])
                · obtain rfl : k = j := by omega
                  have hx2 := (HB2.out.cell hba).trans HXW.out
                  obtain ⟨u, hu⟩ : ∃ u, (gapS o k)[k]? = some u := ⟨_, List.getElem?_eq_getElem (by rw [gapS_length (by rw [HGL.out]; omega), HGL.out]; omega)⟩
                  have hzz := hcg2 k _ hu
                  have hf := hfz2 k
                  have hst := hown2.set_ (p := k) (u := st x) (y := x) rfl
                  have hbs := hbel2.setCell (p := ⟨g2, k, none⟩) hg2 (st x)
                  rw [gapS_set (by rw [HGL.out]; omega)] at hst
                  have HST := hide hst
                  have HBS := hide hbs
                  clear hown2 hbel2 hcg2 hfz2 hu hst hbs
                  unfold st at hx2 hzz
                  go_wp2
                  go_roundw
                  case rel => exact ⟨i + 1, p + 1, _, by omega, by go_num, HS.out.symm, by omega, ⟨_, _, rfl, by rw [HINS.out]; exact HST.out⟩, HBS.out⟩
                  case measure => simp [intOf]; omega
        · obtain rfl : k = p := by omega
          go_wp2
          go_quiet (fail)
          go_wp2
          go_quiet (fail)
          go_wp2_with (at_builtin; refine wpList_append_Rd _ rfl (.tmp 46) (.tmp 47) 31 rfl w.heap.size 9 _ 16 Try.underlying31 info_st rfl st_one _ k _ o rfl (by repeat (first | exact HO.out | refine Ow.drewN ?_ _ | refine Ow.alloc ?_ _)) _ _ 1 1 _ rfl (Rd.one _ _ rfl) (k + 1) rfl (by omega) (by omega) (by have := HB.out.size; simp; omega) ?_; intro A2 c2 w1 hown1 hbel1; have HO1 := hide hown1; have HB1 := hide (Below.trans (show Below w.heap.size w _ by repeat (first | exact HB.out | refine below_drewN ?_ _ | (refine Below.alloc ?_ (by have := HB.out.size; simp; omega) _))) hbel1); clear hown1 hbel1)
          have hpos : posS x o = k := posS_of (by have := HO.out.len; omega) (fun j hj => HL.out j hj) (fun h => by have := HO.out.len; omega)
          have hnot : o[k]? ≠ some x := by rw [List.getElem?_eq_none (by have := HO.out.len; omega)]; simp
          have hins : insS x o = o.take k ++ x :: o.drop k := by unfold insS; rw [hpos, if_neg hnot]
          have HINS := hide hins
          clear hpos hnot hins
          have hgl := HO.out.len
          have HGL := hide hgl
          clear hgl
          go_loopw [6] (fun jv wr3 => ∃ j : Nat, k ≤ j ∧ j ≤ k ∧ jv = .int .i64 j ∧ Ow st wr3 w.heap.size 9 A2 (k + 1) c2 (gapS o j) ∧ Below w.heap.size w wr3) (fun jv _ => (intOf jv).toNat)
          case atStart => exact ⟨k, by omega, Nat.le_refl _, by go_num, by have e := gapS_end o; rw [HGL.out] at e; rw [e]; exact HO1.out, HB1.out⟩
          case round =>
            obtain ⟨j, hj1, hj2, rfl, hown2, hbel2⟩ := hrel
            have HO2 := hide hown2
            have HB2 := hide hbel2
            obtain ⟨g2, rfl, hg2, hgl2, hcg2, hfz2⟩ := hown2.at_ (by omega)
            by_cases hjk : k < j
            · exact absurd hjk (by omega)
            · obtain rfl : k = j := by omega
              have hx2 := (HB2.out.cell hba).trans HXW.out
              obtain ⟨u, hu⟩ : ∃ u, (gapS o k)[k]? = some u := ⟨_, List.getElem?_eq_getElem (by rw [gapS_length (by rw [HGL.out]; omega), HGL.out]; omega)⟩
              have hzz := hcg2 k _ hu
              have hf := hfz2 k
              have hst := hown2.set_ (p := k) (u := st x) (y := x) rfl
              have hbs := hbel2.setCell (p := ⟨g2, k, none⟩) hg2 (st x)
              rw [gapS_set (by rw [HGL.out]; omega)] at hst
              have HST := hide hst
              have HBS := hide hbs
              clear hown2 hbel2 hcg2 hfz2 hu hst hbs
              unfold st at hx2 hzz
              go_wp2
              go_roundw
              case rel => exact ⟨i + 1, k + 1, _, by omega, by go_num, HS.out.symm, by omega, ⟨_, _, rfl, by rw [HINS.out]; exact HST.out⟩, HBS.out⟩
              case measure => simp [intOf]; omega
    · obtain rfl : i = m := by omega
      have hos : o = sortS l := by rw [HOE.out, List.take_of_length_le (by rw [HA.out.len]; exact Nat.le_refl _)]
      have hol := HO.out.len
      have HOS := hide hos
      have HOL := hide hol
      clear hos hol
      go_wp2
      go_ret
      rw [← HOS.out, HOL.out]
      exact HO.out.ret HB.out
end Go.Proofs.Ytnehkgbdppbhiaa

/- Contracts of slices.Clone, slices.Sort and slices.Compact at strings, in the words of rows of the call's own; and of the program's name.Sort. -/
namespace Go.Proofs.Ytnehkgbdppbhiaa
open Go.RowKit Go.Sort Plain

theorem CloneS_any {A : Option Addr} {m c B : Nat} {l : List (List UInt8)} (w : World) (ha : Rd st w B A m l) (hm : m ≤ 1000000) :
    Calls Try.prog 49 #[.slice A m c] w (ORet st w 9 m l) := by
  by_cases h0 : m = 0
  · subst h0
    obtain rfl : l = [] := List.eq_nil_of_length_eq_zero ha.len
    cases A with
    | none =>
      refine (Try.slices_Clone_string_nil 0 c w).mono ?_
      rintro e w' ⟨rfl, rfl⟩
      exact (Ow.nil_ st _ _ _).ret (below_self _)
    | some a =>
      refine (Try.slices_Clone_string_zero a c w).mono ?_
      rintro e w' ⟨v, rfl, hown, _, hbel⟩
      obtain ⟨A', c', rfl, ho⟩ := Ow.of (f := st) (l := []) hown
      exact ho.ret hbel
  · obtain ⟨b, o, rfl, _, hc⟩ := ha.2 (by omega)
    have hl := ha.len
    have hlen : (l.map fun x => (⟨x.toArray⟩ : ByteArray)).length = m := by simp [hl]
    refine (Try.slices_Clone_string b o m c (l.map fun x => ⟨x.toArray⟩) w (by omega) (by omega) (fun j hj => ?_)).mono ?_
    · rw [hc j (l[j]'(by omega)) (List.getElem?_eq_getElem (by omega))]
      simp [st, List.getD, show j < l.length by omega]
    · rintro e w' ⟨v, rfl, hown, _, hbel⟩
      have hmap : ((l.map fun x => (⟨x.toArray⟩ : ByteArray)).take m).map (Value.string) = l.map st := by
        rw [List.take_of_length_le (by omega), List.map_map]
        rfl
      rw [hmap] at hown
      obtain ⟨A', c', rfl, ho⟩ := Ow.of (f := st) hown
      exact ho.ret hbel

theorem SortS_own {base g n c : Nat} {l : List (List UInt8)} (w : World) (h : Ow st w base 9 (some ⟨g, 0, none⟩) n c l) (hn : n ≤ 1000000) :
    Calls Try.prog 50 #[.slice (some ⟨g, 0, none⟩) n c] w fun e w' => e = .returned (.tuple #[]) ∧ Ow st w' base 9 (some ⟨g, 0, none⟩) n c (l.mergeSort fun x y => decide (x ≤ y)) ∧ w.grownBy w' (some g) := by
  have hl := h.len
  rcases h.2 with ⟨h0, _⟩ | ⟨g', cap, cur, he, hbase, hb, h1, h2, h3, h4⟩
  · cases h0
  · cases he
    subst hl
    refine (Try.slices_Sort_string g 0 c l w (holds_of_block hb (by rw [Nat.mul_one] at h4; exact h4)) (Array.getElem?_eq_some_iff.1 hb).1 (by omega)).mono ?_
    rintro e w' ⟨rfl, k, os, rfl⟩
    exact ⟨rfl, ownsRow_sorted (by simp) hbase hb h1 h2 h3, grownBy_sorted _⟩
theorem grow_none (w : World) : grow w #[] = w := by simp [grow]
theorem CompactS_own {base g n c : Nat} {l : List (List UInt8)} (w : World) (h : Ow st w base 9 (some ⟨g, 0, none⟩) n c l) (hn : n ≤ 1000000) :
    Calls Try.prog 51 #[.slice (some ⟨g, 0, none⟩) n c] w fun e w' => e = .returned (.slice (some ⟨g, 0, none⟩) (Lib.compact l).length c) ∧ Ow st w' base 9 (some ⟨g, 0, none⟩) (Lib.compact l).length c (Lib.compact l) ∧ w.grownBy w' (some g) := by
  have hl := h.len
  have hcap := h.cap
  rcases h.2 with ⟨h0, _⟩ | ⟨g', cap, cur, he, hbase, hb, h1, h2, h3, h4⟩
  · cases h0
  · cases he
    subst hl
    have hle := Lib.compact_length_le l
    refine (Try.slices_Compact_string g 0 c l w (holds_of_block hb (by rw [Nat.mul_one] at h4; exact h4)) (by omega) hcap).mono ?_
    rintro e w' ⟨rfl, q, rfl⟩
    have ho : Ow st (grow (putRow encStr (Sort.ahead w q) g 0 (Lib.compact l ++ List.replicate (l.length - (Lib.compact l).length) []).toArray) #[]) base 9 (some ⟨g, 0, none⟩) l.length c (Lib.compact l ++ List.replicate (l.length - (Lib.compact l).length) []) :=
      ownsRow_sorted (by simp; omega) hbase hb h1 h2 h3
    have hg := grownBy_sorted (w := w) (g := g) (n := q) (os := #[]) (Lib.compact l ++ List.replicate (l.length - (Lib.compact l).length) []).toArray
    rw [grow_none] at ho hg
    have := ho.cut hle (by simp)
    rw [List.take_left'] at this
    · exact ⟨rfl, this, hg⟩
    · rfl

theorem NSort_any {A : Option Addr} {m c : Nat} {l : List (List UInt8)} (w : World) (ha : Rd st w w.heap.size A m l) (hm : m ≤ 1000000) :
    Calls Try.prog 34 #[.slice A m c] w (ORet st w 9 (sortS l).length (sortS l)) := by
  have hl := ha.len
  have HA := hide ha
  clear ha
  by_cases h0 : m = 0
  · subst h0
    obtain rfl : l = [] := List.eq_nil_of_length_eq_zero hl
    go_enter Try.func34, Try.ntmps34
    go_wp2_with fail
    refine (CloneS_any _ HA.out (by omega)).mono ?_
    rintro e w1 ⟨A1, c1, rfl, hown, hbel⟩
    have HO := hide hown
    have HB := hide hbel
    clear hown hbel
    go_wp2_with fail
    refine (Try.slices_Sort_string_none _ _ _).mono ?_
    rintro e w' ⟨rfl, rfl⟩
    go_wp2_with fail
    refine (Try.slices_Compact_string_empty _ _ _).mono ?_
    rintro e w'' ⟨rfl, rfl⟩
    go_wp2_with fail
    go_ret
    exact HO.out.ret HB.out
  · have hm0 : 0 < m := by omega
    clear h0
    go_enter Try.func34, Try.ntmps34
    go_wp2_with fail
    refine (CloneS_any _ HA.out hm).mono ?_
    rintro e w1 ⟨A1, c1, rfl, hown, hbel⟩
    obtain ⟨g, rfl, hbase, _⟩ := hown.at_ hm0
    have HO := hide hown
    have HB := hide hbel
    have HG := hide hbase
    clear hown hbel hbase
    go_wp2_with fail
    refine (SortS_own _ HO.out hm).mono ?_
    rintro e w2 ⟨rfl, hown, hgr⟩
    have HO2 := hide hown
    have HB2 := hide (HB.out.grown hgr HB.out.size (fun j hj => by cases hj; exact HG.out))
    clear hown hgr
    go_wp2_with fail
    refine (CompactS_own _ HO2.out hm).mono ?_
    rw [sortS_lib]
    rintro e w3 ⟨rfl, hown, hgr⟩
    have HO3 := hide hown
    have HB3 := hide (HB2.out.grown hgr HB2.out.size (fun j hj => by cases hj; exact HG.out))
    clear hown hgr
    go_wp2_with fail
    go_ret
    exact HO3.out.ret HB3.out
end Go.Proofs.Ytnehkgbdppbhiaa

/- Contracts of cmp.Less and slices.IsSorted at strings. -/
namespace Go.Proofs.Ytnehkgbdppbhiaa
open Go.RowKit Plain

set_option maxHeartbeats 400000 in
theorem isNaN_any (x : List UInt8) (w : World) : Calls Try.prog 52 #[st x] w fun e w' => e = .returned (.bool false) ∧ w = w' := by
  show Calls _ _ #[.string ⟨x.toArray⟩] _ _
  have h : (x == x) = true := by simp
  go_enter Try.func52, Try.ntmps52
  go_wp2
  go_ret
  exact ⟨rfl, rfl⟩

set_option maxHeartbeats 400000 in
theorem Less_any (x y : List UInt8) (w : World) : Calls Try.prog 37 #[st x, st y] w fun e w' => e = .returned (.bool (lessS x y)) ∧ w = w' := by
  show Calls _ _ #[.string ⟨x.toArray⟩, .string ⟨y.toArray⟩] _ _
  obtain ⟨r, hr⟩ : ∃ r, Op.bytesLess x y = r := ⟨_, rfl⟩
  rw [show lessS x y = r from hr]
  go_enter Try.func37, Try.ntmps37
  go_wp2_with fail
  refine (isNaN_any _ _).mono ?_
  rintro e w' ⟨rfl, rfl⟩
  go_wp2_with fail
  go_ret
  exact ⟨rfl, rfl⟩
theorem Less_same {x y : List UInt8} {b : Bool} (h : lessS x y = b) (w : World) : Calls Try.prog 37 #[.string ⟨x.toArray⟩, .string ⟨y.toArray⟩] w fun e w' => e = .returned (.bool b) ∧ w' = w := by
  subst h
  exact (Less_any x y w).mono fun _ _ h => ⟨h.1, h.2.symm⟩

/-- A quiet call behind draws. -/
theorem quiet_addS {P : Program} {f : FuncId} {args : Array Value} {w : World} {a n : Nat} {v : Value}
    (h : Calls P f args (w.drewN (a + n)) fun e w' => e = .returned v ∧ w' = w.drewN (a + n)) :
    Calls P f args (w.drewN (a + n)) fun e w'' => e = .returned v ∧ ∃ m, w'' = w.drewN (a + m) :=
  h.mono fun _ _ ⟨he, hm⟩ => ⟨he, n, hm⟩

set_option maxHeartbeats 800000 in
theorem IsSortedS_yes {A : Option Addr} {n c B : Nat} {l : List (List UInt8)} (w : World) (ha : Rd st w B A n l) (hn : n ≤ 140737488355328) (hs : ∀ i, i + 1 < l.length → lessS (l.getD (i + 1) []) (l.getD i []) = false) :
    Calls Try.prog 18 #[.slice A n c] w (BRt w true) := by
  have HA := hide ha
  have HS := hide hs
  clear ha hs
  go_enter Try.func18, Try.ntmps18
  go_wp2_with fail
  go_loopw [3] (fun i wr => ∃ q : Nat, ∃ j : Int, (j : Int) < n ∧ -1 ≤ j ∧ i = .int .i64 j ∧ wr = w.drewN q) (fun i _ => (intOf i + 1).toNat)
  case atStart => exact ⟨0, (n : Int) - 1, by omega, by omega, by go_num, rfl⟩
  case round =>
    obtain ⟨q, j, hj1, hj2, rfl, rfl⟩ := hrel
    by_cases hlt : 0 < j
    · obtain ⟨i, rfl⟩ : ∃ i : Nat, j = (i : Int) + 1 := ⟨(j - 1).toNat, by omega⟩
      obtain ⟨b, o, rfl, _, hc⟩ := HA.out.2 (by omega)
      have hll := HA.out.len
      have hx := hc (i + 1) (l.getD (i + 1) []) (by simp only [List.getD]; rw [List.getElem?_eq_getElem (by omega)]; rfl)
      have hy := hc i (l.getD i []) (by simp only [List.getD]; rw [List.getElem?_eq_getElem (by omega)]; rfl)
      have hle := HS.out i (by omega)
      obtain ⟨x, hxe⟩ : ∃ x, l.getD (i + 1) [] = x := ⟨_, rfl⟩
      obtain ⟨y, hye⟩ : ∃ y, l.getD i [] = y := ⟨_, rfl⟩
      rw [hxe] at hx hle
      rw [hye] at hy hle
      unfold st at hx hy
      have HLE := hide hle
      have hin : i + 1 < n := by omega
      have hw1 : IntKind.i64.wrap ((i : Int) + 1 - 1) = (i : Int) := by rw [IntKind.wrap_i64]; omega
      have hw2 : ((i : Int) + 1).toNat = i + 1 := by omega
      have hw3 : (0 : Int) ≤ (i : Int) + 1 := by omega
      have hw4 : (i : Int) + 1 < (n : Int) := by omega
      have hw5 : (i : Int) < (n : Int) := by omega
      have hw6 : i < n := by omega
      clear hc hll hle hxe hye
      go_wp2
      go_quiet ((go_at_call 37; first | exact Calls.quiet_of_same (Less_same HLE.out _) | exact quiet_addS (Less_same HLE.out _)))
      clear hw1 hw2 hw3 hw4 hw5 hw6
      go_wp2
      go_roundw
      case rel => exact ⟨_, (i : Int), by omega, by omega, by go_num, rfl⟩
      case measure => simp [intOf]; omega
    · go_wp2
      go_ret
      exact BRt.of (below_drewN (below_self w) _) rfl
end Go.Proofs.Ytnehkgbdppbhiaa

/- Names (layer 16). -/
namespace Go.Proofs.Ytnehkgbdppbhiaa
open Go.RowKit Go.Shelf Plain

theorem Entries_e {A : Option Addr} {n c : Nat} {ns : List NodV} {i : Int} {B : Nat} {l : List EntV} (hl : entB ns i = l) (w : World) (h : RdE nodEn w (Under B) A n ns) (hB : B ≤ w.heap.size) (hm : ns.length ≤ 100000) :
    Calls Try.prog 30 #[.agg #[.slice A n c], .int .i64 i] w (EntsRet w B l) := by rw [← hl]; exact Entries_any w h hB hm
/-- All names of entries, place by place. -/
def allN (ls : List (List NodV)) (l : List (Int × Int)) : List (List UInt8) := l.flatMap (fun p => (entL ls p).map EntV.name)
theorem allN_succ {ls : List (List NodV)} {l : List (Int × Int)} {j : Nat} {p : Int × Int} (h : l[j]? = some p) : allN ls (l.take (j + 1)) = allN ls (l.take j) ++ (entL ls p).map EntV.name := by
  unfold allN
  rw [List.take_add_one, h, List.flatMap_append]
  simp
theorem allN_len {ls : List (List NodV)} (hF : FewL ls) (l : List (Int × Int)) : (allN ls l).length ≤ 16 * l.length := by
  unfold allN
  induction l with
  | nil => simp
  | cons p r ih =>
    rw [List.flatMap_cons, List.length_append, List.length_map, List.length_cons]
    have := entL_len hF p
    omega
def namesL (ls : List (List NodV)) (l : List (Int × Int)) : List (List UInt8) := (sortS (allN ls l)).filter (fun x => !hidS ls l x)
theorem sort_filter (q : List UInt8 → Bool) (l : List (List UInt8)) : (sortS l).filter q = sortS (l.filter q) := by
  refine sortS_unique ?_ (fun y => ?_)
  · exact List.Pairwise.filter q (sortS_rising l).1
  · rw [List.mem_filter, List.mem_filter, (sortS_rising l).2]
def NamesRet (w : World) (L : List (List UInt8)) (e : Ending) (w' : World) : Prop := ∃ A n c, e = .returned (.slice A n c) ∧ Rd st w' w'.heap.size A n L ∧ Below w.heap.size w w'
theorem names_snoc {l : List EntV} {i : Nat} {e : EntV} (h : l[i]? = some e) (a : List (List UInt8)) : a ++ (l.take (i + 1)).map EntV.name = (a ++ (l.take i).map EntV.name) ++ [e.name] := by
  rw [List.take_add_one, h]
  simp
set_option maxRecDepth 100000 in
set_option maxHeartbeats 8000000 in
theorem Names_any {g : GeoQ} {AU AL AP : Option Addr} {nU cU nL cL n cP : Nat} {ls : List (List NodV)} {l : List (Int × Int)} (w : World) (h : RdE layEn w (Under w.heap.size) AL nL ls) (hp : RdE prEn w (Under w.heap.size) AP n l) (hF : FewL ls) (hn : n ≤ 1000) :
    Calls Try.prog 15 #[.agg (stkC g (.slice AU nU cU) (.slice AL nL cL)).toArray, .slice AP n cP] w (NamesRet w (namesL ls l)) := by
  obtain ⟨r0, r1, hb2, hs2⟩ := rows2 w (stkC g (.slice AU nU cU) (.slice AL nL cL)) [.slice AP n cP] 29 30
  obtain ⟨W2, hW2⟩ : ∃ W2, (w.alloc (.cells (stkC g (.slice AU nU cU) (.slice AL nL cL)).toArray 29)).alloc (.cells [Value.slice AP n cP].toArray 30) = W2 := ⟨_, rfl⟩
  rw [hW2] at r0 r1 hb2 hs2
  have hW2' : (w.alloc (.cells #[.int .i64 g.a, .int .i64 g.b, .int .i64 g.c, .int .i64 g.d, .slice AU nU cU, .slice AL nL cL] 29)).alloc (.cells #[.slice AP n cP] 30) = W2 := hW2
  have q0 : W2.cell? ⟨w.heap.size + 1, 0, none⟩ = some (.slice AP n cP) := r1.cell 0
  have hm : ls.length ≤ 100 := by have := hF.1; omega
  have HM2 := hide (fun ns (hh : ns ∈ ls) => (show ns.length ≤ 1000 from Nat.le_trans (hF.2 ns hh).1 (by omega)))
  have R0 := hide r0
  have HB2 := hide hb2
  have hsl : w.heap.size + 2 ≤ W2.heap.size := by omega
  have HL := hide (h.under hb2 (Nat.le_refl _))
  have HP := hide (hp.under hb2 (Nat.le_refl _))
  have HPL := hide hp.1
  have HF := hide hF
  have HCX := hide (show CtxN g AU AL AP nU cU nL cL n cP w.heap.size w.heap.size (w.heap.size + 1) ls l W2 from ⟨r0, r1, h.under hb2 (Nat.le_refl _), hp.under hb2 (Nat.le_refl _), by omega⟩)
  have HAL := hide (fun k => (show (allN ls (l.take k)).length ≤ 16 * k from Nat.le_trans (allN_len hF _) (Nat.mul_le_mul_left _ (by rw [List.length_take]; omega))))
  unfold stkC
  clear r0 r1 hb2 hW2 h hp hF hs2
  go_enter Try.func15, Try.ntmps15
  go_wp2_with fail
  clear hW2' q0
  go_loopw [5, 13] (fun v5 v13 wr => ∃ (j n5 : Nat) (A5 : Option Addr) (c5 : Nat), j ≤ n ∧ v13 = .int .i64 j ∧ v5 = .slice A5 n5 c5 ∧ Ow st wr W2.heap.size 9 A5 n5 c5 (allN ls (l.take j)) ∧ Below W2.heap.size W2 wr) (fun _ v13 _ => n - (intOf v13).toNat)
  case atStart => exact ⟨0, 0, none, 0, by omega, rfl, rfl, World.ownsRow_nil _ _ _ _, below_self _⟩
  case round =>
    rename World => wo
    obtain ⟨j, n5, A5, c5, hj, rfl, rfl, ho, hbr⟩ := hrel
    have hn5 : n5 ≤ 16 * j := by rw [← ho.rd.len]; exact HAL.out j
    have HO := hide ho
    have HBR := hide hbr
    have hbsz := hbr.size
    have R0r := hide (R0.out.on hbr)
    clear ho hbr
    by_cases hlt : j < n
    · obtain ⟨p, hp⟩ : ∃ p, l[j]? = some p := ⟨_, List.getElem?_eq_getElem (by have := HPL.out; omega)⟩
      obtain ⟨bP, oP, rfl, hbP, hcP⟩ := pr_get (HP.out.under HBR.out (by omega)) hp
      have HCP := hide hcP
      have HZP := hide (RowL.new wo 38 (prC (0, 0)))
      have HSU := hide (allN_succ (ls := ls) hp)
      obtain ⟨EL, hEL⟩ : ∃ EL, entL ls p = EL := ⟨_, rfl⟩
      have hel := entL_len HF.out p
      rw [hEL] at hel
      have HEL := hide hEL
      have hjn : (j : Int) < (n : Int) := by omega
      clear hp hcP hEL
      go_wp2_with (first | (refine wpList_loadX rfl 38 (.tmp 15) rfl 2 plc_agg plc_size bP (oP + j * 2) rfl (prC p) HCP.out rfl ?_) | (refine wpList_storeW rfl 38 (.tmp 7) (.tmp 16) rfl 2 plc_size wo.heap.size 38 rfl (prC (0, 0)) (prC p) rfl HZP.out rfl rfl (prC_one _) ?_; intro w6 hr6 hg6 hs6; have hb6 := below_stored' hg6; have R6 := hide hr6; have HB6 := hide hb6; have R06 := hide (R0r.out.on hb6); have hs6l := hb6.size; clear hr6 hg6 hs6 hb6))
      have HQ0 := hide (fun W (hb : Below w6.heap.size w6 W) => show W.cell? ⟨wo.heap.size, 0, none⟩ = some (.int .i64 p.1) from (R6.out.on hb).cell 0)
      have HQ1 := hide (fun W (hb : Below w6.heap.size w6 W) => show W.cell? ⟨wo.heap.size, 1, none⟩ = some (.int .i64 p.2) from (R6.out.on hb).cell 1)
      have hly := layL_len HM2.out p.1
      have hely := ent_lay ls p
      rw [HEL.out] at hely
      obtain ⟨ly, hLY⟩ : ∃ ly, layL ls p.1 = ly := ⟨_, rfl⟩
      rw [hLY] at hly hely
      have HLY := hide hLY
      have HEY := hide hely
      clear hLY hely
      refine wp_region_planN (fun w' => Below w6.heap.size w6 w') [(0, true), (1, true), (2, true), (4, true), (5, true), (8, true), (3, false), (6, false), (7, true)] (by kernel_rfl) (by kernel_rfl) (by kernel_rfl) (by kernel_rfl) rfl (fun _ _ _ _ _ h => h) (below_drew (below_self w6)) (fun hHeld => ?_)
      simp only [planOps, List.filterMap_cons, List.filterMap_nil, List.getElem?_toArray, List.getElem?_cons_succ, List.getElem?_cons_zero, Option.map_some]
      refine wpPlan_take (v := ?_) (by kernel_rfl) (fun wS hSw => ?_) ?_
      rotate_left
      · refine execOp_load (x := .tmp 2) (k := 6) (g := w.heap.size) (off := 0) (cs := stkC g (.slice AU nU cU) (.slice AL nL cL)) ?_ stk_agg stk_size ?_ (fun j v hv => by rw [Nat.zero_add]; exact ((R06.out.on hSw).cell j).trans hv) rfl <;> rfl
      (try simp only [Act.put, List.setIfInBounds_toArray, List.set_cons_zero, List.set_cons_succ])
      refine wpPlan_take (v := ?_) (by kernel_rfl) (fun wS hSw => ?_) ?_
      rotate_left
      · (try dsimp only at hSw); go_simp; (try with_reducible rfl)
      (try simp only [Act.put, List.setIfInBounds_toArray, List.set_cons_zero, List.set_cons_succ])
      refine wpPlan_take (v := ?_) (by kernel_rfl) (fun wS hSw => ?_) ?_
      rotate_left
      · have qx := HQ0.out wS hSw; go_simp; (try with_reducible rfl)
      (try simp only [Act.put, List.setIfInBounds_toArray, List.set_cons_zero, List.set_cons_succ])
      refine wpPlan_take (v := ?_) (by kernel_rfl) (fun wS hSw => ?_) ?_
      rotate_left
      · (try dsimp only at hSw); go_simp; (try with_reducible rfl)
      (try simp only [Act.put, List.setIfInBounds_toArray, List.set_cons_zero, List.set_cons_succ])
      refine wpPlan_take (v := ?_) (by kernel_rfl) (fun wS hSw => ?_) ?_
      rotate_left
      · have qx := HQ1.out wS hSw; go_simp; (try with_reducible rfl)
      (try simp only [Act.put, List.setIfInBounds_toArray, List.set_cons_zero, List.set_cons_succ])
      refine wpPlan_take (v := ?_) (by kernel_rfl) (fun wS hSw => ?_) ?_
      rotate_left
      · (try dsimp only at hSw); go_simp; (try with_reducible rfl)
      (try simp only [Act.put, List.setIfInBounds_toArray, List.set_cons_zero, List.set_cons_succ])
      refine wpPlan_call (by kernel_rfl) (fun K hK => ?_)
      have hOld := hide hHeld
      clear hHeld
      go_simp
      go_at_call 31
      refine (Beneath_e HLY.out (B := w.heap.size) _ (HL.out.under (HBR.out.trans ((HB6.out.trans (hOld.out.mono hs6l)).mono hbsz)) (by omega)) (by have := hOld.out.size; omega) hm).mono ?_
      rintro e w' ⟨A1, n1, c1, rfl, e2, e3, hbel⟩
      have HNS := hide e3
      clear e3
      refine hK.out _ _ (hOld.out.trans (hbel.mono hOld.out.size)) (fun hHeld => ?_)
      clear hK K
      (try simp only [Act.put, List.setIfInBounds_toArray, List.set_cons_zero, List.set_cons_succ])
      refine wpPlan_call (by kernel_rfl) (fun K hK => ?_)
      have hOld := hide hHeld
      clear hHeld
      go_simp
      go_at_call 30
      refine (Entries_e HEY.out (B := w.heap.size) _ HNS.out (by have := hOld.out.size; omega) (by omega)).mono ?_
      rintro e w' ⟨C, m, d, rfl, hmd, hE, hbel⟩
      have HE := hide hE
      clear hE
      refine hK.out _ _ (hOld.out.trans (hbel.mono hOld.out.size)) (fun hHeld => ?_)
      clear hK K
      (try simp only [Act.put, List.setIfInBounds_toArray, List.set_cons_zero, List.set_cons_succ])
      refine wpPlan_take (v := ?_) (by kernel_rfl) (fun wS hSw => ?_) ?_
      rotate_left
      · (try dsimp only at hSw); go_simp; (try with_reducible rfl)
      (try simp only [Act.put, List.setIfInBounds_toArray, List.set_cons_zero, List.set_cons_succ])
      refine wpPlan_end ?_
      have HB7 := hide (HB6.out.trans (hHeld.mono hs6l))
      have hs7l := hHeld.size
      clear hHeld
      (try go_wp2_with fail)
      have HO7 := hide (HO.out.below HB7.out)
      have HBX := hide (HBR.out.trans (HB7.out.mono hbsz))
      have hs7 := HB7.out.size
      have HEM := hide HE.out.1
      have hm16 : m ≤ 16 := by have := HEM.out; omega
      go_loopw [5, 25] (fun v5 v25 wr => ∃ (i n6 : Nat) (A6 : Option Addr) (c6 : Nat), i ≤ m ∧ v25 = .int .i64 i ∧ v5 = .slice A6 n6 c6 ∧ n6 ≤ 16 * j + i ∧ Ow st wr W2.heap.size 9 A6 n6 c6 (allN ls (l.take j) ++ (EL.take i).map EntV.name) ∧ Below W2.heap.size W2 wr ∧ w'.heap.size ≤ wr.heap.size ∧ Below w.heap.size w' wr) (fun _ v25 _ => m - (intOf v25).toNat)
      case atStart => exact ⟨0, n5, A5, c5, by omega, rfl, rfl, by omega, by simpa using HO7.out, HBX.out, Nat.le_refl _, Below.refl _ _⟩
      case round =>
        obtain ⟨i, n6, A6, c6, hi, rfl, rfl, hn6, ho6, hbx, hsx, hbw⟩ := hrel
        have HO6 := hide ho6
        have HBXr := hide hbx
        have hbxs := hbx.size
        have HBW := hide hbw
        clear ho6 hbx hbw
        by_cases hlt2 : i < m
        · obtain ⟨e, he⟩ : ∃ e, EL[i]? = some e := ⟨_, List.getElem?_eq_getElem (by have := HEM.out; omega)⟩
          obtain ⟨bE, oE, rfl, hbE, hcE⟩ := ent_get ((HE.out.mono (fun b hb => HBW.out.block b hb) (fun _ h => h)) : RdE entEn wr (Under w.heap.size) C m EL) he
          have HCE := hide hcE
          have HZE := hide (RowL.new wr 70 [.int .i64 0, .int .i64 0, .string ⟨#[]⟩])
          have HNS := hide (names_snoc he (allN ls (l.take j)))
          have him : (i : Int) < (m : Int) := by omega
          clear he hcE
          go_wp2_with (first | (refine wpList_loadX rfl 70 (.tmp 27) rfl 3 entw_agg entw_size bE (oE + i * 3) rfl (cellsE e) HCE.out rfl ?_) | (refine wpList_storeW rfl 70 (.tmp 9) (.tmp 28) rfl 3 entw_size wr.heap.size 70 rfl [.int .i64 0, .int .i64 0, .string ⟨#[]⟩] (cellsE e) rfl HZE.out rfl rfl (cellsE_one e) ?_; intro w8 hr8 hg8 hs8; have hb8 := below_stored' hg8; have qn : w8.cell? ⟨wr.heap.size, 2, none⟩ = some (.string ⟨e.name.toArray⟩) := hr8.cell 2; have HB8 := hide hb8; have hs8l := hb8.size; clear hr8 hg8 hs8 hb8) | (at_builtin; refine wpList_append_Rd (f := st) _ rfl (.tmp 29) (.tmp 32) 31 rfl W2.heap.size 9 _ 16 Try.underlying31 info_st rfl (fun _ => rfl) A6 n6 c6 _ rfl ((HO6.out.below HB8.out).below (below_new (below_self w8) _)) _ _ 1 1 [e.name] rfl (Rd.one _ _ rfl) (n6 + 1) rfl (by omega) (by omega) (by simp; omega) ?_; intro A7 c7 w9 ho9 hb9; have HO9 := hide ho9; have hs9 := hb9.size; have HB9 := hide ((HBXr.out.trans ((HB8.out.mono hbxs).alloc (by omega) _)).trans hb9); have HB9w := hide ((HBW.out.trans ((HB8.out.mono (by omega)).alloc (by omega) _)).trans (hb9.mono (by omega))); clear ho9 hb9))
          have hs9' : w8.heap.size ≤ w9.heap.size := by simp at hs9; omega
          go_roundw
          case rel => exact ⟨i + 1, n6 + 1, A7, c7, by omega, by go_num, rfl, by omega, by rw [HNS.out]; exact HO9.out, HB9.out, by omega, HB9w.out⟩
          case measure => simp [intOf]; omega
        · obtain rfl : i = m := by omega
          go_wp2_with fail
          go_roundw
          case rel => exact ⟨j + 1, n6, A6, c6, by omega, by go_num, rfl, by rw [HSU.out, HEL.out]; have := HO6.out; rwa [List.take_of_length_le (l := EL) (i := i) (by have := HEM.out; omega)] at this, HBXr.out⟩
          case measure => simp [intOf]; omega
    · obtain rfl : j = n := by omega
      have ho := HO.out
      rw [List.take_of_length_le (by have := HPL.out; omega)] at ho
      have HOF := hide ho
      have hll := HPL.out
      clear ho hll
      go_wp2_with fail
      refine (NSort_any wo HOF.out.rd (by omega)).mono ?_
      rintro ez w3 ⟨A3, c3, rfl, ho3, hb3⟩
      have HO3 := hide ho3
      have HB3 := hide (HBR.out.trans (hb3.mono hbsz))
      have hs3 := hb3.size
      have hsl3 := sortS_length (allN ls l)
      have hl0 := HOF.out.rd.len
      have hsb : (sortS (allN ls l)).length ≤ 100000 := by omega
      clear hb3 ho3 hsl3 hl0
      go_wp2_with fail
      refine (DelS_any (p := hidS ls l) (B0 := W2.heap.size) (base := wo.heap.size) w3 HO3.out hsb (fun W nm r hr hk hs => HidN_any hr W (HCX.out.kept (B0 := W2.heap.size) (fun b hb => (hk b hb).trans (HB3.out.block b hb)) (by omega) (by omega) (by omega) (by omega)) HF.out hn) hbsz (by omega)).mono ?_
      rintro ez w4 ⟨A4, c4, n4, rfl, hr4, hb4⟩
      have HR4 := hide hr4
      have HB4 := hide (HB2.out.trans ((HB3.out.trans hb4).mono (by omega)))
      clear hr4 hb4
      go_wp2_with fail
      go_ret
      exact ⟨A4, n4, c4, rfl, HR4.out, HB4.out⟩
end Go.Proofs.Ytnehkgbdppbhiaa

/- The reference's Names (layer 16). -/
namespace Go.Proofs.Ytnehkgbdppbhiaa
open Go.RowKit Go.Shelf Plain

def keepS (ls : List (List NodV)) (l : List (Int × Int)) (x : List UInt8) : Bool := !hidS ls l x
theorem namesL_ref (ls : List (List NodV)) (l : List (Int × Int)) : namesL ls l = sortS ((allN ls l).filter (keepS ls l)) := sort_filter _ _
theorem keep_snoc {q : List UInt8 → Bool} {l : List EntV} {i : Nat} {e : EntV} (h : l[i]? = some e) (a : List (List UInt8)) {b : Bool} (hb : q e.name = b) : (a ++ (l.take (i + 1)).map EntV.name).filter q = if b = true then (a ++ (l.take i).map EntV.name).filter q ++ [e.name] else (a ++ (l.take i).map EntV.name).filter q := by
  rw [names_snoc h, List.filter_append]
  cases b <;> simp [hb]
theorem run_append_Rd' {α : Type} {f : α → Value} {P : Program} (w : World) (base : Nat) (t ty e : TypeId) (z : Value) (k : Nat) (ht : P.underlying t = some (.slice e)) (hinfo : (P.info? e).map (fun i => (i.zero, i.size, i.bytes)) = some (some z, 1, k)) (hzs : z.cells.size = 1)
    (h1 : ∀ x, (f x).oneCell' = true)
    (v : Value) (n : Nat) (l0 : List α) (hown : w.ownsRow base e 1 v n (l0.map f)) (B : Nat) (A : Option Addr) (m c : Nat) (l1 : List α) (hb : Rd f w B A m l1)
    (hbytes : (n + m) * k ≤ 140737488355328) (hnm : n + m ≤ 140737488355328) (hbase : base ≤ w.heap.size) :
    ∃ v' w', (Builtin.append_ #[t, t] ty #[v, .slice A m c]).run P w = .ok v' w' ∧ w'.ownsRow base e 1 v' (n + m) ((l0 ++ l1).map f) ∧ Below base w w' ∧ w.grownBy w' v.ownBlock := by
  obtain ⟨i, hi, hz, hsz, hby⟩ := info_parts hinfo
  rw [List.map_append]
  cases A with
  | none =>
    have hm : m = 0 := by
      rcases Nat.eq_zero_or_pos m with h0 | h0
      · exact h0
      · obtain ⟨_, _, h, _⟩ := hb.2 h0; cases h
    subst hm
    obtain rfl : l1 = [] := List.eq_nil_of_length_eq_zero hb.1
    exact ⟨v, w, run_append_nil0 w base t ty e i 1 ht hi v n _ hown c, by simpa using hown, Below.refl _ _, World.grownBy.refl _ _⟩
  | some ad =>
    have hcells : ∀ j u, (l1.map f)[j]? = some u → w.cell? (ad.add j) = some u := by
      intro j u hu
      rw [List.getElem?_map, Option.map_eq_some_iff] at hu
      obtain ⟨x, hx, rfl⟩ := hu
      have hj : j < l1.length := (List.getElem?_eq_some_iff.1 hx).1
      obtain ⟨b, o, e, _, hc⟩ := hb.2 (by have := hb.1; omega)
      injection e with e
      subst e
      rw [← hc j x hx]
      congr 1
      unfold Addr.add
      split
      · rename_i h0; subst h0; rfl
      · rfl
    obtain ⟨v', w', hr, h2, h3, _⟩ := run_append_own (P := P) w base t ty e i z 1 k ht hi hz hsz hby hzs (by omega) v n _ hown ad m c (l1.map f) (by rw [List.length_map]; have := hb.1; omega) hcells (map_one h1 _)
      (by simp only [maxLen]; omega) hbytes hbase
    exact ⟨v', w', hr, h2, Below.of_grown_own hown h3 hbase, h3⟩
theorem wpList_append_Rd' {α : Type} {f : α → Value} {P : Program} (w : World) {ops : Array Oper} {rest : List Oper} {o : Oper} {a : Act} {Q : Exit → Act → World → Prop} (hgd : o.guard = none) (s x : Operand) (t : TypeId)
    (ho : o.op = .call { callee := .builtin .append, args := #[s, x], argTypes := #[t, t] })
    (base : Nat) (e : TypeId) (z : Value) (k : Nat) (ht : P.underlying t = some (.slice e)) (hinfo : (P.info? e).map (fun i => (i.zero, i.size, i.bytes)) = some (some z, 1, k)) (hzs : z.cells.size = 1)
    (h1 : ∀ x, (f x).oneCell' = true)
    (A0 : Option Addr) (n c0 : Nat) (l0 : List α) (hs : a.eval s = .slice A0 n c0) (hown : Ow f w base e A0 n c0 l0) (B : Nat) (A : Option Addr) (m c : Nat) (l1 : List α) (hx : a.eval x = .slice A m c) (hb : Rd f w B A m l1)
    (N : Nat) (hN : n + m = N) (hbytes : N * k ≤ 140737488355328) (hnm : N ≤ 140737488355328) (hbase : base ≤ w.heap.size)
    (h : ∀ A' c' w', Ow f w' base e A' N c' (l0 ++ l1) → Below base w w' → w.grownBy w' (Value.slice A0 n c0).ownBlock → wpList P ops Q rest (a.put o.dst (.slice A' N c')) w') : wpList P ops Q (o :: rest) a w := by
  subst hN
  refine wpList_plain hgd fun K hK => ?_
  obtain ⟨v', w', hr, h2, h3, h4⟩ := run_append_Rd' (P := P) w base t o.type e z k ht hinfo hzs h1 _ n l0 hown B A m c l1 hb hbytes hnm hbase
  unfold Oper.wp execOp
  simp only [ho, resolve, invoke, builtin, Sem.run_bind, Sem.run_pure, Result.andThen_ok, List.map_toArray, List.map_cons, List.map_nil, hs, hx, hr]
  obtain ⟨A', c', rfl, h5⟩ := Ow.of h2
  exact hK _ _ (h A' c' w' h5 h3 h4)
set_option maxRecDepth 100000 in
set_option maxHeartbeats 16000000 in
theorem RNames_any {g : GeoQ} {AU AL AP : Option Addr} {nU cU nL cL n cP : Nat} {ls : List (List NodV)} {l : List (Int × Int)} (w : World) (h : RdE layEn w (Under w.heap.size) AL nL ls) (hp : RdE prEn w (Under w.heap.size) AP n l) (hF : FewL ls) (hn : n ≤ 1000) :
    Calls Try.prog 16 #[.agg (stkC g (.slice AU nU cU) (.slice AL nL cL)).toArray, .slice AP n cP] w (NamesRet w (namesL ls l)) := by
  have r0 := RowL.new w 29 (stkC g (.slice AU nU cU) (.slice AL nL cL))
  have hb1 := below_new (below_self w) (.cells (stkC g (.slice AU nU cU) (.slice AL nL cL)).toArray 29)
  obtain ⟨W1, hW1⟩ : ∃ W1, w.alloc (.cells (stkC g (.slice AU nU cU) (.slice AL nL cL)).toArray 29) = W1 := ⟨_, rfl⟩
  rw [hW1] at r0 hb1
  have hW1' : w.alloc (.cells #[.int .i64 g.a, .int .i64 g.b, .int .i64 g.c, .int .i64 g.d, .slice AU nU cU, .slice AL nL cL] 29) = W1 := hW1
  have hm : ls.length ≤ 100 := by have := hF.1; omega
  have HM2 := hide (fun ns (hh : ns ∈ ls) => (show ns.length ≤ 1000 from Nat.le_trans (hF.2 ns hh).1 (by omega)))
  have R0 := hide r0
  have HB1 := hide hb1
  have hs1 := hb1.size
  have HL := hide (h.under hb1 (Nat.le_refl _))
  have HP := hide (hp.under hb1 (Nat.le_refl _))
  have HPL := hide hp.1
  have HF := hide hF
  have HAL := hide (fun k => (show (allN ls (l.take k)).length ≤ 16 * k from Nat.le_trans (allN_len hF _) (Nat.mul_le_mul_left _ (by rw [List.length_take]; omega))))
  have HO0 := hide (show Ow st (W1.alloc (.cells #[] 9)) W1.heap.size 9 (some ⟨W1.heap.size, 0, none⟩) 0 0 [] from own_lit0 W1 9 1 (base := W1.heap.size) rfl (Nat.le_refl _))
  have HW0 := hide (below_new (below_self W1) (.cells #[] 9))
  rw [namesL_ref]
  unfold stkC
  clear r0 hb1 hW1 h hp hF
  go_enter Try.func16, Try.ntmps16
  go_wp2_with fail
  clear hW1'
  go_loopw [5, 6] (fun v5 v6 wr => ∃ (j n5 : Nat) (A5 : Option Addr) (c5 : Nat), j ≤ n ∧ v6 = .int .i64 j ∧ v5 = .slice A5 n5 c5 ∧ Ow st wr W1.heap.size 9 A5 n5 c5 ((allN ls (l.take j)).filter (keepS ls l)) ∧ Below W1.heap.size W1 wr) (fun _ v6 _ => n - (intOf v6).toNat)
  case atStart => exact ⟨0, 0, _, 0, by omega, rfl, rfl, HO0.out, HW0.out⟩
  case round =>
    rename World => wo
    obtain ⟨j, n5, A5, c5, hj, rfl, rfl, ho, hbr⟩ := hrel
    have hn5 : n5 ≤ 16 * j := by rw [← ho.rd.len]; exact Nat.le_trans (List.length_filter_le _ _) (HAL.out j)
    have HO := hide ho
    have HBR := hide hbr
    have hbsz := hbr.size
    have R0r := hide (R0.out.on hbr)
    have HLR := hide (fun W (hb : Below wo.heap.size wo W) => HL.out.under (hbr.trans (hb.mono hbsz)) hs1)
    clear ho hbr
    by_cases hlt : j < n
    · obtain ⟨p, hp⟩ : ∃ p, l[j]? = some p := ⟨_, List.getElem?_eq_getElem (by have := HPL.out; omega)⟩
      obtain ⟨bP, oP, eP, hbP, hcP⟩ := pr_get (HP.out.under HBR.out hs1) hp
      have HCP := hide hcP
      have HSU := hide (allN_succ (ls := ls) hp)
      obtain ⟨N, hN⟩ : ∃ N, lowAt ls p.1 p.2 = N := ⟨_, rfl⟩
      have hel := (low_plain HF.out p.1 p.2).2.2.2.2.1
      rw [hN] at hel
      obtain ⟨EL, hEL⟩ : ∃ EL, entL ls p = EL := ⟨_, rfl⟩
      have HELN := hide (show EL = if N.k = 1 then N.ents else [] from by rw [← hEL]; unfold entL; rw [hN])
      have HEL := hide hEL
      have HN := hide hN
      have hjn : (j : Int) < (n : Int) := by omega
      have hbPr : bP < wo.heap.size := by have : bP < w.heap.size := hbP; omega
      subst eP
      clear hp hcP hEL hN
      go_upto_region 5 with fail
      go_cut [7] from 18 to 23 (fun v7 wx => ∃ g7 A1 n1 c1 C1 m1 d1, v7 = .pointer (some ⟨g7, 0, none⟩) ∧ RowL wx g7 59 (nodC N (.slice A1 n1 c1) (.slice C1 m1 d1)) ∧ RdE entEn wx (Under w.heap.size) C1 m1 N.ents ∧ Below wo.heap.size wo wx)
      case first =>
        refine wp_region_G (fun w' => Below wo.heap.size wo w') (.take 0 (.take 1 (.take 2 (.take 3 (.take 4 (.alt 5 (.alt 6 (.alt 7 .leaf .stop) .stop) (.alt 6 (.alt 5 (.alt 7 .leaf .stop) .stop) .stop))))))) (by kernel_rfl) (by kernel_rfl) (by kernel_rfl) (by kernel_rfl) rfl (fun _ _ _ _ _ h => h) (below_drew (below_self wo)) (fun hHeld => ?_)
        generalize wo.drew = wd at *
        simp only [PT.map, List.getElem?_toArray, List.getElem?_cons_succ, List.getElem?_cons_zero]
        refine wpPT_take (v := ?_) (by kernel_rfl) (fun wS hSw => ?_) ?_
        rotate_left
        · refine execOp_load (x := .tmp 2) (k := 6) (g := w.heap.size) (off := 0) (cs := stkC g (.slice AU nU cU) (.slice AL nL cL)) ?_ stk_agg stk_size ?_ (fun j' v hv => by rw [Nat.zero_add]; exact ((R0r.out.on hSw).cell j').trans hv) rfl <;> rfl
        (try simp only [Act.put, List.setIfInBounds_toArray, List.set_cons_zero, List.set_cons_succ])
        refine wpPT_take (v := ?_) (by kernel_rfl) (fun wS hSw => ?_) ?_
        rotate_left
        · (try dsimp only at hSw); go_simp; (try with_reducible rfl)
        (try simp only [Act.put, List.setIfInBounds_toArray, List.set_cons_zero, List.set_cons_succ])
        refine wpPT_take (v := ?_) (by kernel_rfl) (fun wS hSw => ?_) ?_
        rotate_left
        · (try dsimp only at hSw); go_simp; (try with_reducible rfl)
        (try simp only [Act.put, List.setIfInBounds_toArray, List.set_cons_zero, List.set_cons_succ])
        refine wpPT_take (v := ?_) (by kernel_rfl) (fun wS hSw => ?_) ?_
        rotate_left
        · (try dsimp only at hSw); go_simp; (try with_reducible rfl)
        (try simp only [Act.put, List.setIfInBounds_toArray, List.set_cons_zero, List.set_cons_succ])
        refine wpPT_take (v := ?_) (by kernel_rfl) (fun wS hSw => ?_) ?_
        rotate_left
        · refine execOp_load (x := .tmp 21) (k := 2) (g := bP) (off := oP + j * 2) (cs := prC p) ?_ plc_agg plc_size ?_ (fun j' v hv => (hSw.cell (p := ⟨bP, oP + j * 2 + j', none⟩) hbPr).trans (HCP.out j' v hv)) rfl <;> rfl
        (try simp only [Act.put, List.setIfInBounds_toArray, List.set_cons_zero, List.set_cons_succ])
        refine wpPT_alt (by kernel_rfl) (fun K hK => ?_) ?_
        · skip
          have hOld := hide hHeld
          clear hHeld
          go_simp
          go_at_call 26
          refine (RLower_e HN.out _ (HLR.out _ hOld.out) (by have := hOld.out.size; omega) hm HM2.out).mono ?_
          rintro e w' ⟨A1, n1, c1, C1, m1, d1, rfl, e2, e3, e4, e5, hbel⟩
          have hsC := (hOld.out.trans (hbel.mono hOld.out.size)).size
          have E5 := hide e5
          clear e3 e5
          refine hK.out _ _ (hOld.out.trans (hbel.mono hOld.out.size)) (fun hHeld => ?_)
          clear hK K
          (try simp only [Act.put, List.setIfInBounds_toArray, List.set_cons_zero, List.set_cons_succ])
          refine wpPT_alt (by kernel_rfl) (fun K hK => ?_) ?_
          rotate_left
          · exact wpPT_stop
          have hOld := hide hHeld
          clear hHeld
          unfold Oper.wp execOp
          go_simp
          refine hK.out _ _ (hOld.out.alloc hOld.out.size _) (fun hHeld => ?_)
          clear hK K
          (try simp only [Act.put, List.setIfInBounds_toArray, List.set_cons_zero, List.set_cons_succ])
          refine wpPT_alt (by kernel_rfl) (fun K hK => ?_) ?_
          rotate_left
          · exact wpPT_stop
          have hOld := hide hHeld
          clear hHeld
          refine wp_storeC 59 (.tmp 7) (.tmp 23) rfl 13 nod_size w'.heap.size 0 59 rfl (nodC nod0 (.slice none 0 0) (.slice none 0 0)) (nodC N (.slice A1 n1 c1) (.slice C1 m1 d1)) rfl (RowL.new w' 59 (nodC nod0 (.slice none 0 0) (.slice none 0 0))) rfl (by exact Nat.le_refl _) (nodC_one _ _ _ _ _ _ _) ?_
          intro w9 hr9 hg9 hs9
          rw [splice_all (nodC nod0 (.slice none 0 0) (.slice none 0 0)) (nodC N (.slice A1 n1 c1) (.slice C1 m1 d1)) rfl] at hr9
          refine hK.out _ _ (hOld.out.grown hg9 hOld.out.size (fun k hk => by have := Option.some.inj hk; omega)) (fun hHeld => ?_)
          clear hK K
          have HR7 := hide hr9
          have E9 := hide (E5.out.under (below_stored' hg9) (by omega))
          clear hr9 hg9 hs9
          (try simp only [Act.put])
          refine wpPT_leaf ?_
          have HBX' := hide hHeld
          clear hHeld hOld
          go_wp2_with fail
          go_meet
          case rel => exact ⟨w'.heap.size, A1, n1, c1, C1, m1, d1, rfl, HR7.out, E9.out, HBX'.out⟩
        refine wpPT_alt (by kernel_rfl) (fun K hK => ?_) ?_
        · skip
          have hOld := hide hHeld
          clear hHeld
          have hsW := hOld.out.size
          unfold Oper.wp execOp
          go_simp
          refine hK.out _ _ (hOld.out.alloc hOld.out.size _) (fun hHeld => ?_)
          clear hK K
          (try simp only [Act.put, List.setIfInBounds_toArray, List.set_cons_zero, List.set_cons_succ])
          refine wpPT_alt (by kernel_rfl) (fun K hK => ?_) ?_
          rotate_left
          · exact wpPT_stop
          have hOld := hide hHeld
          clear hHeld
          go_simp
          go_at_call 26
          refine (RLower_e HN.out _ (HLR.out _ hOld.out) (by have := hOld.out.size; omega) hm HM2.out).mono ?_
          rintro e w' ⟨A1, n1, c1, C1, m1, d1, rfl, e2, e3, e4, e5, hbel⟩
          have hsC := (hOld.out.trans (hbel.mono hOld.out.size)).size
          have E5 := hide e5
          clear e3 e5
          have HBX := hide ((RowL.new wd 59 (nodC nod0 (.slice none 0 0) (.slice none 0 0))).on hbel)
          have hsD := hbel.size
          simp only [World.size_alloc] at hsD
          refine hK.out _ _ (hOld.out.trans (hbel.mono hOld.out.size)) (fun hHeld => ?_)
          clear hK K
          (try simp only [Act.put, List.setIfInBounds_toArray, List.set_cons_zero, List.set_cons_succ])
          refine wpPT_alt (by kernel_rfl) (fun K hK => ?_) ?_
          rotate_left
          · exact wpPT_stop
          have hOld := hide hHeld
          clear hHeld
          refine wp_storeC 59 (.tmp 7) (.tmp 23) rfl 13 nod_size wd.heap.size 0 59 rfl (nodC nod0 (.slice none 0 0) (.slice none 0 0)) (nodC N (.slice A1 n1 c1) (.slice C1 m1 d1)) rfl HBX.out rfl (by exact Nat.le_refl _) (nodC_one _ _ _ _ _ _ _) ?_
          intro w9 hr9 hg9 hs9
          rw [splice_all (nodC nod0 (.slice none 0 0) (.slice none 0 0)) (nodC N (.slice A1 n1 c1) (.slice C1 m1 d1)) rfl] at hr9
          refine hK.out _ _ (hOld.out.grown hg9 hOld.out.size (fun k hk => by have := Option.some.inj hk; omega)) (fun hHeld => ?_)
          clear hK K
          have HR7 := hide hr9
          have E9 := hide (E5.out.mono (fun b hb => hg9.block b (by unfold Under at hb; omega) (fun e => by have := Option.some.inj e; unfold Under at hb; omega)) (fun _ h => h))
          clear hr9 hg9 hs9
          (try simp only [Act.put])
          refine wpPT_leaf ?_
          have HBX' := hide hHeld
          clear hHeld hOld
          go_wp2_with fail
          go_meet
          case rel => exact ⟨wd.heap.size, A1, n1, c1, C1, m1, d1, rfl, HR7.out, E9.out, HBX'.out⟩
        exact wpPT_stop
      case rest =>
      obtain ⟨g7, A1, n1, c1, C1, m1, d1, rfl, hr7, hE, hbx⟩ := hcut
      have HR7 := hide hr7
      have HE := hide hE
      have HOX := hide (HO.out.below hbx)
      have HBX := hide (HBR.out.trans (hbx.mono hbsz))
      have hsx := hbx.size
      have R0x := hide (R0r.out.on hbx)
      have hg7 := hr7.lt
      have HEM := hide hE.1
      have hm16 : m1 ≤ 16 := by have := HEM.out; omega
      obtain ⟨bk, hbk⟩ : ∃ bk, (N.k == 1) = bk := ⟨_, rfl⟩
      have HELB := hide (show EL = if bk = true then N.ents else [] from by
        rw [HELN.out, ← hbk]
        by_cases hk : N.k = 1 <;> simp [hk])
      clear hr7 hE hbx
      go_wp2_with fail
      go_loopw [5, 8] (fun v5 v8 wr => ∃ (i n6 : Nat) (A6 : Option Addr) (c6 : Nat), i ≤ EL.length ∧ v8 = .int .i64 i ∧ v5 = .slice A6 n6 c6 ∧ n6 ≤ 16 * j + i ∧ Ow st wr W1.heap.size 9 A6 n6 c6 ((allN ls (l.take j) ++ (EL.take i).map EntV.name).filter (keepS ls l)) ∧ Below W1.heap.size W1 wr ∧ Below W1.heap.size wc wr ∧ RowL wr g7 59 (nodC N (.slice A1 n1 c1) (.slice C1 m1 d1)) ∧ wc.heap.size ≤ wr.heap.size) (fun _ v8 _ => m1 - (intOf v8).toNat)
      case atStart => exact ⟨0, n5, A5, c5, by omega, rfl, rfl, by omega, by simpa using HOX.out, HBX.out, Below.refl _ _, HR7.out, Nat.le_refl _⟩
      case round =>
        obtain ⟨i, n6, A6, c6, hi, rfl, rfl, hn6, ho6, hbi, hbc, hri, hsi⟩ := hrel
        have HO6 := hide ho6
        have HBI := hide hbi
        have HRI := hide hri
        have HBC := hide hbc
        have qs : wr.cell? ⟨g7, 5, none⟩ = some (.slice C1 m1 d1) := hri.cell 5
        have qk : wr.cell? ⟨g7, 0, none⟩ = some (.int .i64 N.k) := hri.cell 0
        have R0i := hide (show RowL wr w.heap.size 29 (stkC g (.slice AU nU cU) (.slice AL nL cL)) from (HBI.out.block w.heap.size (by have := R0.out.lt; exact this)).trans R0.out)
        have hE6 := HE.out.mono (fun b hb => HBC.out.block b (by unfold Under at hb; omega)) (fun _ h => h)
        have HE6 := hide (hE6 : RdE entEn wr (Under w.heap.size) C1 m1 N.ents)
        have hbis := hbi.size
        clear ho6 hbi hri hbc hE6
        by_cases hlt2 : i < EL.length
        · obtain rfl : bk = true := by
            cases bk with
            | true => rfl
            | false => rw [HELB.out] at hlt2; simp at hlt2
          have hELe : EL = N.ents := by rw [HELB.out]; simp
          obtain ⟨e, he⟩ : ∃ e, EL[i]? = some e := ⟨_, List.getElem?_eq_getElem hlt2⟩
          have he2 : N.ents[i]? = some e := by rw [← hELe]; exact he
          have hi1 : i < m1 := by rw [hELe] at hlt2; have := HEM.out; omega
          obtain ⟨bE, oE, rfl, hbE, hcE⟩ := ent_get HE6.out he2
          have hbE' : bE < wr.heap.size := by have : bE < w.heap.size := hbE; omega
          have qn : wr.cell? ⟨bE, oE + i * 3 + 2, none⟩ = some (.string ⟨e.name.toArray⟩) := hcE 2 _ rfl
          have HQM := hide (fun W (hb : Below wr.heap.size wr W) => show W.cell? ⟨bE, oE + i * 3 + 2, none⟩ = some (.string ⟨e.name.toArray⟩) from (hb.cell (p := ⟨bE, oE + i * 3 + 2, none⟩) hbE').trans qn)
          have HQE := hide (fun W (hb : Below wr.heap.size wr W) => show W.cell? ⟨g7, 5, none⟩ = some (.slice (some ⟨bE, oE, none⟩) m1 d1) from (HRI.out.on hb).cell 5)
          have HLI := hide (fun W (hb : Below wr.heap.size wr W) => HL.out.under (HBI.out.trans (hb.mono hbis)) hs1)
          have HPI := hide (fun W (hb : Below wr.heap.size wr W) => (HP.out.under (HBI.out.trans (hb.mono hbis)) hs1).mono (fun _ _ => rfl) (fun b hb' => Nat.lt_of_lt_of_le hb' (Nat.le_trans hs1 (Nat.le_trans hbis hb.size))))
          obtain ⟨R, hRR⟩ : ∃ R, findL ls e.name l [] = R := ⟨_, rfl⟩
          obtain ⟨b2, hb2⟩ : ∃ b2, (R.1 != 0) = b2 := ⟨_, rfl⟩
          have HKS := hide (keep_snoc (q := keepS ls l) he (allN ls (l.take j)) (b := b2) (by
            rw [← hb2, ← hRR]
            unfold keepS hidS
            by_cases hk : (findL ls e.name l []).1 = 0 <;> simp [hk]))
          have HRR := hide hRR
          have him : (i : Int) < (m1 : Int) := by omega
          clear he he2 hcE qn hRR hELe
          go_wp2_with fail
          clear qs qk
          refine wp_region_planN (fun w' => Below wr.heap.size wr w') [(0, true), (1, true), (2, true), (3, true), (4, true), (5, true), (6, true), (7, true), (8, false), (9, true), (10, true), (11, true), (12, true), (13, true)] (by kernel_rfl) (by kernel_rfl) (by kernel_rfl) (by kernel_rfl) rfl (fun _ _ _ _ _ h => h) (below_drew (below_self wr)) (fun hHeld => ?_)
          simp only [planOps, List.filterMap_cons, List.filterMap_nil, List.getElem?_toArray, List.getElem?_cons_succ, List.getElem?_cons_zero, Option.map_some]
          refine wpPlan_take (v := ?_) (by kernel_rfl) (fun wS hSw => ?_) ?_
          rotate_left
          · refine execOp_load (x := .tmp 2) (k := 6) (g := w.heap.size) (off := 0) (cs := stkC g (.slice AU nU cU) (.slice AL nL cL)) ?_ stk_agg stk_size ?_ (fun j' v hv => by rw [Nat.zero_add]; exact ((R0i.out.on hSw).cell j').trans hv) rfl <;> rfl
          (try simp only [Act.put, List.setIfInBounds_toArray, List.set_cons_zero, List.set_cons_succ])
          refine wpPlan_take (v := ?_) (by kernel_rfl) (fun wS hSw => ?_) ?_
          rotate_left
          · (try dsimp only at hSw); go_simp; (try with_reducible rfl)
          (try simp only [Act.put, List.setIfInBounds_toArray, List.set_cons_zero, List.set_cons_succ])
          refine wpPlan_take (v := ?_) (by kernel_rfl) (fun wS hSw => ?_) ?_
          rotate_left
          · (try dsimp only at hSw); go_simp; (try with_reducible rfl)
          (try simp only [Act.put, List.setIfInBounds_toArray, List.set_cons_zero, List.set_cons_succ])
          refine wpPlan_take (v := ?_) (by kernel_rfl) (fun wS hSw => ?_) ?_
          rotate_left
          · have qx := HQE.out wS hSw; go_simp; (try with_reducible rfl)
          (try simp only [Act.put, List.setIfInBounds_toArray, List.set_cons_zero, List.set_cons_succ])
          refine wpPlan_take (v := ?_) (by kernel_rfl) (fun wS hSw => ?_) ?_
          rotate_left
          · (try dsimp only at hSw); go_simp; (try with_reducible rfl)
          (try simp only [Act.put, List.setIfInBounds_toArray, List.set_cons_zero, List.set_cons_succ])
          refine wpPlan_take (v := ?_) (by kernel_rfl) (fun wS hSw => ?_) ?_
          rotate_left
          · (try dsimp only at hSw); go_simp; (try with_reducible rfl)
          (try simp only [Act.put, List.setIfInBounds_toArray, List.set_cons_zero, List.set_cons_succ])
          refine wpPlan_take (v := ?_) (by kernel_rfl) (fun wS hSw => ?_) ?_
          rotate_left
          · (try dsimp only at hSw); go_simp; (try with_reducible rfl)
          (try simp only [Act.put, List.setIfInBounds_toArray, List.set_cons_zero, List.set_cons_succ])
          refine wpPlan_take (v := ?_) (by kernel_rfl) (fun wS hSw => ?_) ?_
          rotate_left
          · have qx := HQM.out wS hSw; go_simp; (try with_reducible rfl)
          (try simp only [Act.put, List.setIfInBounds_toArray, List.set_cons_zero, List.set_cons_succ])
          refine wpPlan_call (by kernel_rfl) (fun K hK => ?_)
          have hOld := hide hHeld
          clear hHeld
          go_simp
          go_at_call 8
          refine (RFind_e HRR.out _ (HLI.out _ hOld.out) (HPI.out _ hOld.out) (by have := hOld.out.size; omega) HF.out hn).mono ?_
          rintro e w' ⟨A2, c2, rfl, hc2, hr2, hbel⟩
          clear hr2
          refine hK.out _ _ (hOld.out.trans (hbel.mono hOld.out.size)) (fun hHeld => ?_)
          clear hK K
          (try simp only [Act.put, List.setIfInBounds_toArray, List.set_cons_zero, List.set_cons_succ])
          refine wpPlan_take (v := ?_) (by kernel_rfl) (fun wS hSw => ?_) ?_
          rotate_left
          · (try dsimp only at hSw); go_simp; (try with_reducible rfl)
          (try simp only [Act.put, List.setIfInBounds_toArray, List.set_cons_zero, List.set_cons_succ])
          refine wpPlan_take (v := ?_) (by kernel_rfl) (fun wS hSw => ?_) ?_
          rotate_left
          · (try dsimp only at hSw); go_simp; (try with_reducible rfl)
          (try simp only [Act.put, List.setIfInBounds_toArray, List.set_cons_zero, List.set_cons_succ])
          refine wpPlan_take (v := ?_) (by kernel_rfl) (fun wS hSw => ?_) ?_
          rotate_left
          · (try dsimp only at hSw); go_simp; (try with_reducible rfl)
          (try simp only [Act.put, List.setIfInBounds_toArray, List.set_cons_zero, List.set_cons_succ])
          refine wpPlan_take (v := ?_) (by kernel_rfl) (fun wS hSw => ?_) ?_
          rotate_left
          · (try dsimp only at hSw); go_simp; (try with_reducible rfl)
          (try simp only [Act.put, List.setIfInBounds_toArray, List.set_cons_zero, List.set_cons_succ])
          refine wpPlan_take (v := ?_) (by kernel_rfl) (fun wS hSw => ?_) ?_
          rotate_left
          · (try dsimp only at hSw); go_simp; (try with_reducible rfl)
          (try simp only [Act.put, List.setIfInBounds_toArray, List.set_cons_zero, List.set_cons_succ])
          refine wpPlan_end ?_
          have HO7 := hide (HO6.out.below hHeld)
          have hr7' := HRI.out.on hHeld
          have qs' : w'.cell? ⟨g7, 5, none⟩ = some (.slice (some ⟨bE, oE, none⟩) m1 d1) := hr7'.cell 5
          have qn' := HQM.out w' hHeld
          have HR7' := hide hr7'
          have HBI' := hide (HBI.out.trans (hHeld.mono hbis))
          have HBC' := hide (HBC.out.trans (hHeld.mono (by omega)))
          have hsH := hHeld.size
          clear hHeld hr7'
          cases b2 with
          | false =>
            go_wp2_with fail
            go_roundw
            case rel => exact ⟨i + 1, n6, A6, c6, by omega, by go_num, rfl, by omega, by rw [HKS.out, if_neg (by simp)]; exact HO7.out, HBI'.out, HBC'.out, HR7'.out, by omega⟩
            case measure => simp [intOf]; omega
          | true =>
            go_wp2_with (at_builtin; refine wpList_append_Rd' (f := st) _ rfl (.tmp 50) (.tmp 57) 31 rfl W1.heap.size 9 _ 16 Try.underlying31 info_st rfl (fun _ => rfl) A6 n6 c6 _ rfl (HO7.out.below (below_new (below_self w') _)) _ _ 1 1 [e.name] rfl (Rd.one _ _ rfl) (n6 + 1) rfl (by omega) (by omega) (by simp; omega) ?_; intro A7 c7 w9 ho9 hb9 hg9; have HO9 := hide ho9; have hs9 := hb9.size; have HB9 := hide ((HBI'.out.alloc (by omega) _).trans hb9); have HBC9 := hide ((HBC'.out.alloc (by omega) _).trans hb9); have hba := below_new (below_self w') (.cells #[.string ⟨e.name.toArray⟩] 9); have HR9 := hide ((HR7'.out.on hba).grown hg9 (row_apart (HO7.out.below hba) (HR7'.out.on hba) (by decide))); clear ho9 hb9 hg9 hba)
            have hs9' : w'.heap.size ≤ w9.heap.size := by simp at hs9; omega
            go_roundw
            case rel => exact ⟨i + 1, n6 + 1, A7, c7, by omega, by go_num, rfl, by omega, by rw [HKS.out, if_pos (by simp)]; exact HO9.out, HB9.out, HBC9.out, HR9.out, by omega⟩
            case measure => simp [intOf]; omega
        · obtain rfl : i = EL.length := by omega
          have hfin : Ow st wr W1.heap.size 9 A6 n6 c6 ((allN ls (l.take (j + 1))).filter (keepS ls l)) := by
            rw [HSU.out, HEL.out]
            have := HO6.out
            rwa [List.take_of_length_le (l := EL) (i := EL.length) (Nat.le_refl _)] at this
          have hEl16 : EL.length ≤ 16 := by rw [← HEL.out]; exact entL_len HF.out p
          have HFIN := hide hfin
          clear hfin
          cases bk with
          | true =>
            have hELe : EL.length = m1 := by rw [← HEM.out, HELB.out]; simp
            rw [hELe]
            clear hELe
            go_wp2_with fail
            go_roundw
            case rel => exact ⟨j + 1, n6, A6, c6, by omega, by go_num, rfl, HFIN.out, HBI.out⟩
            case measure => simp [intOf]; omega
          | false =>
            have hELe : EL.length = 0 := by rw [HELB.out]; simp
            rw [hELe]
            clear hELe
            by_cases hm0 : 0 < m1
            · have hm0' : (0 : Int) < (m1 : Int) := by omega
              go_wp2_with fail
              go_roundw
              case rel => exact ⟨j + 1, n6, A6, c6, by omega, by go_num, rfl, HFIN.out, HBI.out⟩
              case measure => simp [intOf]; omega
            · obtain rfl : m1 = 0 := by omega
              go_wp2_with fail
              go_roundw
              case rel => exact ⟨j + 1, n6, A6, c6, by omega, by go_num, rfl, HFIN.out, HBI.out⟩
              case measure => simp [intOf]; omega
    · obtain rfl : j = n := by omega
      have ho := HO.out
      rw [List.take_of_length_le (by have := HPL.out; omega)] at ho
      have HOF := hide ho
      clear ho
      go_wp2_with fail
      refine (RSort_any wo HOF.out.rd (by omega)).mono ?_
      rintro ez w3 ⟨A3, c3, rfl, ho3, hb3⟩
      have HO3 := hide ho3
      have HB3 := hide (HB1.out.trans ((HBR.out.trans (hb3.mono hbsz)).mono hs1))
      clear hb3 ho3
      go_wp2_with fail
      go_ret
      exact ⟨A3, _, c3, rfl, HO3.out.rd, HB3.out⟩
end Go.Proofs.Ytnehkgbdppbhiaa

/- Roots, and the reference's (layer 16). -/
namespace Go.Proofs.Ytnehkgbdppbhiaa
open Go.RowKit Go.Shelf Plain

/-- The roots, from the layer j on. -/
def rootsL : List (List NodV) → Nat → List (Int × Int)
  | [], _ => []
  | ns :: r, j => if (nodAt ns 1).k = 1 then (if opq (nodAt ns 1) = true then [((j : Int) + 1, 1)] else ((j : Int) + 1, 1) :: rootsL r (j + 1)) else rootsL r (j + 1)
theorem low_get {ls : List (List NodV)} {j : Nat} {ns : List NodV} {i : Int} (h : ls[j]? = some ns) : lowAt ls ((j : Int) + 1) i = nodAt ns i := by
  have hj := (List.getElem?_eq_some_iff.1 h).1
  unfold lowAt
  rw [if_pos ⟨by omega, by omega⟩, show ((j : Int) + 1 - 1).toNat = j by omega, h]
  rfl
set_option maxRecDepth 100000 in
set_option maxHeartbeats 8000000 in
theorem Roots_any {g : GeoQ} {AU AL : Option Addr} {nU cU nL cL : Nat} {ls : List (List NodV)} (w : World) (h : RdE layEn w (Under w.heap.size) AL nL ls) (hF : FewL ls) :
    Calls Try.prog 12 #[.agg (stkC g (.slice AU nU cU) (.slice AL nL cL)).toArray] w (PlcsRet w (rootsL ls 0)) := by
  have r0 := RowL.new w 29 (stkC g (.slice AU nU cU) (.slice AL nL cL))
  have hb1 := below_new (below_self w) (.cells (stkC g (.slice AU nU cU) (.slice AL nL cL)).toArray 29)
  obtain ⟨W1, hW1⟩ : ∃ W1, w.alloc (.cells (stkC g (.slice AU nU cU) (.slice AL nL cL)).toArray 29) = W1 := ⟨_, rfl⟩
  rw [hW1] at r0 hb1
  have hW1' : w.alloc (.cells #[.int .i64 g.a, .int .i64 g.b, .int .i64 g.c, .int .i64 g.d, .slice AU nU cU, .slice AL nL cL] 29) = W1 := hW1
  have q5 : W1.cell? ⟨w.heap.size, 5, none⟩ = some (.slice AL nL cL) := r0.cell 5
  have hm : ls.length ≤ 100 := by have := hF.1; omega
  have HM2 := hide (fun ns (hh : ns ∈ ls) => (show ns.length ≤ 1000 from Nat.le_trans (hF.2 ns hh).1 (by omega)))
  have R0 := hide r0
  have HB1 := hide hb1
  have hs1 := hb1.size
  have HL := hide (h.under hb1 (Nat.le_refl _))
  have hnL : nL ≤ 3 ∧ ls.length ≤ nL ∧ nL ≤ ls.length := by have := h.1; have := hF.1; omega
  have HF := hide hF
  obtain ⟨R, hR⟩ : ∃ R, rootsL ls 0 = R := ⟨_, rfl⟩
  rw [hR]
  have HR := hide hR
  have HO0 := hide (own_lit0 W1 38 2 (base := W1.heap.size) rfl (Nat.le_refl _))
  have HW0 := hide (below_new (below_self W1) (.cells #[] 38))
  unfold stkC
  clear r0 hb1 hW1 h hF hR
  go_enter Try.func12, Try.ntmps12
  go_wp2_with fail
  clear hW1' q5
  go_loopw [3, 10] (fun v3 v10 wr => ∃ (j : Nat) (acc : List (Int × Int)) (A : Option Addr) (c : Nat), j ≤ nL ∧ v10 = .int .i64 j ∧ v3 = .slice A acc.length c ∧ acc.length ≤ j ∧ wr.ownsRow W1.heap.size 38 2 (.slice A acc.length c) acc.length (flatR acc) ∧ Below W1.heap.size W1 wr ∧ acc ++ rootsL (ls.drop j) j = R) (fun v3 v10 _ => nL - (intOf v10).toNat)
  case atStart => exact ⟨0, [], none, 0, by omega, rfl, rfl, Nat.le_refl _, World.ownsRow_nil _ _ _ _, below_self _, by rw [List.drop_zero]; exact HR.out⟩
  case round =>
    obtain ⟨j, acc, A, c, hj, rfl, rfl, hal, ho, hbr, hfin⟩ := hrel
    have HO := hide ho
    have HBR := hide hbr
    have HFI := hide hfin
    have hbsz := hbr.size
    have R0r := hide (R0.out.on hbr)
    clear ho hbr hfin
    by_cases hlt : j < nL
    · obtain ⟨ns, hns⟩ : ∃ ns, ls[j]? = some ns := ⟨_, List.getElem?_eq_getElem (by omega)⟩
      obtain ⟨N, hN⟩ : ∃ N, nodAt ns 1 = N := ⟨_, rfl⟩
      have hLN : lowAt ls ((j : Int) + 1) 1 = N := (low_get hns).trans hN
      have hath := (low_plain HF.out ((j : Int) + 1) 1).2.2.1
      rw [hLN] at hath
      have HLN := hide hLN
      obtain ⟨bk, hbk⟩ : ∃ bk, (N.k != 1) = bk := ⟨_, rfl⟩
      obtain ⟨op, hop⟩ : ∃ op, opq N = op := ⟨_, rfl⟩
      have HMarked_b := hide hop
      have e := HFI.out
      have hjl := (List.getElem?_eq_some_iff.1 hns).1
      rw [List.drop_eq_getElem_cons hjl, (List.getElem?_eq_some_iff.1 hns).2] at e
      unfold rootsL at e
      rw [hN, hop] at e
      have HE := hide (show (if bk = false then (if op = true then acc ++ [((j : Int) + 1, 1)] else (acc ++ [((j : Int) + 1, 1)]) ++ rootsL (ls.drop (j + 1)) (j + 1)) else acc ++ rootsL (ls.drop (j + 1)) (j + 1)) = R from by
        rw [← e, ← hbk]
        by_cases hk : N.k = 1 <;> cases op <;> simp [hk])
      have HZP := hide (RowL.new wr 38 (prC (0, 0)))
      have hjn : (j : Int) < (nL : Int) := by omega
      have hj3 : (j : Int) + 1 ≤ (nL : Int) := by omega
      clear hns hN hLN hop e
      cases bk with
      | true =>
        go_wp2_with (first | (refine wpList_storeW rfl 38 (.tmp 5) (.tmp 15) rfl 2 plc_size wr.heap.size 38 rfl (prC (0, 0)) (prC ((j : Int) + 1, 1)) rfl HZP.out rfl rfl (prC_one _) ?_; intro w6 hr6 hg6 hs6; have hb6 := below_stored' hg6; have R6 := hide hr6; have HB6 := hide hb6; have R06 := hide (R0r.out.on hb6); have hs6l := hb6.size; clear hr6 hg6 hs6 hb6) | (refine wpList_loadW rfl 29 (.tmp 1) rfl 6 stk_agg stk_size w.heap.size 29 rfl (stkC g (.slice AU nU cU) (.slice AL nL cL)) R06.out rfl ?_) | (refine wpList_loadW rfl 38 (.tmp 5) rfl 2 plc_agg plc_size wr.heap.size 38 rfl (prC ((j : Int) + 1, 1)) R6.out rfl ?_) | (go_at_call 29; refine (NLower_e HLN.out w6 (HL.out.under (HBR.out.trans (HB6.out.mono hbsz)) hs1) (by omega) hm HM2.out).mono ?_; rintro ez w7 ⟨A1, n1, c1, C1, m1, d1, rfl, e2, e3, e4, e5, hb7⟩; have HB7 := hide (HB6.out.trans (hb7.mono hs6l)); have hs7l := hb7.size; have HZN := hide (RowL.new w7 59 (nodC nod0 (.slice none 0 0) (.slice none 0 0))); have R67 := hide (R6.out.on hb7); clear e3 e5 hb7) | (refine wpList_storeW rfl 59 (.tmp 6) (.tmp 18) rfl 13 nod_size w7.heap.size 59 rfl (nodC nod0 (.slice none 0 0) (.slice none 0 0)) (nodC N (.slice A1 n1 c1) (.slice C1 m1 d1)) rfl HZN.out rfl rfl (nodC_one _ _ _ _ _ _ _) ?_; intro w9 hr9 hg9 hs9; have hb9 := below_stored' hg9; have qk : w9.cell? ⟨w7.heap.size, 0, none⟩ = some (.int .i64 N.k) := hr9.cell 0; have HR6 := hide hr9; have HR5 := hide (R67.out.on hb9); have HB9 := hide (HB7.out.trans (hb9.mono (by omega))); have hs9l := HB9.out.size; clear hr9 hg9 hs9 hb9))
        go_roundw
        case rel => exact ⟨j + 1, acc, A, c, by omega, by go_num, rfl, by omega, ownsRow_below HO.out HB9.out, HBR.out.trans (HB9.out.mono hbsz), by have := HE.out; simpa using this⟩
        case measure => simp [intOf]; omega
      | false =>
        have HLEN := hide (show (acc ++ [((j : Int) + 1, (1 : Int))]).length = acc.length + 1 by simp)
        go_wp2_with (first | (refine wpList_storeW rfl 38 (.tmp 5) (.tmp 15) rfl 2 plc_size wr.heap.size 38 rfl (prC (0, 0)) (prC ((j : Int) + 1, 1)) rfl HZP.out rfl rfl (prC_one _) ?_; intro w6 hr6 hg6 hs6; have hb6 := below_stored' hg6; have R6 := hide hr6; have HB6 := hide hb6; have R06 := hide (R0r.out.on hb6); have hs6l := hb6.size; clear hr6 hg6 hs6 hb6) | (refine wpList_loadW rfl 29 (.tmp 1) rfl 6 stk_agg stk_size w.heap.size 29 rfl (stkC g (.slice AU nU cU) (.slice AL nL cL)) R06.out rfl ?_) | (refine wpList_loadW rfl 38 (.tmp 5) rfl 2 plc_agg plc_size wr.heap.size 38 rfl (prC ((j : Int) + 1, 1)) R6.out rfl ?_) | (go_at_call 29; refine (NLower_e HLN.out w6 (HL.out.under (HBR.out.trans (HB6.out.mono hbsz)) hs1) (by omega) hm HM2.out).mono ?_; rintro ez w7 ⟨A1, n1, c1, C1, m1, d1, rfl, e2, e3, e4, e5, hb7⟩; have HB7 := hide (HB6.out.trans (hb7.mono hs6l)); have hs7l := hb7.size; have HZN := hide (RowL.new w7 59 (nodC nod0 (.slice none 0 0) (.slice none 0 0))); have R67 := hide (R6.out.on hb7); clear e3 e5 hb7) | (refine wpList_storeW rfl 59 (.tmp 6) (.tmp 18) rfl 13 nod_size w7.heap.size 59 rfl (nodC nod0 (.slice none 0 0) (.slice none 0 0)) (nodC N (.slice A1 n1 c1) (.slice C1 m1 d1)) rfl HZN.out rfl rfl (nodC_one _ _ _ _ _ _ _) ?_; intro w9 hr9 hg9 hs9; have hb9 := below_stored' hg9; have qk : w9.cell? ⟨w7.heap.size, 0, none⟩ = some (.int .i64 N.k) := hr9.cell 0; have HR6 := hide hr9; have HR5 := hide (R67.out.on hb9); have HB9 := hide (HB7.out.trans (hb9.mono (by omega))); have hs9l := HB9.out.size; clear hr9 hg9 hs9 hb9) | (refine wpList_loadW rfl 38 (.tmp 5) rfl 2 plc_agg plc_size wr.heap.size 38 rfl (prC ((j : Int) + 1, 1)) HR5.out rfl ?_) | (refine wpList_litW rfl 30 (.tmp 23) rfl (.agg (prC ((j : Int) + 1, 1)).toArray) _ rfl (lit_plc ((j : Int) + 1, 1) w9) ?_; refine wpList_plain rfl fun K2 hK2 => ?_; go_loud (refine wp_appF w9 W1.heap.size _ rfl (.tmp 22) (.tmp 24) 30 38 rfl Try.underlying30 _ 2 16 plc_info rfl (by omega) (by omega) A acc.length c _ (prC ((j : Int) + 1, 1)) rfl (prC_one _) rfl (ownsRow_below HO.out HB9.out) rfl (by omega) (by omega) ?_); intro A5 c5 w10 ho10 hg10; refine hK2 _ _ ?_; clear hK2 K2; have HO10 := hide ho10; have hba := below_new (below_self w9) (.cells (prC ((j : Int) + 1, 1)).toArray 38); have hoa := ownsRow_below (ownsRow_below HO.out HB9.out) hba; have HR6b := hide ((HR6.out.on hba).grown hg10 (row_apart hoa (HR6.out.on hba) (by decide))); have HB10 := hide (((HBR.out.trans (HB9.out.mono hbsz)).trans (hba.mono (by omega))).grown hg10 (by have := hba.size; omega) (fun q hq => (own_block hoa q hq).1)); clear ho10 hg10 hba hoa) | (refine wpList_loadW rfl 59 (.tmp 6) rfl 13 nod_agg nod_size w7.heap.size 59 rfl (nodC N (.slice A1 n1 c1) (.slice C1 m1 d1)) HR6b.out rfl ?_))
        refine (Marked_b HMarked_b.out hath.1 hath.2 _).mono ?_
        rintro ez w11 ⟨rfl, hb11⟩
        have HO11 := hide (ownsRow_below HO10.out hb11)
        have HB11 := hide (HB10.out.trans (hb11.mono (by have := HB10.out.size; omega)))
        clear hb11
        cases op with
        | false =>
          go_wp2_with fail
          go_roundw
          case rel => exact ⟨j + 1, acc ++ [((j : Int) + 1, 1)], A5, c5, by omega, by go_num, by rw [HLEN.out], by rw [HLEN.out]; omega, by rw [HLEN.out, flatR_snoc]; exact HO11.out, HB11.out, by have := HE.out; simpa using this⟩
          case measure => simp [intOf]; omega
        | true =>
          have hE : R = acc ++ [((j : Int) + 1, 1)] := by have := HE.out.symm; simpa using this
          subst hE
          go_wp2_with fail
          rw [show acc.length + 1 = (acc ++ [((j : Int) + 1, (1 : Int))]).length from HLEN.out.symm]
          go_ret
          exact ⟨A5, c5, rfl, (pr_fresh (by rw [HLEN.out, flatR_snoc]; exact HO11.out) rfl).mono (fun _ _ => rfl) (fun b hb => hb.2), HB1.out.trans (HB11.out.mono hs1)⟩
    · obtain rfl : j = nL := by omega
      have e := HFI.out
      rw [List.drop_of_length_le (by omega)] at e
      unfold rootsL at e
      rw [List.append_nil] at e
      subst e
      go_wp2_with fail
      go_ret
      exact ⟨A, c, rfl, (pr_fresh HO.out rfl).mono (fun _ _ => rfl) (fun b hb => hb.2), HB1.out.trans (HBR.out.mono hs1)⟩
set_option maxRecDepth 100000 in
set_option maxHeartbeats 8000000 in
theorem RRoots_any {g : GeoQ} {AU AL : Option Addr} {nU cU nL cL : Nat} {ls : List (List NodV)} (w : World) (h : RdE layEn w (Under w.heap.size) AL nL ls) (hF : FewL ls) :
    Calls Try.prog 13 #[.agg (stkC g (.slice AU nU cU) (.slice AL nL cL)).toArray] w (PlcsRet w (rootsL ls 0)) := by
  have r0 := RowL.new w 29 (stkC g (.slice AU nU cU) (.slice AL nL cL))
  have hb1 := below_new (below_self w) (.cells (stkC g (.slice AU nU cU) (.slice AL nL cL)).toArray 29)
  obtain ⟨W1, hW1⟩ : ∃ W1, w.alloc (.cells (stkC g (.slice AU nU cU) (.slice AL nL cL)).toArray 29) = W1 := ⟨_, rfl⟩
  rw [hW1] at r0 hb1
  have hW1' : w.alloc (.cells #[.int .i64 g.a, .int .i64 g.b, .int .i64 g.c, .int .i64 g.d, .slice AU nU cU, .slice AL nL cL] 29) = W1 := hW1
  have q5 : W1.cell? ⟨w.heap.size, 5, none⟩ = some (.slice AL nL cL) := r0.cell 5
  have hm : ls.length ≤ 100 := by have := hF.1; omega
  have HM2 := hide (fun ns (hh : ns ∈ ls) => (show ns.length ≤ 1000 from Nat.le_trans (hF.2 ns hh).1 (by omega)))
  have R0 := hide r0
  have HB1 := hide hb1
  have hs1 := hb1.size
  have HL := hide (h.under hb1 (Nat.le_refl _))
  have hnL : nL ≤ 3 ∧ ls.length ≤ nL ∧ nL ≤ ls.length := by have := h.1; have := hF.1; omega
  have HF := hide hF
  obtain ⟨R, hR⟩ : ∃ R, rootsL ls 0 = R := ⟨_, rfl⟩
  rw [hR]
  have HR := hide hR
  have HO0 := hide (own_lit0 W1 38 2 (base := W1.heap.size) rfl (Nat.le_refl _))
  have HW0 := hide (below_new (below_self W1) (.cells #[] 38))
  unfold stkC
  clear r0 hb1 hW1 h hF hR
  go_enter Try.func13, Try.ntmps13
  go_wp2_with fail
  clear hW1' q5
  go_loopw [3, 4] (fun v3 v4 wr => ∃ (j : Nat) (acc : List (Int × Int)) (A : Option Addr) (c : Nat), j ≤ nL ∧ v4 = .int .i64 ((j : Int) + 1) ∧ v3 = .slice A acc.length c ∧ acc.length ≤ j ∧ wr.ownsRow W1.heap.size 38 2 (.slice A acc.length c) acc.length (flatR acc) ∧ Below W1.heap.size W1 wr ∧ acc ++ rootsL (ls.drop j) j = R) (fun v3 v4 _ => nL + 1 - (intOf v4).toNat)
  case atStart => exact ⟨0, [], _, 0, by omega, rfl, rfl, Nat.le_refl _, HO0.out, HW0.out, by rw [List.drop_zero]; exact HR.out⟩
  case round =>
    obtain ⟨j, acc, A, c, hj, rfl, rfl, hal, ho, hbr, hfin⟩ := hrel
    have HO := hide ho
    have HBR := hide hbr
    have HFI := hide hfin
    have hbsz := hbr.size
    have R0r := hide (R0.out.on hbr)
    have q5 : wr.cell? ⟨w.heap.size, 5, none⟩ = some (.slice AL nL cL) := R0r.out.cell 5
    clear ho hbr hfin
    by_cases hlt : j < nL
    · obtain ⟨ns, hns⟩ : ∃ ns, ls[j]? = some ns := ⟨_, List.getElem?_eq_getElem (by omega)⟩
      obtain ⟨N, hN⟩ : ∃ N, nodAt ns 1 = N := ⟨_, rfl⟩
      have hLN : lowAt ls ((j : Int) + 1) 1 = N := (low_get hns).trans hN
      have hath := (low_plain HF.out ((j : Int) + 1) 1).2.2.1
      rw [hLN] at hath
      have HLN := hide hLN
      obtain ⟨bk, hbk⟩ : ∃ bk, (N.k == 1) = bk := ⟨_, rfl⟩
      obtain ⟨op, hop⟩ : ∃ op, opq N = op := ⟨_, rfl⟩
      have HROpq_b := hide hop
      have e := HFI.out
      have hjl := (List.getElem?_eq_some_iff.1 hns).1
      rw [List.drop_eq_getElem_cons hjl, (List.getElem?_eq_some_iff.1 hns).2] at e
      unfold rootsL at e
      rw [hN, hop] at e
      have HE := hide (show (if bk = true then (if op = true then acc ++ [((j : Int) + 1, 1)] else (acc ++ [((j : Int) + 1, 1)]) ++ rootsL (ls.drop (j + 1)) (j + 1)) else acc ++ rootsL (ls.drop (j + 1)) (j + 1)) = R from by
        rw [← e, ← hbk]
        by_cases hk : N.k = 1 <;> cases op <;> simp [hk])
      have HZP := hide (RowL.new wr 38 (prC (0, 0)))
      have hjn : (j : Int) < (nL : Int) := by omega
      have hj3 : (j : Int) + 1 ≤ (nL : Int) := by omega
      clear hns hN hLN hop e
      cases bk with
      | false =>
        go_wp2_with (first | (refine wpList_storeW rfl 38 (.tmp 5) (.tmp 16) rfl 2 plc_size wr.heap.size 38 rfl (prC (0, 0)) (prC ((j : Int) + 1, 1)) rfl HZP.out rfl rfl (prC_one _) ?_; intro w6 hr6 hg6 hs6; have hb6 := below_stored' hg6; have R6 := hide hr6; have HB6 := hide hb6; have R06 := hide (R0r.out.on hb6); have hs6l := hb6.size; clear hr6 hg6 hs6 hb6) | (refine wpList_loadW rfl 29 (.tmp 1) rfl 6 stk_agg stk_size w.heap.size 29 rfl (stkC g (.slice AU nU cU) (.slice AL nL cL)) R06.out rfl ?_) | (refine wpList_loadW rfl 38 (.tmp 5) rfl 2 plc_agg plc_size wr.heap.size 38 rfl (prC ((j : Int) + 1, 1)) R6.out rfl ?_) | (go_at_call 26; refine (RLower_e HLN.out w6 (HL.out.under (HBR.out.trans (HB6.out.mono hbsz)) hs1) (by omega) hm HM2.out).mono ?_; rintro ez w7 ⟨A1, n1, c1, C1, m1, d1, rfl, e2, e3, e4, e5, hb7⟩; have HB7 := hide (HB6.out.trans (hb7.mono hs6l)); have hs7l := hb7.size; have HZN := hide (RowL.new w7 59 (nodC nod0 (.slice none 0 0) (.slice none 0 0))); have R67 := hide (R6.out.on hb7); clear e3 e5 hb7) | (refine wpList_storeW rfl 59 (.tmp 6) (.tmp 19) rfl 13 nod_size w7.heap.size 59 rfl (nodC nod0 (.slice none 0 0) (.slice none 0 0)) (nodC N (.slice A1 n1 c1) (.slice C1 m1 d1)) rfl HZN.out rfl rfl (nodC_one _ _ _ _ _ _ _) ?_; intro w9 hr9 hg9 hs9; have hb9 := below_stored' hg9; have qk : w9.cell? ⟨w7.heap.size, 0, none⟩ = some (.int .i64 N.k) := hr9.cell 0; have HR6 := hide hr9; have HR5 := hide (R67.out.on hb9); have HB9 := hide (HB7.out.trans (hb9.mono (by omega))); have hs9l := HB9.out.size; clear hr9 hg9 hs9 hb9))
        go_roundw
        case rel => exact ⟨j + 1, acc, A, c, by omega, by go_num, rfl, by omega, ownsRow_below HO.out HB9.out, HBR.out.trans (HB9.out.mono hbsz), by have := HE.out; simpa using this⟩
        case measure => simp [intOf]; omega
      | true =>
        have HLEN := hide (show (acc ++ [((j : Int) + 1, (1 : Int))]).length = acc.length + 1 by simp)
        go_wp2_with (first | (refine wpList_storeW rfl 38 (.tmp 5) (.tmp 16) rfl 2 plc_size wr.heap.size 38 rfl (prC (0, 0)) (prC ((j : Int) + 1, 1)) rfl HZP.out rfl rfl (prC_one _) ?_; intro w6 hr6 hg6 hs6; have hb6 := below_stored' hg6; have R6 := hide hr6; have HB6 := hide hb6; have R06 := hide (R0r.out.on hb6); have hs6l := hb6.size; clear hr6 hg6 hs6 hb6) | (refine wpList_loadW rfl 29 (.tmp 1) rfl 6 stk_agg stk_size w.heap.size 29 rfl (stkC g (.slice AU nU cU) (.slice AL nL cL)) R06.out rfl ?_) | (refine wpList_loadW rfl 38 (.tmp 5) rfl 2 plc_agg plc_size wr.heap.size 38 rfl (prC ((j : Int) + 1, 1)) R6.out rfl ?_) | (go_at_call 26; refine (RLower_e HLN.out w6 (HL.out.under (HBR.out.trans (HB6.out.mono hbsz)) hs1) (by omega) hm HM2.out).mono ?_; rintro ez w7 ⟨A1, n1, c1, C1, m1, d1, rfl, e2, e3, e4, e5, hb7⟩; have HB7 := hide (HB6.out.trans (hb7.mono hs6l)); have hs7l := hb7.size; have HZN := hide (RowL.new w7 59 (nodC nod0 (.slice none 0 0) (.slice none 0 0))); have R67 := hide (R6.out.on hb7); clear e3 e5 hb7) | (refine wpList_storeW rfl 59 (.tmp 6) (.tmp 19) rfl 13 nod_size w7.heap.size 59 rfl (nodC nod0 (.slice none 0 0) (.slice none 0 0)) (nodC N (.slice A1 n1 c1) (.slice C1 m1 d1)) rfl HZN.out rfl rfl (nodC_one _ _ _ _ _ _ _) ?_; intro w9 hr9 hg9 hs9; have hb9 := below_stored' hg9; have qk : w9.cell? ⟨w7.heap.size, 0, none⟩ = some (.int .i64 N.k) := hr9.cell 0; have HR6 := hide hr9; have HR5 := hide (R67.out.on hb9); have HB9 := hide (HB7.out.trans (hb9.mono (by omega))); have hs9l := HB9.out.size; clear hr9 hg9 hs9 hb9) | (refine wpList_loadW rfl 38 (.tmp 5) rfl 2 plc_agg plc_size wr.heap.size 38 rfl (prC ((j : Int) + 1, 1)) HR5.out rfl ?_) | (refine wpList_litW rfl 30 (.tmp 24) rfl (.agg (prC ((j : Int) + 1, 1)).toArray) _ rfl (lit_plc ((j : Int) + 1, 1) w9) ?_; refine wpList_plain rfl fun K2 hK2 => ?_; go_loud (refine wp_appF w9 W1.heap.size _ rfl (.tmp 23) (.tmp 25) 30 38 rfl Try.underlying30 _ 2 16 plc_info rfl (by omega) (by omega) A acc.length c _ (prC ((j : Int) + 1, 1)) rfl (prC_one _) rfl (ownsRow_below HO.out HB9.out) rfl (by omega) (by omega) ?_); intro A5 c5 w10 ho10 hg10; refine hK2 _ _ ?_; clear hK2 K2; have HO10 := hide ho10; have hba := below_new (below_self w9) (.cells (prC ((j : Int) + 1, 1)).toArray 38); have hoa := ownsRow_below (ownsRow_below HO.out HB9.out) hba; have HR6b := hide ((HR6.out.on hba).grown hg10 (row_apart hoa (HR6.out.on hba) (by decide))); have HB10 := hide (((HBR.out.trans (HB9.out.mono hbsz)).trans (hba.mono (by omega))).grown hg10 (by have := hba.size; omega) (fun q hq => (own_block hoa q hq).1)); clear ho10 hg10 hba hoa) | (refine wpList_loadW rfl 59 (.tmp 6) rfl 13 nod_agg nod_size w7.heap.size 59 rfl (nodC N (.slice A1 n1 c1) (.slice C1 m1 d1)) HR6b.out rfl ?_))
        refine (ROpq_b HROpq_b.out hath.1 hath.2 _).mono ?_
        rintro ez w11 ⟨rfl, hb11⟩
        have HO11 := hide (ownsRow_below HO10.out hb11)
        have HB11 := hide (HB10.out.trans (hb11.mono (by have := HB10.out.size; omega)))
        clear hb11
        cases op with
        | false =>
          go_wp2_with fail
          go_roundw
          case rel => exact ⟨j + 1, acc ++ [((j : Int) + 1, 1)], A5, c5, by omega, by go_num, by rw [HLEN.out], by rw [HLEN.out]; omega, by rw [HLEN.out, flatR_snoc]; exact HO11.out, HB11.out, by have := HE.out; simpa using this⟩
          case measure => simp [intOf]; omega
        | true =>
          have hE : R = acc ++ [((j : Int) + 1, 1)] := by have := HE.out.symm; simpa using this
          subst hE
          go_wp2_with fail
          rw [show acc.length + 1 = (acc ++ [((j : Int) + 1, (1 : Int))]).length from HLEN.out.symm]
          go_ret
          exact ⟨A5, c5, rfl, (pr_fresh (by rw [HLEN.out, flatR_snoc]; exact HO11.out) rfl).mono (fun _ _ => rfl) (fun b hb => hb.2), HB1.out.trans (HB11.out.mono hs1)⟩
    · obtain rfl : j = nL := by omega
      have e := HFI.out
      rw [List.drop_of_length_le (by omega)] at e
      unfold rootsL at e
      rw [List.append_nil] at e
      subst e
      have hjn : ¬ ((j : Int) + 1 ≤ (j : Int)) := by omega
      go_wp2_with fail
      go_ret
      exact ⟨A, c, rfl, (pr_fresh HO.out rfl).mono (fun _ _ => rfl) (fun b hb => hb.2), HB1.out.trans (HBR.out.mono hs1)⟩
end Go.Proofs.Ytnehkgbdppbhiaa

/- plain.Stack, and what it calls. -/
namespace Go.Proofs.Ytnehkgbdppbhiaa
open Go.RowKit Go.Shelf Plain

/-- It returns a bool: if it is this one, so it is. -/
def IfRet (w : World) (b : Bool) (P : Prop) (e : Ending) (w' : World) : Prop := ∃ p : Bool, e = .returned (.bool p) ∧ Below w.heap.size w w' ∧ (p = b → P)
def FewB (many : Int) (ns : List NodV) : Prop := (ns.length : Int) ≤ many ∧ ∀ x ∈ ns, PlainN x
def FineN (ns : List NodV) : Prop := ∀ x ∈ ns, x.ents.length ≤ 9223372036854775807
set_option maxRecDepth 100000 in
set_option maxHeartbeats 1600000 in
theorem PSt1_any {A : Option Addr} {n c gM : Nat} {many : Int} {ns : List NodV} (w : World) (h : RdE nodEn w (Under w.heap.size) A n ns) (hM : w.cell? ⟨gM, 0, none⟩ = some (.int .i64 many)) (hg : gM < w.heap.size) (hmany : many ≤ 100000) (hsm : FineN ns) :
    Calls Try.prog 21 #[.agg #[.slice A n c], .pointer (some ⟨gM, 0, none⟩)] w (IfRet w false (FewB many ns)) := by
  have r := RowL.new w 26 [.slice A n c]
  have hb := below_new (below_self w) (.cells [Value.slice A n c].toArray 26)
  obtain ⟨W1, hW1⟩ : ∃ W1, w.alloc (.cells [Value.slice A n c].toArray 26) = W1 := ⟨_, rfl⟩
  have H0 := h.on hb
  have q1 := (hb.cell (p := ⟨gM, 0, none⟩) hg).trans hM
  rw [hW1] at r hb H0 q1
  have hW1' : w.alloc (.cells #[.slice A n c] 26) = W1 := hW1
  have q0 : W1.cell? ⟨w.heap.size, 0, none⟩ = some (.slice A n c) := r.cell 0
  have HN := hide H0
  have HB := hide hb
  have HFI := hide hsm
  have HLN := hide h.1
  clear r hb H0 hW1 h hsm hM
  go_enter Try.func21, Try.ntmps21
  go_wp2_with fail
  refine (PBranch_any W1 HN.out hmany HFI.out).mono ?_
  rintro e w3 ⟨p, rfl, hb3, hp⟩
  have HP := hide hp
  have HB3 := hide (HB.out.trans (hb3.mono HB.out.size))
  clear hp hb3 q0 q1 hW1'
  cases p
  · go_wp2_with fail
    go_ret
    exact ⟨true, rfl, HB3.out, fun h => by cases h⟩
  · go_wp2_with fail
    go_ret
    exact ⟨false, rfl, HB3.out, fun _ => by have := HP.out (by first | rfl | trivial); exact ⟨by rw [HLN.out]; exact this.1, this.2⟩⟩
set_option maxRecDepth 100000 in
set_option maxHeartbeats 1600000 in
theorem BrIdx_any {A : Option Addr} {n c gM : Nat} {many : Int} {l : List (List NodV)} (w : World) (h : RdE layEn w (Under w.heap.size) A n l) (hM : w.cell? ⟨gM, 0, none⟩ = some (.int .i64 many)) (hg : gM < w.heap.size) (hmany : many ≤ 100000) (hn : n ≤ 100000) (hsm : ∀ ns ∈ l, FineN ns) :
    Calls Try.prog 41 #[.slice A n c, .func (.func 21) #[] #[.pointer (some ⟨gM, 0, none⟩)]] w (fun e w' => ∃ r : Int, e = .returned (.int .i64 r) ∧ Below w.heap.size w w' ∧ (r < 0 → ∀ ns ∈ l, FewB many ns)) := by
  have H := hide h
  have hln := h.1
  have HSM := hide hsm
  have HM := hide hM
  clear h hsm hM
  go_enter Try.func41, Try.ntmps41
  go_wp2
  go_loopw [8] (fun iv wr => ∃ j : Nat, j ≤ n ∧ iv = .int .i64 j ∧ Below w.heap.size w wr ∧ ∀ i x, i < j → l[i]? = some x → FewB many x) (fun iv _ => n - (intOf iv).toNat)
  case atStart => exact ⟨0, by omega, rfl, below_self _, fun i x hi => by omega⟩
  case round =>
    obtain ⟨j, hj, rfl, hbr, hall⟩ := hrel
    have HBR := hide hbr
    have HALL := hide hall
    have hbsz := hbr.size
    clear hbr hall
    by_cases hlt : j < n
    · obtain ⟨ns, hx⟩ : ∃ ns, l[j]? = some ns := ⟨_, List.getElem?_eq_getElem (by omega)⟩
      obtain ⟨b, o, rfl, hbB, A2, n2, c2, hc, hc2, hN2⟩ := RdE.get_list (F := nodEn) (H.out.on HBR.out) hx
      have HN2 := hide hN2
      have q : wr.cell? ⟨b, o + j, none⟩ = some (.slice A2 n2 c2) := hc
      have HX := hide hx
      have HFI := hide (HSM.out ns (List.mem_of_getElem? hx))
      have HM2 := hide ((HBR.out.cell (p := ⟨gM, 0, none⟩) hg).trans HM.out)
      have hjn : (j : Int) < (n : Int) := by omega
      clear hx hN2 hc
      go_wp2_with fail
      refine (PSt1_any wr HN2.out HM2.out (by omega) hmany HFI.out).mono ?_
      rintro e w3 ⟨p, rfl, hb3, hp⟩
      have HP := hide hp
      have HB3 := hide (HBR.out.trans (hb3.mono hbsz))
      clear hp hb3 q
      cases p with
      | true =>
        go_wp2_with fail
        go_ret
        exact ⟨(j : Int), rfl, HB3.out, fun h => by omega⟩
      | false =>
        go_wp2_with fail
        go_roundw
        case rel => exact ⟨j + 1, by omega, by go_num, HB3.out, fun i y hi hy => by
          by_cases e : i = j
          · subst e
            have := HX.out.symm.trans hy
            cases this
            exact HP.out (by first | rfl | trivial)
          · exact HALL.out i y (by omega) hy⟩
        case measure => simp [intOf]; omega
    · obtain rfl : j = n := by omega
      go_wp2_with fail
      go_ret
      exact ⟨-1, rfl, HBR.out, fun _ x hx => by
        obtain ⟨i, hi, rfl⟩ := List.mem_iff_getElem.1 hx
        exact HALL.out i _ (by omega) (List.getElem?_eq_getElem hi)⟩
set_option maxRecDepth 100000 in
theorem BrHas_any {A : Option Addr} {n c gM : Nat} {many : Int} {l : List (List NodV)} (w : World) (h : RdE layEn w (Under w.heap.size) A n l) (hM : w.cell? ⟨gM, 0, none⟩ = some (.int .i64 many)) (hg : gM < w.heap.size) (hmany : many ≤ 100000) (hn : n ≤ 100000) (hsm : ∀ ns ∈ l, FineN ns) :
    Calls Try.prog 20 #[.slice A n c, .func (.func 21) #[] #[.pointer (some ⟨gM, 0, none⟩)]] w (IfRet w false (∀ ns ∈ l, FewB many ns)) := by
  have H := hide h
  have HM := hide hM
  clear h hM
  go_enter Try.func20, Try.ntmps20
  go_wp2_with (go_at_call 41; refine (BrIdx_any w H.out HM.out hg hmany hn hsm).mono ?_; rintro e w3 ⟨r, rfl, hb3, hp⟩; have HP := hide hp; have HB3 := hide hb3; clear hp hb3)
  go_ret
  exact ⟨_, rfl, HB3.out, fun h => HP.out (by simpa using h)⟩
set_option maxRecDepth 100000 in
set_option maxHeartbeats 4000000 in
theorem PStack_any {g : GeoQ} {AU AL : Option Addr} {nU cU nL cL : Nat} {up : List NodV} {ls : List (List NodV)} (w : World) (hu : RdE nodEn w (Under w.heap.size) AU nU up) (h : RdE layEn w (Under w.heap.size) AL nL ls) (hfu : FineN up) (hfl : ∀ ns ∈ ls, FineN ns) :
    Calls Try.prog 5 #[.agg (stkC g (.slice AU nU cU) (.slice AL nL cL)).toArray, .int .i64 24] w (IfRet w true (FewL ls ∧ FewB 24 up)) := by
  obtain ⟨r0, r1, hb2, hs2⟩ := rows2 w (stkC g (.slice AU nU cU) (.slice AL nL cL)) [.int .i64 24] 29 3
  obtain ⟨W2, hW2⟩ : ∃ W2, (w.alloc (.cells (stkC g (.slice AU nU cU) (.slice AL nL cL)).toArray 29)).alloc (.cells [Value.int .i64 24].toArray 3) = W2 := ⟨_, rfl⟩
  rw [hW2] at r0 r1 hb2 hs2
  have hW2' : (w.alloc (.cells #[.int .i64 g.a, .int .i64 g.b, .int .i64 g.c, .int .i64 g.d, .slice AU nU cU, .slice AL nL cL] 29)).alloc (.cells #[.int .i64 24] 3) = W2 := hW2
  have q4 : W2.cell? ⟨w.heap.size, 4, none⟩ = some (.slice AU nU cU) := r0.cell 4
  have q5 : W2.cell? ⟨w.heap.size, 5, none⟩ = some (.slice AL nL cL) := r0.cell 5
  have m0 : W2.cell? ⟨w.heap.size + 1, 0, none⟩ = some (.int .i64 24) := r1.cell 0
  have R0 := hide r0
  have R1 := hide r1
  have HB2 := hide hb2
  have HU := hide (hu.on hb2)
  have HL := hide (h.on hb2)
  have HLL := hide h.1
  have HUL := hide hu.1
  have HFU := hide hfu
  have HFL := hide hfl
  have hsl : w.heap.size + 2 ≤ W2.heap.size := by omega
  unfold stkC
  clear r0 r1 hb2 hW2 hs2 hu h hfu hfl
  by_cases k0 : (nL : Int) ≤ 3
  rotate_left
  · have c0 : decide ((nL : Int) ≤ 3) = false := decide_eq_false k0
    clear q4
    go_enter Try.func5, Try.ntmps5
    go_wp2_with fail
    go_ret
    exact ⟨false, rfl, HB2.out, fun h => by cases h⟩
  have c0 : decide ((nL : Int) ≤ 3) = true := decide_eq_true k0
  go_enter Try.func5, Try.ntmps5
  go_wp2_with fail
  clear hW2'
  refine (PBranch_any W2 HU.out (by omega) HFU.out).mono ?_
  rintro e w3 ⟨p, rfl, hb3, hp⟩
  have HP := hide hp
  have HB3 := hide (HB2.out.trans (hb3.mono (by omega)))
  have s5 : w3.cell? ⟨w.heap.size, 5, none⟩ = some (.slice AL nL cL) := (R0.out.on hb3).cell 5
  have M3 := hide ((R1.out.on hb3).cell 0)
  have HL3 := hide (HL.out.on hb3)
  have hs3 := hb3.size
  clear hp hb3 q4 q5 m0
  cases p
  · clear s5
    go_wp2_with fail
    go_ret
    exact ⟨false, rfl, HB3.out, fun h => by cases h⟩
  go_wp2_with fail
  refine (BrHas_any w3 HL3.out M3.out (by omega) (by omega) (by omega) HFL.out).mono ?_
  rintro e w4 ⟨p, rfl, hb4, hp4⟩
  have HP4 := hide hp4
  have HB4 := hide (HB3.out.trans (hb4.mono HB3.out.size))
  clear hp4 hb4 s5
  cases p
  · go_wp2_with fail
    go_ret
    refine ⟨true, rfl, HB4.out, fun _ => ?_⟩
    have h1 := HP.out (by first | rfl | trivial)
    have h2 := HP4.out (by first | rfl | trivial)
    exact ⟨⟨by rw [HLL.out]; omega, fun ns hn => ⟨by have := (h2 ns hn).1; omega, (h2 ns hn).2⟩⟩, ⟨by rw [HUL.out]; exact h1.1, h1.2⟩⟩
  · go_wp2_with fail
    go_ret
    exact ⟨false, rfl, HB4.out, fun h => by cases h⟩
end Go.Proofs.Ytnehkgbdppbhiaa

/- plain.Base, and the law's awake (layer 16). -/
namespace Go.Proofs.Ytnehkgbdppbhiaa
open Go.RowKit Go.Shelf Plain

/-- Base's nodes. -/
def ndD : NodV := { nod0 with k := 1, n := 2 }
def ndA : NodV := { nod0 with k := 1, n := 2, ents := [⟨0, 2, [97]⟩] }
def ndF : NodV := { nod0 with k := 2, n := 1, g := 3, data := [120] }
def upB : List NodV := [ndD, ndD, ndD, nod0, nod0]
def lyB : List NodV := [ndA, ndF, nod0, nod0, nod0]
def lsB : List (List NodV) := [lyB]
def gB : GeoQ := ⟨1, 5, 6, 5⟩
theorem ba_roots : rootsL lsB 0 = [(1, 1)] := by decide +kernel
theorem ba_find : findL lsB [97] [(1, 1)] [] = (2, [(1, 2)]) := by decide +kernel
theorem ba_look : lookL lsB [(1, 1)] [[97]] = none := by decide +kernel
theorem ba_names : namesL lsB [(1, 1)] = [[97]] := by decide +kernel
theorem ba_few : FewL lsB := by
  refine ⟨by decide, fun ns hns => ?_⟩
  rw [List.mem_singleton.1 hns]
  refine ⟨by decide, fun x hx => ?_⟩
  simp only [lyB, List.mem_cons, List.not_mem_nil, or_false] at hx
  rcases hx with rfl | rfl | rfl | rfl | rfl
  · refine ⟨fun i e hi he => ?_, by decide, by decide, by decide, by decide, by decide, fun e he => ?_⟩
    · obtain rfl : i = 0 := by have : i < 1 := hi; omega
      cases he
      exact ⟨by decide, by decide, fun p h => absurd h (by omega)⟩
    · rw [List.mem_singleton.1 he]
      decide
  · exact ⟨fun i e hi he => absurd hi (by simp [ndF, nod0]), by decide, by decide, by decide, by decide, by decide, fun e he => by simp [ndF, nod0] at he⟩
  · exact plain0
  · exact plain0
  · exact plain0
/-- It returns a stack. -/
def StkRet (w : World) (g : GeoQ) (up : List NodV) (ls : List (List NodV)) (e : Ending) (w' : World) : Prop := ∃ AU nU cU AL nL cL, e = .returned (.agg (stkC g (.slice AU nU cU) (.slice AL nL cL)).toArray) ∧ RdE nodEn w' (Under w'.heap.size) AU nU up ∧ RdE layEn w' (Under w'.heap.size) AL nL ls ∧ Below w.heap.size w w'
def AggRet (w : World) (cs : List Value) (e : Ending) (w' : World) : Prop := e = .returned (.agg cs.toArray) ∧ Below w.heap.size w w'
set_option maxRecDepth 100000 in
set_option maxHeartbeats 1600000 in
theorem Dir_any {C : Option Addr} {m d : Nat} (w : World) : Calls Try.prog 42 #[.slice C m d] w (AggRet w (nodC ndD (.slice none 0 0) (.slice C m d))) := by
  have hz := RowL.new w 59 (nodC nod0 (.slice none 0 0) (.slice none 0 0))
  have hb := below_new (below_self w) (.cells (nodC nod0 (.slice none 0 0) (.slice none 0 0)).toArray 59)
  have HZ := hide hz
  have HB := hide hb
  clear hz hb
  go_enter Try.func42, Try.ntmps42
  go_wp2_with (refine wpList_storeW rfl 59 (.tmp 2) (.tmp 4) rfl 13 nod_size w.heap.size 59 rfl (nodC nod0 (.slice none 0 0) (.slice none 0 0)) (nodC ndD (.slice none 0 0) (.slice C m d)) rfl HZ.out rfl rfl (nodC_one _ _ _ _ _ _ _) ?_; intro w9 hr9 hg9 hs9; have HR9 := hide hr9; have HB9 := hide (HB.out.grown hg9 HB.out.size (fun k hk => by have := Option.some.inj hk; omega)); clear hr9 hg9 hs9)
  exact bodyPost_ret (res_cell Try.results42 rfl nod_agg nod_size HR9.out rfl) rfl ⟨rfl, HB9.out⟩
set_option maxRecDepth 100000 in
theorem lit_nods {c0 c1 c2 c3 c4 : List Value} (h0 : c0.length = 13) (h1 : c1.length = 13) (h2 : c2.length = 13) (h3 : c3.length = 13) (h4 : c4.length = 13) (W : World) : (Instr.buildSlice 24 5 #[(0, .agg c0.toArray), (1, .agg c1.toArray), (2, .agg c2.toArray), (3, .agg c3.toArray), (4, .agg c4.toArray)]).run Try.prog W = .ok (.slice (some ⟨W.heap.size, 0, none⟩) 5 5) (W.alloc (.cells (c0 ++ (c1 ++ (c2 ++ (c3 ++ c4)))).toArray 59)) := by
  obtain ⟨it, hi, hz, hsz, -⟩ := info_parts nodw_info
  refine run_buildSlice W _ 59 5 _ _ it _ Try.underlying24 hi hz (by omega) (by omega) ?_
  rw [hsz]
  have := Great.fill_whole (s := 13) (by omega) [.agg c0.toArray, .agg c1.toArray, .agg c2.toArray, .agg c3.toArray, .agg c4.toArray] ((Array.range (5 * 13)).map ((Value.agg nodZ.toArray).cells[· % (Value.agg nodZ.toArray).cells.size]!)) (by intro v hv; simp only [List.mem_cons, List.not_mem_nil, or_false] at hv; rcases hv with rfl | rfl | rfl | rfl | rfl <;> simp [Value.cells, h0, h1, h2, h3, h4]) (by simp)
  simpa [Value.cells] using this
/-- A literal of five, as the walk meets it. -/
theorem wpList_lit5 {P : Program} {w w' : World} {ops : Array Oper} {rest : List Oper} {o : Oper} {a : Act} {Q : Exit → Act → World → Prop} (hgd : o.guard = none) (t : Nat) (x0 x1 x2 x3 x4 : Operand) (ho : o.op = .buildSlice t 5 #[(0, x0), (1, x1), (2, x2), (3, x3), (4, x4)]) (v0 v1 v2 v3 v4 v : Value) (h0 : a.eval x0 = v0) (h1 : a.eval x1 = v1) (h2 : a.eval x2 = v2) (h3 : a.eval x3 = v3) (h4 : a.eval x4 = v4) (hr : (Instr.buildSlice t 5 #[(0, v0), (1, v1), (2, v2), (3, v3), (4, v4)]).run P w = .ok v w') (hK : wpList P ops Q rest (a.put o.dst v) w') : wpList P ops Q (o :: rest) a w := by
  refine wpList_plain hgd fun K hK' => ?_
  unfold Oper.wp execOp
  simp only [ho, List.map_toArray, List.map_cons, List.map_nil, h0, h1, h2, h3, h4, Sem.run_bind, Sem.run_pure, Result.andThen_ok, hr]
  exact hK' _ _ hK
/-- A row of five nodes, read. -/
theorem nods_row {W : World} {D : Nat → Prop} {g : Nat} {c0 c1 c2 c3 c4 : List Value} {x0 x1 x2 x3 x4 : NodV} (h : RowL W g 59 (c0 ++ (c1 ++ (c2 ++ (c3 ++ c4))))) (hD : D g) (h0 : NodR W D c0 x0) (h1 : NodR W D c1 x1) (h2 : NodR W D c2 x2) (h3 : NodR W D c3 x3) (h4 : NodR W D c4 x4) : RdE nodEn W D (some ⟨g, 0, none⟩) 5 [x0, x1, x2, x3, x4] := by
  have hcs : CellsE nodEn W D [c0, c1, c2, c3, c4] [x0, x1, x2, x3, x4] := by
    refine ⟨rfl, fun i cs x hc hx => ?_⟩
    have hi : i < 5 := (List.getElem?_eq_some_iff.1 hx).1
    obtain rfl | rfl | rfl | rfl | rfl : i = 0 ∨ i = 1 ∨ i = 2 ∨ i = 3 ∨ i = 4 := by omega
    all_goals (cases hc; cases hx; assumption)
  refine ⟨rfl, fun _ => ⟨g, 0, rfl, hD, fun i x hx => ?_⟩⟩
  have hi : i < 5 := (List.getElem?_eq_some_iff.1 hx).1
  have hc : [c0, c1, c2, c3, c4][i]? = some ([c0, c1, c2, c3, c4][i]'hi) := List.getElem?_eq_getElem (l := [c0, c1, c2, c3, c4]) hi
  have hR := hcs.2 i _ x hc hx
  refine ⟨_, hR, fun j v hv => ?_⟩
  have hj : j < 13 := by have := (List.getElem?_eq_some_iff.1 hv).1; have h13 := nodEn.len hR; rw [h13] at this; exact this
  rw [Nat.zero_add, h.cell]
  have := flat_get hcs.lens hc hj
  rw [show [c0, c1, c2, c3, c4].flatten = c0 ++ (c1 ++ (c2 ++ (c3 ++ c4))) from by simp] at this
  exact this.trans hv
theorem nod0R (W : World) (D : Nat → Prop) : NodR W D (nodC nod0 (.slice none 0 0) (.slice none 0 0)) nod0 := ⟨none, 0, 0, none, 0, 0, rfl, Nat.le_refl _, RdE.none_ _ _ _ _, Nat.le_refl _, RdE.none_ _ _ _ _⟩
theorem ndDR (W : World) (D : Nat → Prop) : NodR W D (nodC ndD (.slice none 0 0) (.slice none 0 0)) ndD := ⟨none, 0, 0, none, 0, 0, rfl, Nat.le_refl _, RdE.none_ _ _ _ _, Nat.le_refl _, RdE.none_ _ _ _ _⟩
theorem lay_row {W : World} {D : Nat → Prop} {g t n c : Nat} {A : Option Addr} {ns : List NodV} (h : RowL W g t [.slice A n c]) (hD : D g) (hc : n ≤ c) (hr : RdE nodEn W D A n ns) : RdE layEn W D (some ⟨g, 0, none⟩) 1 [ns] := by
  refine ⟨rfl, fun _ => ⟨g, 0, rfl, hD, fun i x hx => ?_⟩⟩
  have hi : i = 0 := by have := (List.getElem?_eq_some_iff.1 hx).1; simpa using this
  subst hi
  cases hx
  refine ⟨[.slice A n c], ⟨A, n, c, rfl, hc, hr⟩, fun j v hv => ?_⟩
  rw [Nat.zero_mul, Nat.zero_add, Nat.zero_add]
  exact (h.cell j).trans hv
/-- Blocks from base on. -/
def Fr (base : Nat) (W : World) (b : Nat) : Prop := base ≤ b ∧ b < W.heap.size
theorem RdE.onF {α : Type} {E : Enc α} {W W' : World} {base n : Nat} {A : Option Addr} {l : List α} (h : RdE E W (Fr base W) A n l) (hb : Below W.heap.size W W') : RdE E W' (Fr base W') A n l := h.mono (fun b hb' => hb.block b hb'.2) (fun _ hb' => ⟨hb'.1, Nat.lt_of_lt_of_le hb'.2 hb.size⟩)
theorem RdE.grF {α : Type} {E : Enc α} {W W' : World} {base n g : Nat} {A : Option Addr} {l : List α} (h : RdE E W (Fr base W) A n l) (hg : W.grownBy W' (some g)) (hgb : g < base) : RdE E W' (Fr base W') A n l := h.mono (fun b hb' => hg.block b hb'.2 (fun e => by have := Option.some.inj e; have := hb'.1; omega)) (fun _ hb' => ⟨hb'.1, Nat.lt_of_lt_of_le hb'.2 hg.size⟩)
theorem RdE.unF {α : Type} {E : Enc α} {W : World} {base n : Nat} {A : Option Addr} {l : List α} (h : RdE E W (Fr base W) A n l) : RdE E W (Under W.heap.size) A n l := h.mono (fun _ _ => rfl) (fun _ hb => hb.2)
/-- A literal of five nodes, its world left open. -/
theorem wpList_lit5N {w : World} {ops : Array Oper} {rest : List Oper} {o : Oper} {a : Act} {Q : Exit → Act → World → Prop} (hgd : o.guard = none) (x0 x1 x2 x3 x4 : Operand) (ho : o.op = .buildSlice 24 5 #[(0, x0), (1, x1), (2, x2), (3, x3), (4, x4)]) {c0 c1 c2 c3 c4 : List Value} (h0 : a.eval x0 = .agg c0.toArray) (h1 : a.eval x1 = .agg c1.toArray) (h2 : a.eval x2 = .agg c2.toArray) (h3 : a.eval x3 = .agg c3.toArray) (h4 : a.eval x4 = .agg c4.toArray) (k0 : c0.length = 13) (k1 : c1.length = 13) (k2 : c2.length = 13) (k3 : c3.length = 13) (k4 : c4.length = 13)
    (hK : ∀ w', RowL w' w.heap.size 59 (c0 ++ (c1 ++ (c2 ++ (c3 ++ c4)))) → Below w.heap.size w w' → wpList Try.prog ops Q rest (a.put o.dst (.slice (some ⟨w.heap.size, 0, none⟩) 5 5)) w') : wpList Try.prog ops Q (o :: rest) a w :=
  wpList_lit5 hgd 24 x0 x1 x2 x3 x4 ho _ _ _ _ _ _ h0 h1 h2 h3 h4 (lit_nods k0 k1 k2 k3 k4 w) (hK _ (RowL.new w 59 _) (below_new (below_self w) _))
theorem byte_row {W : World} {D : Nat → Prop} {g t : Nat} {l : List UInt8} (h : RowL W g t (bvs l)) (hD : D g) : RdE Enc.byte W D (some ⟨g, 0, none⟩) l.length l :=
  RdE.of_bs (B := W.heap.size) ⟨rfl, fun _ => ⟨g, 0, rfl, h.lt, fun i x hx => by rw [Nat.zero_add, h.cell]; exact bvs_get hx⟩⟩ (fun _ a ha => by cases ha; exact hD)
set_option maxRecDepth 100000 in
set_option maxHeartbeats 1000000 in
theorem Base_any (w : World) : Calls Try.prog 22 #[] w (StkRet w gB upB lsB) := by
  obtain ⟨r0, r1, hb2, hs2⟩ := rows2 w (stkC ⟨0, 0, 0, 0⟩ (.slice none 0 0) (.slice none 0 0)) (stkC ⟨0, 0, 0, 0⟩ (.slice none 0 0) (.slice none 0 0)) 29 29
  have R0 := hide r0
  have R1 := hide r1
  have HB2 := hide hb2
  clear r0 r1 hb2 hs2
  go_enter Try.func22, Try.ntmps22
  go_wp2_with (refine wpList_storeW rfl 29 (.tmp 1) (.tmp 3) rfl 6 stk_size (w.heap.size + 1) 29 rfl (stkC ⟨0, 0, 0, 0⟩ (.slice none 0 0) (.slice none 0 0)) (stkC gB (.slice none 0 0) (.slice none 0 0)) rfl R1.out rfl rfl (by simp [stkC, Value.oneCell']) ?_; intro w3 hr3 hg3 hs3; have R3 := hide hr3; have R03 := hide (R0.out.grown hg3 (fun e => by have := Option.some.inj e; omega)); have HB3 := hide (HB2.out.grown hg3 HB2.out.size (fun k hk => by have := Option.some.inj hk; omega)); have hl3 := hr3.lt; have HE3 := hide (RowL.new w3 70 (flatE [⟨0, 2, [97]⟩])); have hbe := below_new (below_self w3) (.cells (flatE [⟨0, 2, [97]⟩]).toArray 70); have HBE := hide hbe; clear hr3 hg3 hs3 hbe)
  refine (Dir_any _).mono ?_
  rintro ez w4 ⟨rfl, hb4⟩
  have HE4 := hide (HE3.out.on hb4)
  have HB4 := hide ((HB3.out.trans (HBE.out.mono HB3.out.size)).trans (hb4.mono (Nat.le_trans HB3.out.size HBE.out.size)))
  have hbe4 := HBE.out.trans (hb4.mono HBE.out.size)
  have HR34 := hide (R3.out.on hbe4)
  have HR04 := hide (R03.out.on hbe4)
  have q5 : w4.cell? ⟨w.heap.size + 1, 5, none⟩ = some (.slice none 0 0) := HR34.out.cell 5
  have f5 : w4.frozen? ⟨w.heap.size + 1, 5, none⟩ = false := HR34.out.frozen 5
  have hl4 : w.heap.size + 1 < w4.heap.size := HR34.out.lt
  have hl34 := HE4.out.lt
  clear hb4 hbe4
  have HRU := hide (RowL.new w4 5 [.int .u8 120])
  have HBU := hide (below_new (below_self w4) (.cells #[.int .u8 120] 5))
  go_wp2_with (first | (refine wpList_lit5N (w := w4.alloc (.cells #[.int .u8 120] 5)) rfl (.tmp 6) (.tmp 8) (.tmp 9) (.tmp 10) (.tmp 11) rfl (c0 := nodC ndD (.slice none 0 0) (.slice (some ⟨w3.heap.size, 0, none⟩) 1 1)) (c1 := nodC ndF (.slice (some ⟨w4.heap.size, 0, none⟩) 1 1) (.slice none 0 0)) (c2 := nodC nod0 (.slice none 0 0) (.slice none 0 0)) (c3 := nodC nod0 (.slice none 0 0) (.slice none 0 0)) (c4 := nodC nod0 (.slice none 0 0) (.slice none 0 0)) rfl rfl rfl rfl rfl rfl rfl rfl rfl rfl ?_; intro w6 hr6 hb6; simp only [World.size_alloc] at hr6; have HR6 := hide hr6; have HB6 := hide (HBU.out.trans (hb6.mono HBU.out.size)); have HRU6 := hide (HRU.out.on hb6); have q56 : w6.cell? ⟨w.heap.size + 1, 5, none⟩ = some (.slice none 0 0) := (HB6.out.cell (p := ⟨w.heap.size + 1, 5, none⟩) hl4).trans q5; have f56 : w6.frozen? ⟨w.heap.size + 1, 5, none⟩ = false := (HB6.out.frozen (p := ⟨w.heap.size + 1, 5, none⟩) hl4).trans f5; have hl6 : w.heap.size + 1 < w6.heap.size := Nat.lt_of_lt_of_le hl4 HB6.out.size; clear hr6 hb6) | fail)
  have hw2 : w.heap.size + 2 ≤ w3.heap.size := by have := R3.out.lt; omega
  have hs34 : w3.heap.size < w4.heap.size := hl34
  have hs46 := HB6.out.size
  have hr6l := HR6.out.lt
  have hg7 := grown_cell w6 (w.heap.size + 1) 5 (.slice (some ⟨w6.heap.size, 0, none⟩) 1 1)
  have n6 : RdE nodEn w6 (Fr (w.heap.size + 2) w6) (some ⟨w4.heap.size + 1, 0, none⟩) 5 lyB := nods_row HR6.out ⟨by omega, hr6l⟩ ⟨none, 0, 0, _, 1, 1, rfl, Nat.le_refl _, RdE.none_ _ _ _ _, Nat.le_refl _, ent_row (HE4.out.on HB6.out) ⟨by omega, by omega⟩⟩ ⟨_, 1, 1, none, 0, 0, rfl, Nat.le_refl _, byte_row (l := [120]) HRU6.out ⟨by omega, by omega⟩, Nat.le_refl _, RdE.none_ _ _ _ _⟩ (nod0R _ _) (nod0R _ _) (nod0R _ _)
  have n7 := n6.grF hg7 (by omega)
  have x7 : RowL (w6.setCell ⟨w.heap.size + 1, 5, none⟩ (.slice (some ⟨w6.heap.size, 0, none⟩) 1 1)) (w.heap.size + 1) 29 (stkC gB (.slice none 0 0) (.slice (some ⟨w6.heap.size, 0, none⟩) 1 1)) := (HR34.out.on HB6.out).set_ 5 _
  have y7 := (HR04.out.on HB6.out).grown hg7 (fun e => by have := Option.some.inj e; omega)
  have hs7 : (w6.setCell ⟨w.heap.size + 1, 5, none⟩ (.slice (some ⟨w6.heap.size, 0, none⟩) 1 1)).heap.size = w6.heap.size := by simp [World.setCell]
  have hb7 : Below w.heap.size w (w6.setCell ⟨w.heap.size + 1, 5, none⟩ (.slice (some ⟨w6.heap.size, 0, none⟩) 1 1)) := (HB4.out.trans (HB6.out.mono (by omega))).setCell (p := ⟨w.heap.size + 1, 5, none⟩) (by show w.heap.size ≤ w.heap.size + 1; omega) _
  clear q5 f5 hl4 hg7 n6
  refine (Dir_any _).mono ?_
  rintro ez w9 ⟨rfl, hb9⟩
  generalize w6.setCell ⟨w.heap.size + 1, 5, none⟩ (.slice (some ⟨w6.heap.size, 0, none⟩) 1 1) = w7 at *
  have r8 := RowL.new w7 26 [Value.slice (some ⟨w4.heap.size + 1, 0, none⟩) 5 5]
  have b8 := below_new (below_self w7) (.cells [Value.slice (some ⟨w4.heap.size + 1, 0, none⟩) 5 5].toArray 26)
  have l8 : RdE layEn (w7.alloc (.cells [Value.slice (some ⟨w4.heap.size + 1, 0, none⟩) 5 5].toArray 26)) (Fr (w.heap.size + 2) (w7.alloc (.cells [Value.slice (some ⟨w4.heap.size + 1, 0, none⟩) 5 5].toArray 26))) (some ⟨w6.heap.size, 0, none⟩) 1 lsB := lay_row (by rw [← hs7]; exact r8) ⟨by omega, by simp; omega⟩ (Nat.le_refl _) (n7.onF b8)
  have X9 := hide ((x7.on b8).on hb9)
  have Y9 := hide ((y7.on b8).on hb9)
  have L9 := hide (l8.onF hb9)
  have B9 := hide ((hb7.trans (b8.mono hb7.size)).trans (hb9.mono (Nat.le_trans hb7.size b8.size)))
  clear r8 b8 l8 x7 y7 n7 hb7 hb9 hs7
  go_wp2_with fail
  refine (Dir_any _).mono ?_
  rintro ez w10 ⟨rfl, hb10⟩
  have HB10 := hide hb10
  clear hb10
  go_wp2_with fail
  refine (Dir_any _).mono ?_
  rintro ez w11 ⟨rfl, hb11⟩
  have HB11 := hide (HB10.out.trans (hb11.mono HB10.out.size))
  clear hb11
  go_wp2_with (first | (refine wpList_lit5N (w := w11) rfl (.tmp 16) (.tmp 17) (.tmp 18) (.tmp 19) (.tmp 20) rfl (c0 := nodC ndD (.slice none 0 0) (.slice none 0 0)) (c1 := nodC ndD (.slice none 0 0) (.slice none 0 0)) (c2 := nodC ndD (.slice none 0 0) (.slice none 0 0)) (c3 := nodC nod0 (.slice none 0 0) (.slice none 0 0)) (c4 := nodC nod0 (.slice none 0 0) (.slice none 0 0)) rfl rfl rfl rfl rfl rfl rfl rfl rfl rfl ?_; intro w12 hr12 hb12; have HR12 := hide hr12; have HB12 := hide (HB11.out.trans (hb12.mono HB11.out.size)); have hl12 := hr12.lt; clear hr12 hb12) | (refine wpList_storeC rfl 26 (.tmp 23) (.tmp 22) rfl 1 lay_size (w.heap.size + 1) 4 29 rfl (stkC gB (.slice none 0 0) (.slice (some ⟨w6.heap.size, 0, none⟩) 1 1)) [.slice (some ⟨w11.heap.size, 0, none⟩) 5 5] rfl (X9.out.on HB12.out) rfl (by simp [stkC]) (by simp [Value.oneCell']) ?_; intro w13 hr13 hg13 hs13; have HX13 := hide (show RowL w13 (w.heap.size + 1) 29 (stkC gB (.slice (some ⟨w11.heap.size, 0, none⟩) 5 5) (.slice (some ⟨w6.heap.size, 0, none⟩) 1 1)) from hr13); have HG13 := hide hg13; clear hr13 hg13) | (refine wpList_loadW rfl 29 (.tmp 1) rfl 6 stk_agg stk_size (w.heap.size + 1) 29 rfl (stkC gB (.slice (some ⟨w11.heap.size, 0, none⟩) 5 5) (.slice (some ⟨w6.heap.size, 0, none⟩) 1 1)) HX13.out rfl ?_) | (refine wpList_storeW rfl 29 (.tmp 0) (.tmp 24) rfl 6 stk_size w.heap.size 29 rfl (stkC ⟨0, 0, 0, 0⟩ (.slice none 0 0) (.slice none 0 0)) (stkC gB (.slice (some ⟨w11.heap.size, 0, none⟩) 5 5) (.slice (some ⟨w6.heap.size, 0, none⟩) 1 1)) rfl ((Y9.out.on HB12.out).grown HG13.out (fun e => by have := Option.some.inj e; omega)) rfl rfl (by simp [stkC, Value.oneCell']) ?_; intro w14 hr14 hg14 hs14; have HR14 := hide hr14; have HG14 := hide hg14; clear hr14 hg14) | fail)
  have hx9 := X9.out.lt
  have hs9 := B9.out.size
  have hs12 := HB12.out.size
  have hs11 := HB11.out.size
  have u12 : RdE nodEn w12 (Fr (w.heap.size + 2) w12) (some ⟨w11.heap.size, 0, none⟩) 5 upB := nods_row HR12.out ⟨by omega, hl12⟩ (ndDR _ _) (ndDR _ _) (ndDR _ _) (nod0R _ _) (nod0R _ _)
  have l12 := L9.out.onF HB12.out
  exact bodyPost_ret (res_cell Try.results22 rfl stk_agg stk_size HR14.out rfl) rfl ⟨_, 5, 5, _, 1, 1, rfl, ((u12.grF HG13.out (by omega)).grF HG14.out (by omega)).unF, ((l12.grF HG13.out (by omega)).grF HG14.out (by omega)).unF, ((B9.out.trans (HB12.out.mono hs9)).grown HG13.out (by omega) (fun k hk => by have := Option.some.inj hk; omega)).grown HG14.out (by have := HG13.out.size; omega) (fun k hk => by have := Option.some.inj hk; omega)⟩
end Go.Proofs.Ytnehkgbdppbhiaa

/- The law's awake (layer 16). -/
namespace Go.Proofs.Ytnehkgbdppbhiaa
open Go.RowKit Go.Shelf Plain

theorem EqS_b {A B : Option Addr} {n m c d : Nat} {l k : List (List UInt8)} {W1 W2 : Nat} {b : Bool} (h : (l == k) = b) (w : World) (ha : Rd st w W1 A n l) (hb : Rd st w W2 B m k) (hn : n ≤ 140737488355328) :
    Calls Try.prog 14 #[.slice A n c, .slice B m d] w (BRt w b) := by rw [← h]; exact EqualS_any w ha hb hn
def OnePlc (w : World) (x : Int × Int) (e : Ending) (w' : World) : Prop := ∃ A c, e = .returned (.slice A 1 c) ∧ RdE prEn w' (Under w'.heap.size) A 1 [x] ∧ Below w.heap.size w w'
def OneFind (w : World) (k : Int) (x : Int × Int) (e : Ending) (w' : World) : Prop := ∃ A c, e = .returned (.tuple #[.int .i64 k, .slice A 1 c]) ∧ RdE prEn w' (Under w'.heap.size) A 1 [x] ∧ Below w.heap.size w w'
def NoLook (w : World) (e : Ending) (w' : World) : Prop := ∃ A n c, e = .returned (.tuple #[.slice A n c, .bool false]) ∧ Below w.heap.size w w'
def OneName (w : World) (x : List UInt8) (e : Ending) (w' : World) : Prop := ∃ A n c, e = .returned (.slice A n c) ∧ Rd st w' w'.heap.size A n [x] ∧ Below w.heap.size w w'
section
variable {AU AL AP AN : Option Addr} {nU cU nL cL cP cN : Nat}
theorem RootsB (w : World) (h : RdE layEn w (Under w.heap.size) AL nL lsB) : Calls Try.prog 12 #[.agg (stkC gB (.slice AU nU cU) (.slice AL nL cL)).toArray] w (OnePlc w (1, 1)) :=
  (Roots_any w h ba_few).mono fun e w' ⟨A, c, h1, h2, h3⟩ => by
    rw [ba_roots] at h1 h2
    exact ⟨A, c, h1, h2, h3⟩
theorem FindB (w : World) (h : RdE layEn w (Under w.heap.size) AL nL lsB) (hp : RdE prEn w (Under w.heap.size) AP 1 [(1, 1)]) : Calls Try.prog 7 #[.agg (stkC gB (.slice AU nU cU) (.slice AL nL cL)).toArray, .slice AP 1 cP, .string ⟨#[97]⟩] w (OneFind w 2 (1, 2)) :=
  (Find_any (nm := [97]) w h hp (Nat.le_refl _) ba_few (by omega)).mono fun e w' ⟨A, c, h1, h2, h3, h4⟩ => by
    rw [ba_find] at h1 h3
    exact ⟨A, c, h1, h3.mono (fun _ _ => rfl) (fun b hb => hb.2), h4⟩
theorem LookB (w : World) (h : RdE layEn w (Under w.heap.size) AL nL lsB) (hp : RdE prEn w (Under w.heap.size) AP 1 [(1, 1)]) (hs : Rd st w w.heap.size AN 1 [[97]]) : Calls Try.prog 10 #[.agg (stkC gB (.slice AU nU cU) (.slice AL nL cL)).toArray, .slice AP 1 cP, .slice AN 1 cN] w (NoLook w) :=
  (Look_any w h hp hs (Nat.le_refl _) ba_few (by omega) (by omega)).mono fun e w' ⟨A, n, c, h1, h2, h3⟩ => by
    rw [ba_look] at h1
    exact ⟨A, n, c, h1, h3⟩
theorem NamesB (w : World) (h : RdE layEn w (Under w.heap.size) AL nL lsB) (hp : RdE prEn w (Under w.heap.size) AP 1 [(1, 1)]) : Calls Try.prog 15 #[.agg (stkC gB (.slice AU nU cU) (.slice AL nL cL)).toArray, .slice AP 1 cP] w (OneName w [97]) :=
  (Names_any w h hp ba_few (by omega)).mono fun e w' ⟨A, n, c, h1, h2, h3⟩ => by
    rw [ba_names] at h2
    exact ⟨A, n, c, h1, h2, h3⟩
end
set_option maxRecDepth 100000 in
set_option maxHeartbeats 2000000 in
theorem awake16_any (w : World) : Calls Try.prog 6 #[] w (LawOk w) := by
  go_enter Try.func6, Try.ntmps6
  go_wp2_with fail
  refine (Base_any w).mono ?_
  rintro ez w1 ⟨AU, nU, cU, AL, nL, cL, rfl, -, hl, hb1⟩
  have HZ := hide (RowL.new w1 29 (stkC ⟨0, 0, 0, 0⟩ (.slice none 0 0) (.slice none 0 0)))
  have HL1 := hide hl
  have HB1 := hide hb1
  clear hl hb1
  go_wp2_with (first | (refine wpList_storeW rfl 29 (.tmp 1) (.tmp 7) rfl 6 stk_size w1.heap.size 29 rfl (stkC ⟨0, 0, 0, 0⟩ (.slice none 0 0) (.slice none 0 0)) (stkC gB (.slice AU nU cU) (.slice AL nL cL)) rfl HZ.out rfl rfl (by simp [stkC, Value.oneCell']) ?_; intro w2 hr2 hg2 hs2; have hb2 := below_stored' hg2; have R2 := hide hr2; have HL2 := hide (HL1.out.on hb2); have HB2 := hide (HB1.out.trans (hb2.mono HB1.out.size)); clear hr2 hg2 hs2 hb2) | (refine wpList_loadW rfl 29 (.tmp 1) rfl 6 stk_agg stk_size w1.heap.size 29 rfl (stkC gB (.slice AU nU cU) (.slice AL nL cL)) R2.out rfl ?_) | fail)
  refine (RootsB w2 HL2.out).mono ?_
  rintro ez w3 ⟨A3, c3, rfl, h3, hb3⟩
  have P3 := hide h3
  have R3 := hide (R2.out.on hb3)
  have HL3 := hide (HL2.out.on hb3)
  have HB3 := hide (HB2.out.trans (hb3.mono HB2.out.size))
  clear h3 hb3
  go_wp2_with (first | (refine wpList_loadW rfl 29 (.tmp 1) rfl 6 stk_agg stk_size w1.heap.size 29 rfl (stkC gB (.slice AU nU cU) (.slice AL nL cL)) R3.out rfl ?_) | fail)
  refine (FindB w3 HL3.out P3.out).mono ?_
  rintro ez w4 ⟨A4, c4, rfl, h4, hb4⟩
  have Q4 := hide h4
  have P4 := hide (P3.out.on hb4)
  have R4 := hide (R3.out.on hb4)
  have HL4 := hide (HL3.out.on hb4)
  have HB4 := hide (HB3.out.trans (hb4.mono HB3.out.size))
  have hba := below_new (below_self w4) (.cells #[.string ⟨#[97]⟩] 9)
  have HLa := hide (HL4.out.on hba)
  have Pa := hide (P4.out.on hba)
  have HBA := hide hba
  have S4 := hide (show Rd st (w4.alloc (.cells #[.string ⟨#[97]⟩] 9)) (w4.alloc (.cells #[.string ⟨#[97]⟩] 9)).heap.size (some ⟨w4.heap.size, 0, none⟩) 1 [[97]] from (Rd.one w4 9 rfl).more (by simp))
  clear h4 hb4 hba
  go_wp2_with (first | (refine wpList_loadW rfl 29 (.tmp 1) rfl 6 stk_agg stk_size w1.heap.size 29 rfl (stkC gB (.slice AU nU cU) (.slice AL nL cL)) R4.out rfl ?_) | fail)
  refine (LookB _ HLa.out Pa.out S4.out).mono ?_
  rintro ez w5 ⟨A5, n5, c5, rfl, hb5⟩
  have hb45 := HBA.out.trans (hb5.mono HBA.out.size)
  have Q5 := hide (Q4.out.on hb45)
  have P5 := hide (P4.out.on hb45)
  have R5 := hide (R4.out.on hb45)
  have HL5 := hide (HL4.out.on hb45)
  have HB5 := hide (HB4.out.trans (hb45.mono HB4.out.size))
  have hba := below_new (below_self w5) (.cells (prC (1, 1)).toArray 38)
  have Pb := hide (P5.out.on hba)
  have HBA5 := hide hba
  have E5 := hide (pr_lit1 w5 38 (1, 1) (B := 0) (Nat.zero_le _))
  clear hb5 hb45 hba HLa Pa HBA S4
  go_wp2_with (first | (refine wpList_litW rfl 30 (.tmp 24) rfl (.agg (prC (1, 1)).toArray) _ rfl (lit_plc (1, 1) w5) ?_) | fail)
  refine (EqPlc_same (L := [(1, 1)]) _ Pb.out E5.out (by omega)).mono ?_
  rintro ez w6 ⟨rfl, hb6⟩
  have hb56 := HBA5.out.trans (hb6.mono HBA5.out.size)
  have Q6 := hide (Q5.out.on hb56)
  have P6 := hide (P5.out.on hb56)
  have R6 := hide (R5.out.on hb56)
  have HL6 := hide (HL5.out.on hb56)
  have HB6 := hide (HB5.out.trans (hb56.mono HB5.out.size))
  have hba := below_new (below_self w6) (.cells (prC (1, 2)).toArray 38)
  have Qb := hide (Q6.out.on hba)
  have HBA6 := hide hba
  have E6 := hide (pr_lit1 w6 38 (1, 2) (B := 0) (Nat.zero_le _))
  clear hb6 hb56 hba Pb E5 HBA5
  go_wp2_with fail
  refine (EqPlc_same (L := [(1, 2)]) _ Qb.out E6.out (by omega)).mono ?_
  rintro ez w7 ⟨rfl, hb7⟩
  have hb67 := HBA6.out.trans (hb7.mono HBA6.out.size)
  have P7 := hide (P6.out.on hb67)
  have R7 := hide (R6.out.on hb67)
  have HL7 := hide (HL6.out.on hb67)
  have HB7 := hide (HB6.out.trans (hb67.mono HB6.out.size))
  have s0 : w7.cell? ⟨w1.heap.size, 0, none⟩ = some (.int .i64 1) := R7.out.cell 0
  have s1 : w7.cell? ⟨w1.heap.size, 1, none⟩ = some (.int .i64 5) := R7.out.cell 1
  have s2 : w7.cell? ⟨w1.heap.size, 2, none⟩ = some (.int .i64 6) := R7.out.cell 2
  have s3 : w7.cell? ⟨w1.heap.size, 3, none⟩ = some (.int .i64 5) := R7.out.cell 3
  have s4 : w7.cell? ⟨w1.heap.size, 4, none⟩ = some (.slice AU nU cU) := R7.out.cell 4
  have s5 : w7.cell? ⟨w1.heap.size, 5, none⟩ = some (.slice AL nL cL) := R7.out.cell 5
  clear hb7 hb67 Qb E6 HBA6
  go_wp2_with fail
  clear s0 s1 s2 s3 s4 s5
  refine (NamesB w7 HL7.out P7.out).mono ?_
  rintro ez w8 ⟨A8, n8, c8, rfl, h8, hb8⟩
  have hn8 : n8 ≤ 100 := by have := h8.len; simp at this; omega
  have hba := below_new (below_self w8) (.cells #[.string ⟨#[97]⟩] 9)
  have N8 := hide (h8.on hba)
  have HBA8 := hide hba
  have S8 := hide (show Rd st (w8.alloc (.cells #[.string ⟨#[97]⟩] 9)) (w8.heap.size + 1) (some ⟨w8.heap.size, 0, none⟩) 1 [[97]] from Rd.one w8 9 rfl)
  have HB8 := hide (HB7.out.trans (hb8.mono HB7.out.size))
  clear h8 hb8 hba
  go_wp2_with fail
  refine (EqS_b (b := true) (by decide) _ N8.out S8.out (by omega)).mono ?_
  rintro ez w9 ⟨rfl, hb9⟩
  have HB9 := hide (HB8.out.trans ((HBA8.out.trans (hb9.mono HBA8.out.size)).mono HB8.out.size))
  clear hb9
  go_wp2_with fail
  go_ret
  exact LawOk.of HB9.out
end Go.Proofs.Ytnehkgbdppbhiaa

/- The law LowerNames: its walk (layer 16). -/
namespace Go.Proofs.Ytnehkgbdppbhiaa
open Go.RowKit Go.Shelf Plain

theorem IdxS_any {A : Option Addr} {n c B : Nat} {l : List (List UInt8)} {v : List UInt8} (w : World) (h : Rd st w B A n l) (hn : n ≤ 1000000) :
    Calls Try.prog 36 #[.slice A n c, .string ⟨v.toArray⟩] w (fun e w' => ∃ i : Int, e = .returned (.int .i64 i) ∧ w = w' ∧ decide (0 ≤ i) = decide (v ∈ l)) := by
  have H := hide h
  have hl := h.len
  clear h
  go_enter Try.func36, Try.ntmps36
  go_wp2
  go_loopw [8] (fun v8 wr => ∃ j : Nat, j ≤ n ∧ v8 = .int .i64 j ∧ wr = w ∧ v ∉ l.take j) (fun v8 _ => n - (intOf v8).toNat)
  case atStart => exact ⟨0, by omega, rfl, rfl, by simp⟩
  case round =>
    obtain ⟨j, hj, rfl, hw, hno⟩ := hrel
    subst hw
    have HNO := hide hno
    clear hno
    by_cases hlt : j < n
    · obtain ⟨x, hx⟩ : ∃ x, l[j]? = some x := ⟨_, List.getElem?_eq_getElem (by omega)⟩
      obtain ⟨b, o, rfl, hb, q⟩ := st_cell H.out hx
      have HX := hide hx
      have hjn : (j : Int) < (n : Int) := by omega
      clear hx
      by_cases hv : v = x
      · subst hv
        have hm : decide (v ∈ l) = true := decide_eq_true (List.mem_of_getElem? HX.out)
        have HM := hide hm
        clear hm
        go_wp2_with fail
        go_ret
        exact ⟨(j : Int), rfl, rfl, by rw [HM.out]; simp⟩
      · have HNV := hide hv
        have hv2 : (v == x) = false := by simpa using hv
        clear hv
        go_wp2_with fail
        go_roundw
        case rel => exact ⟨j + 1, by omega, by go_num, (by first | rfl | trivial), fun hm => by
          rw [List.take_add_one, HX.out, List.mem_append] at hm
          rcases hm with hm | hm
          · exact HNO.out hm
          · simp at hm; exact HNV.out hm⟩
        case measure => simp [intOf]; omega
    · obtain rfl : j = n := by omega
      have hm : decide (v ∈ l) = false := by have := HNO.out; rw [List.take_of_length_le (by omega)] at this; exact decide_eq_false this
      have HM := hide hm
      clear hm
      go_wp2_with fail
      go_ret
      exact ⟨-1, rfl, rfl, by rw [HM.out]; rfl⟩
theorem ContS_b {A : Option Addr} {n c B : Nat} {l : List (List UInt8)} {v : List UInt8} {b : Bool} (hb : decide (v ∈ l) = b) (w : World) (h : Rd st w B A n l) (hn : n ≤ 1000000) :
    Calls Try.prog 17 #[.slice A n c, .string ⟨v.toArray⟩] w (fun e w' => e = .returned (.bool b) ∧ w = w') := by
  have H := hide h
  have HB := hide hb
  clear h hb
  go_enter Try.func17, Try.ntmps17
  go_wp2_with (go_at_call 36; refine (IdxS_any w H.out hn).mono ?_; rintro e w3 ⟨i, rfl, rfl, hi⟩; rw [HB.out] at hi)
  go_ret
  exact ⟨by first | rfl | (rw [hi]), rfl⟩
theorem find_told {ls : List (List NodV)} (nm : List UInt8) : ∀ (l : List (Int × Int)), (findL ls nm l []).1 ≠ 0 → ∃ p ∈ l, ∃ x, firstL ls p nm = some x
  | [], h => by unfold findL at h; simp at h
  | p :: r, h => by
    cases hx : firstL ls p nm with
    | some x => exact ⟨p, List.mem_cons_self, x, hx⟩
    | none =>
      unfold findL at h
      rw [hx] at h
      obtain ⟨q, hq, x, hqx⟩ := find_told nm r h
      exact ⟨q, List.mem_cons_of_mem _ hq, x, hqx⟩
theorem told_mem {ls : List (List NodV)} {l : List (Int × Int)} {nm : List UInt8} : decide (nm ∈ namesL ls l) = ((findL ls nm l []).1 != 0) := by
  rw [Bool.eq_iff_iff, decide_eq_true_iff]
  unfold namesL
  rw [List.mem_filter, (sortS_rising _).2]
  constructor
  · rintro ⟨-, h⟩
    unfold hidS at h
    simpa using h
  · intro h
    have h0 : (findL ls nm l []).1 ≠ 0 := by simpa using h
    refine ⟨?_, by unfold hidS; simpa using h0⟩
    obtain ⟨p, hp, x, hx⟩ := find_told nm l h0
    unfold firstL at hx
    rw [Option.map_eq_some_iff] at hx
    obtain ⟨e, he, -⟩ := hx
    have h1 := List.find?_some he
    have h2 := List.mem_of_find?_eq_some he
    unfold useE at h1
    simp only [Bool.and_eq_true, decide_eq_true_eq] at h1
    unfold allN
    exact List.mem_flatMap.2 ⟨p, hp, List.mem_map.2 ⟨e, h2, h1.1⟩⟩
theorem namesL_len {ls : List (List NodV)} (hF : FewL ls) (l : List (Int × Int)) : (namesL ls l).length ≤ 16 * l.length := Nat.le_trans (List.length_filter_le _ _) (Nat.le_trans (sortS_length _) (allN_len hF l))
set_option maxRecDepth 100000 in
set_option maxHeartbeats 4000000 in
theorem law_LowerNames {g : GeoQ} {AU AL AP : Option Addr} {nU cU nL cL n cP : Nat} {up : List NodV} {ls : List (List NodV)} {l : List (Int × Int)} {nm : List UInt8} (w : World) (hu : RdE nodEn w (Under w.heap.size) AU nU up) (h : RdE layEn w (Under w.heap.size) AL nL ls) (hp : RdE prEn w (Under w.heap.size) AP n l) (hfu : FineN up) (hfl : ∀ ns ∈ ls, FineN ns) :
    Calls Try.prog 4 #[.agg (stkC g (.slice AU nU cU) (.slice AL nL cL)).toArray, .slice AP n cP, .string ⟨nm.toArray⟩] w (LawOk w) := by
  have r := RowL.new w 29 (stkC g (.slice AU nU cU) (.slice AL nL cL))
  have hb1 := below_new (below_self w) (.cells (stkC g (.slice AU nU cU) (.slice AL nL cL)).toArray 29)
  obtain ⟨W1, hW1⟩ : ∃ W1, w.alloc (.cells (stkC g (.slice AU nU cU) (.slice AL nL cL)).toArray 29) = W1 := ⟨_, rfl⟩
  have U0 := hu.on hb1
  have L0 := h.on hb1
  have P0 := hp.on hb1
  rw [hW1] at r hb1 U0 L0 P0
  have hW1' : w.alloc (.cells #[.int .i64 g.a, .int .i64 g.b, .int .i64 g.c, .int .i64 g.d, .slice AU nU cU, .slice AL nL cL] 29) = W1 := hW1
  have R1 := hide r
  have HB1 := hide hb1
  have U1 := hide U0
  have L1 := hide L0
  have P1 := hide P0
  have HPL := hide hp.1
  have HFU := hide hfu
  have HFL := hide hfl
  unfold stkC
  clear r hb1 U0 L0 P0 hW1 hu h hp hfu hfl
  go_enter Try.func4, Try.ntmps4
  go_wp2_with (first | (refine wpList_loadW rfl 29 (.tmp 3) rfl 6 stk_agg stk_size w.heap.size 29 rfl (stkC g (.slice AU nU cU) (.slice AL nL cL)) R1.out rfl ?_) | fail)
  clear hW1'
  refine (PStack_any W1 U1.out L1.out HFU.out HFL.out).mono ?_
  rintro e w2 ⟨p, rfl, hb2, hq⟩
  have HQ := hide hq
  have HB2 := hide (HB1.out.trans (hb2.mono HB1.out.size))
  have L2 := hide (L1.out.on hb2)
  have P2 := hide (P1.out.on hb2)
  have R2 := hide (R1.out.on hb2)
  clear hq hb2 U1 L1 P1 R1
  cases p
  · go_wp2_with fail
    refine (awake16_any _).mono ?_
    rintro e wz ⟨rfl, hbz⟩
    have HBZ := hide (HB2.out.trans (hbz.mono HB2.out.size))
    clear hbz
    go_wp2_with fail
    go_ret
    exact LawOk.of HBZ.out
  obtain ⟨hF, -⟩ := HQ.out (by first | rfl | trivial)
  by_cases hk : (8 : Int) < (n : Int)
  · have dk : decide ((8 : Int) < (n : Int)) = true := decide_eq_true hk
    clear hF
    go_wp2_with fail
    refine (awake16_any _).mono ?_
    rintro e wz ⟨rfl, hbz⟩
    have HBZ := hide (HB2.out.trans (hbz.mono HB2.out.size))
    clear hbz
    go_wp2_with fail
    go_ret
    exact LawOk.of HBZ.out
  have dk : decide ((8 : Int) < (n : Int)) = false := decide_eq_false hk
  have hn8 : n ≤ 8 := by omega
  have HF := hide hF
  have HNL := hide (show (namesL ls l).length ≤ 128 from by have := namesL_len hF l; have := HPL.out; omega)
  clear hF hk HQ
  go_wp2_with (first | (refine wpList_loadW rfl 29 (.tmp 3) rfl 6 stk_agg stk_size w.heap.size 29 rfl (stkC g (.slice AU nU cU) (.slice AL nL cL)) R2.out rfl ?_) | fail)
  refine (Names_any w2 L2.out P2.out HF.out (by omega)).mono ?_
  rintro e w3 ⟨A3, n3, c3, rfl, h3, hb3⟩
  have N3 := hide h3
  have HB3 := hide (HB2.out.trans (hb3.mono HB2.out.size))
  have hn3 : n3 ≤ 128 := by rw [← h3.len]; exact HNL.out
  have L3 := hide (L2.out.on hb3)
  have P3 := hide (P2.out.on hb3)
  have R3 := hide (R2.out.on hb3)
  clear h3 hb3 L2 P2 R2
  go_wp2_with fail
  go_loopw [28] (fun v28 wr => ∃ j : Nat, j ≤ n3 ∧ v28 = .int .i64 j ∧ Below w3.heap.size w3 wr) (fun v28 _ => n3 - (intOf v28).toNat)
  case atStart => exact ⟨0, by omega, rfl, below_self _⟩
  case round =>
    obtain ⟨j, hj, rfl, hbr⟩ := hrel
    have HBR := hide hbr
    have R4 := hide (R3.out.on hbr)
    have L4 := hide (L3.out.on hbr)
    have P4 := hide (P3.out.on hbr)
    have N4 := hide (N3.out.on hbr)
    have hbsz := hbr.size
    clear hbr
    by_cases hlt : j < n3
    · obtain ⟨x, hx⟩ : ∃ x, (namesL ls l)[j]? = some x := ⟨_, List.getElem?_eq_getElem (by have := N3.out.len; omega)⟩
      obtain ⟨bS, oS, rfl, hbS, qS⟩ := st_cell N4.out hx
      have hne : (findL ls x l []).1 ≠ 0 := by
        have := told_mem (ls := ls) (l := l) (nm := x)
        rw [decide_eq_true (List.mem_of_getElem? hx)] at this
        simpa using this.symm
      have hkd := (findL_kind HF.out x l []).1.1 hne
      obtain ⟨R, hR⟩ : ∃ R, findL ls x l [] = R := ⟨_, rfl⟩
      rw [hR] at hne hkd
      have HR := hide hR
      obtain ⟨K, L⟩ := R
      have h0 : (K == 0) = false := by simpa using hne
      have hlp : 0 < L.length := List.length_pos_iff.2 hkd
      have hl0 : ((L.length : Int) == 0) = false := by rw [beq_eq_false_iff_ne]; omega
      have hln : ¬ (L = []) := hkd
      have hjn : (j : Int) < (n3 : Int) := by omega
      clear hx hR hne hkd
      go_wp2_with (first | (refine wpList_loadW rfl 29 (.tmp 3) rfl 6 stk_agg stk_size w.heap.size 29 rfl (stkC g (.slice AU nU cU) (.slice AL nL cL)) R4.out rfl ?_) | fail)
      refine (Find_e HR.out wr L4.out P4.out (Nat.le_refl _) HF.out (by omega)).mono ?_
      rintro e w5 ⟨A5, c5, rfl, hc5, hr5, hb5⟩
      have HB5 := hide (HBR.out.trans (hb5.mono hbsz))
      clear hr5 hb5 qS
      dsimp only
      go_wp2_with fail
      go_roundw
      case rel => exact ⟨j + 1, by omega, by go_num, HB5.out⟩
      case measure => simp [intOf]; omega
    · obtain rfl : j = n3 := by omega
      have HB4 := hide (HB3.out.trans (HBR.out.mono HB3.out.size))
      obtain ⟨R, hR⟩ : ∃ R, findL ls nm l [] = R := ⟨_, rfl⟩
      have hkind := findL_kind HF.out nm l []
      have htm := told_mem (ls := ls) (l := l) (nm := nm)
      rw [hR] at hkind htm
      have HR := hide hR
      have HTM := hide htm
      have HRI := hide (rising_adj (show Rising (namesL ls l) from List.Pairwise.filter _ (sortS_rising _).1))
      obtain ⟨K, L⟩ := R
      have HKI := hide hkind
      clear hR hkind htm
      go_wp2_with (first | (refine wpList_loadW rfl 29 (.tmp 3) rfl 6 stk_agg stk_size w.heap.size 29 rfl (stkC g (.slice AU nU cU) (.slice AL nL cL)) R4.out rfl ?_) | fail)
      refine (Find_e HR.out wr L4.out P4.out (Nat.le_refl _) HF.out (by omega)).mono ?_
      rintro e w5 ⟨A5, c5, rfl, hc5, hr5, hb5⟩
      have HB5 := hide (HB4.out.trans (hb5.mono HB4.out.size))
      have N5 := hide (N4.out.on hb5)
      clear hr5 hb5
      dsimp only
      by_cases hK : K = 0
      · have hL : L = [] := by
          have := HKI.out.1
          simp only [hK] at this
          by_cases hh : L = []
          · exact hh
          · exact absurd (this.2 hh) (by simp)
        subst hK hL
        have htm := HTM.out
        simp only [bne_self_eq_false] at htm
        have HT := hide htm
        clear htm
        go_wp2_with fail
        refine (ContS_b HT.out w5 N5.out (by omega)).mono ?_
        rintro e w6 ⟨rfl, rfl⟩
        go_wp2_with fail
        refine (IsSortedS_yes w5 N5.out (by omega) HRI.out).mono ?_
        rintro e w7 ⟨rfl, hb7⟩
        have HB7 := hide (HB5.out.trans (hb7.mono HB5.out.size))
        clear hb7
        go_wp2_with fail
        refine (awake16_any _).mono ?_
        rintro e wz ⟨rfl, hbz⟩
        have HBZ := hide (HB7.out.trans (hbz.mono HB7.out.size))
        clear hbz
        go_wp2_with fail
        go_ret
        exact LawOk.of HBZ.out
      · have hL : L ≠ [] := HKI.out.1.1 hK
        have hlp : 0 < L.length := List.length_pos_iff.2 hL
        have h1 : (K != 0) = true := by simpa using hK
        have HT := hide (HTM.out.trans h1)
        by_cases hK2 : K = 2
        · obtain ⟨y, rfl⟩ : ∃ y, L = [y] := by
            have := HKI.out.2.1 (by rw [hK2]; decide)
            match L, this, hL with
            | [y], _, _ => exact ⟨y, rfl⟩
          subst hK2
          clear hL hlp h1 hK
          go_wp2_with fail
          refine (ContS_b HT.out w5 N5.out (by omega)).mono ?_
          rintro e w6 ⟨rfl, rfl⟩
          go_wp2_with fail
          refine (IsSortedS_yes w5 N5.out (by omega) HRI.out).mono ?_
          rintro e w7 ⟨rfl, hb7⟩
          have HB7 := hide (HB5.out.trans (hb7.mono HB5.out.size))
          clear hb7
          go_wp2_with fail
          refine (awake16_any _).mono ?_
          rintro e wz ⟨rfl, hbz⟩
          have HBZ := hide (HB7.out.trans (hbz.mono HB7.out.size))
          clear hbz
          go_wp2_with fail
          go_ret
          exact LawOk.of HBZ.out
        · have h2 : (K != 2) = true := by simpa using hK2
          clear hL hK hK2
          go_wp2_with fail
          refine (ContS_b HT.out w5 N5.out (by omega)).mono ?_
          rintro e w6 ⟨rfl, rfl⟩
          go_wp2_with fail
          refine (IsSortedS_yes w5 N5.out (by omega) HRI.out).mono ?_
          rintro e w7 ⟨rfl, hb7⟩
          have HB7 := hide (HB5.out.trans (hb7.mono HB5.out.size))
          clear hb7
          go_wp2_with fail
          refine (awake16_any _).mono ?_
          rintro e wz ⟨rfl, hbz⟩
          have HBZ := hide (HB7.out.trans (hbz.mono HB7.out.size))
          clear hbz
          go_wp2_with fail
          go_ret
          exact LawOk.of HBZ.out
end Go.Proofs.Ytnehkgbdppbhiaa

/- A stack and a list of places that came in, opened. -/
namespace Go.Proofs.Ytnehkgbdppbhiaa
open Go.RowKit Go.Shelf Plain Go.WideShapes Go.ChangeShapes

section
variable {H : Type} {enc : TypeId × Value → H} {w : World} {spare : Nat → Bool} {held : Bool}
theorem six_ {l : List Value} (h : l.length = 6) : ∃ a b c d e f, l = [a, b, c, d, e, f] := by
  match l, h with
  | [a, b, c, d, e, f], _ => exact ⟨a, b, c, d, e, f, rfl⟩
theorem two_ {l : List Value} (h : l.length = 2) : ∃ a b, l = [a, b] := by
  match l, h with
  | [a, b], _ => exact ⟨a, b, rfl⟩
set_option maxRecDepth 100000 in
theorem trod_lay {fuel : Nat} {cs : List Value} {y : DataW H × List MemPlace} (hl : cs.length = 1) (h : DataW.trod enc Try.prog w 0 spare held fuel 26 cs = some y) : ∃ x : List NodV, layEn.R w (Under w.heap.size) cs x ∧ ∀ d ∈ x, d.ents.length ≤ maxLen := by
  obtain ⟨c0, rfl⟩ := one_cell hl
  obtain ⟨xs, n, -, -, -, hlen, hp⟩ := DataW.trod_struct Try.underlying26 h
  match xs, hlen, hp with
  | [x0], _, hp =>
    obtain ⟨A, n, c, ns, e1, hn, -, r, hfine⟩ := open_rdeF (e := 59) (cs := [c0]) nodEn (fun x => x.ents.length ≤ maxLen) Try.underlying24 (by kernel_rfl) (by decide) (fun _ cs _ hl hy => trod_node hl hy) (hp 0 _ rfl)
    cases e1
    exact ⟨ns, ⟨A, n, c, rfl, hn, r⟩, hfine⟩
set_option maxRecDepth 100000 in
theorem trod_plc {fuel : Nat} {cs : List Value} {y : DataW H × List MemPlace} (hl : cs.length = 2) (h : DataW.trod enc Try.prog w 0 spare held fuel 38 cs = some y) : ∃ x : Int × Int, prEn.R w (Under w.heap.size) cs x := by
  obtain ⟨c0, c1, rfl⟩ := two_ hl
  obtain ⟨xs, n, -, -, -, hlen, hp⟩ := DataW.trod_struct Try.underlying38 h
  match xs, hlen, hp with
  | [x0, x1], _, hp =>
    obtain ⟨a0, rfl⟩ := cell_i64 (c := c0) (hp 0 _ rfl)
    obtain ⟨a1, rfl⟩ := cell_i64 (c := c1) (hp 1 _ rfl)
    exact ⟨(a0, a1), rfl⟩
set_option maxRecDepth 100000 in
theorem open_stack {r : Reach} {b0 : Nat} {v : Value} {d : DataW H} {p : List MemPlace} (hv : Value.okWide Try.prog w r b0 29 v) (h : DataW.Trod enc Try.prog w 0 spare held 29 v d p) :
    ∃ (g : GeoQ) (AU AL : Option Addr) (nU cU nL cL : Nat) (up : List NodV) (ls : List (List NodV)), v = .agg (stkC g (.slice AU nU cU) (.slice AL nL cL)).toArray ∧ nU ≤ cU ∧ nL ≤ cL ∧ RdE nodEn w (Under w.heap.size) AU nU up ∧ RdE layEn w (Under w.heap.size) AL nL ls ∧ (∀ x ∈ up, x.ents.length ≤ maxLen) ∧ ∀ ns ∈ ls, ∀ x ∈ ns, x.ents.length ≤ maxLen := by
  obtain ⟨cs, rfl, hsz⟩ := okWide_struct Try.underlying29 hv
  have hC : Try.prog.cellsOf 29 = 6 := by kernel_rfl
  obtain ⟨l⟩ := cs
  obtain ⟨c0, c1, c2, c3, c4, c5, rfl⟩ := six_ (l := l) (hsz.trans hC)
  obtain ⟨fuel, hf⟩ := h
  obtain ⟨xs, n, -, -, -, hlen, hp⟩ := DataW.trod_struct Try.underlying29 hf
  match xs, hlen, hp with
  | [x0, x1, x2], _, hp =>
    have p0 := hp 0 _ rfl
    have p1 := hp 1 _ rfl
    obtain ⟨ys, m, -, -, -, hyl, hq⟩ := DataW.trod_struct Try.underlying23 (cs := [c0, c1, c2, c3]) p0
    match ys, hyl, hq with
    | [y0, y1, y2, y3], _, hq =>
      obtain ⟨a0, rfl⟩ := cell_i64 (c := c0) (hq 0 _ rfl)
      obtain ⟨a1, rfl⟩ := cell_i64 (c := c1) (hq 1 _ rfl)
      obtain ⟨a2, rfl⟩ := cell_i64 (c := c2) (hq 2 _ rfl)
      obtain ⟨a3, rfl⟩ := cell_i64 (c := c3) (hq 3 _ rfl)
      obtain ⟨up, ⟨AU, nU, cU, eU, hU, rU⟩, fU⟩ := trod_lay (cs := [c4]) rfl p1
      obtain ⟨AL, nL, cL, ls, eL, hL, -, rL, fL⟩ := open_rdeF (e := 26) (cs := [c5]) layEn (fun ns => ∀ x ∈ ns, x.ents.length ≤ maxLen) Try.underlying27 (by kernel_rfl) (by decide) (fun _ cs _ hl hy => trod_lay hl hy) (hp 2 _ rfl)
      cases eU
      cases eL
      exact ⟨⟨a0, a1, a2, a3⟩, AU, AL, nU, cU, nL, cL, up, ls, rfl, hU, hL, rU, rL, fU, fL⟩
theorem open_places {fuel : Nat} {cs : List Value} {x : DataW H × List MemPlace} (h : DataW.trod enc Try.prog w 0 spare held fuel 30 cs = some x) : ∃ A n c l, cs = [.slice A n c] ∧ n ≤ c ∧ RdE prEn w (Under w.heap.size) A n l :=
  open_rde (e := 38) prEn Try.underlying30 (by kernel_rfl) (by decide) (fun _ cs _ hl hy => trod_plc hl hy) h
end
end Go.Proofs.Ytnehkgbdppbhiaa

/- How long are lists of lower directories (layer 16). -/
namespace Go.Proofs.Ytnehkgbdppbhiaa
open Go.RowKit Go.Shelf Plain

theorem rootsL_len : ∀ (ls : List (List NodV)) (j : Nat), (rootsL ls j).length ≤ ls.length
  | [], j => by simp [rootsL]
  | ns :: r, j => by
    have := rootsL_len r (j + 1)
    unfold rootsL
    split
    · split <;> simp <;> omega
    · simp; omega
theorem lookL_len (ls : List (List NodV)) : ∀ (l : List (Int × Int)) (ns : List (List UInt8)), ((lookL ls l ns).getD []).length ≤ l.length
  | l, [] => by simp [lookL]
  | l, x :: r => by
    unfold lookL
    have h1 := findL_len ls x l []
    split
    · have := lookL_len ls (findL ls x l []).2 r
      simp at h1
      omega
    · simp
theorem Look_e {g : GeoQ} {AU AL AP AN : Option Addr} {nU cU nL cL n cP m cN : Nat} {ls : List (List NodV)} {l : List (Int × Int)} {names : List (List UInt8)} {B : Nat} {o : Option (List (Int × Int))} (ho : lookL ls l names = o) (w : World) (h : RdE layEn w (Under B) AL nL ls) (hp : RdE prEn w (Under w.heap.size) AP n l) (hs : Rd st w w.heap.size AN m names) (hB : B ≤ w.heap.size) (hF : FewL ls) (hn : n ≤ 1000) (hm1 : m ≤ 1000) :
    Calls Try.prog 10 #[.agg (stkC g (.slice AU nU cU) (.slice AL nL cL)).toArray, .slice AP n cP, .slice AN m cN] w (LookRet w o) := by rw [← ho]; exact Look_any w h hp hs hB hF hn hm1
theorem RLook_e {g : GeoQ} {AU AL AP AN : Option Addr} {nU cU nL cL n cP m cN : Nat} {ls : List (List NodV)} {l : List (Int × Int)} {names : List (List UInt8)} {B : Nat} {o : Option (List (Int × Int))} (ho : lookL ls l names = o) (w : World) (h : RdE layEn w (Under B) AL nL ls) (hp : RdE prEn w (Under w.heap.size) AP n l) (hs : Rd st w w.heap.size AN m names) (hB : B ≤ w.heap.size) (hF : FewL ls) (hn : n ≤ 1000) (hm1 : m ≤ 1000) :
    Calls Try.prog 11 #[.agg (stkC g (.slice AU nU cU) (.slice AL nL cL)).toArray, .slice AP n cP, .slice AN m cN] w (LookRet w o) := by rw [← ho]; exact RLook_any w h hp hs hB hF hn hm1
end Go.Proofs.Ytnehkgbdppbhiaa

/- The law LowerTells: its walk (layer 16). -/
namespace Go.Proofs.Ytnehkgbdppbhiaa
open Go.RowKit Go.Shelf Plain

set_option maxRecDepth 100000 in
set_option maxHeartbeats 8000000 in
theorem law_LowerTells {g : GeoQ} {AU AL AP AN : Option Addr} {nU cU nL cL n cP m cN : Nat} {up : List NodV} {ls : List (List NodV)} {l : List (Int × Int)} {names : List (List UInt8)} (w : World) (hu : RdE nodEn w (Under w.heap.size) AU nU up) (h : RdE layEn w (Under w.heap.size) AL nL ls) (hp : RdE prEn w (Under w.heap.size) AP n l) (hs : Rd st w w.heap.size AN m names) (hfu : FineN up) (hfl : ∀ ns ∈ ls, FineN ns) :
    Calls Try.prog 3 #[.agg (stkC g (.slice AU nU cU) (.slice AL nL cL)).toArray, .slice AP n cP, .slice AN m cN] w (LawOk w) := by
  have r := RowL.new w 29 (stkC g (.slice AU nU cU) (.slice AL nL cL))
  have hb1 := below_new (below_self w) (.cells (stkC g (.slice AU nU cU) (.slice AL nL cL)).toArray 29)
  obtain ⟨W1, hW1⟩ : ∃ W1, w.alloc (.cells (stkC g (.slice AU nU cU) (.slice AL nL cL)).toArray 29) = W1 := ⟨_, rfl⟩
  have U0 := hu.on hb1
  have L0 := h.on hb1
  have P0 := hp.on hb1
  have S0 := hs.on hb1
  rw [hW1] at r hb1 U0 L0 P0 S0
  have hW1' : w.alloc (.cells #[.int .i64 g.a, .int .i64 g.b, .int .i64 g.c, .int .i64 g.d, .slice AU nU cU, .slice AL nL cL] 29) = W1 := hW1
  have R1 := hide r
  have HB1 := hide hb1
  have U1 := hide U0
  have L1 := hide L0
  have P1 := hide P0
  have S1 := hide S0
  have HPL := hide hp.1
  have HSL := hide hs.len
  have HFU := hide hfu
  have HFL := hide hfl
  unfold stkC
  clear r hb1 U0 L0 P0 S0 hW1 hu h hp hs hfu hfl
  go_enter Try.func3, Try.ntmps3
  go_wp2_with (first | (refine wpList_loadW rfl 29 (.tmp 3) rfl 6 stk_agg stk_size w.heap.size 29 rfl (stkC g (.slice AU nU cU) (.slice AL nL cL)) R1.out rfl ?_) | fail)
  clear hW1'
  refine (PStack_any W1 U1.out L1.out HFU.out HFL.out).mono ?_
  rintro e w2 ⟨p, rfl, hb2, hq⟩
  have HQ := hide hq
  have HB2 := hide (HB1.out.trans (hb2.mono HB1.out.size))
  have L2 := hide (L1.out.on hb2)
  have P2 := hide (P1.out.on hb2)
  have S2 := hide (S1.out.on hb2)
  have R2 := hide (R1.out.on hb2)
  clear hq hb2 U1 L1 P1 S1 R1
  cases p
  · go_wp2_with fail
    refine (awake16_any _).mono ?_
    rintro e wz ⟨rfl, hbz⟩
    have HBZ := hide (HB2.out.trans (hbz.mono HB2.out.size))
    clear hbz
    go_wp2_with fail
    go_ret
    exact LawOk.of HBZ.out
  obtain ⟨hF, -⟩ := HQ.out (by first | rfl | trivial)
  by_cases hk : (8 : Int) < (n : Int)
  · have dk : decide ((8 : Int) < (n : Int)) = true := decide_eq_true hk
    clear hF
    go_wp2_with fail
    refine (awake16_any _).mono ?_
    rintro e wz ⟨rfl, hbz⟩
    have HBZ := hide (HB2.out.trans (hbz.mono HB2.out.size))
    clear hbz
    go_wp2_with fail
    go_ret
    exact LawOk.of HBZ.out
  have dk : decide ((8 : Int) < (n : Int)) = false := decide_eq_false hk
  by_cases hk2 : (8 : Int) < (m : Int)
  · have dk2 : decide ((8 : Int) < (m : Int)) = true := decide_eq_true hk2
    clear hF
    go_wp2_with fail
    refine (awake16_any _).mono ?_
    rintro e wz ⟨rfl, hbz⟩
    have HBZ := hide (HB2.out.trans (hbz.mono HB2.out.size))
    clear hbz
    go_wp2_with fail
    go_ret
    exact LawOk.of HBZ.out
  have dk2 : decide ((8 : Int) < (m : Int)) = false := decide_eq_false hk2
  have hn8 : n ≤ 8 := by omega
  have hm8 : m ≤ 8 := by omega
  have HF := hide hF
  have HNL := hide (show (namesL ls l).length ≤ 128 from by have := namesL_len hF l; have := HPL.out; omega)
  clear hF hk hk2 HQ
  go_wp2_with fail
  go_loopw [33] (fun v33 wr => ∃ j : Nat, j ≤ m ∧ v33 = .int .i64 j ∧ Below w2.heap.size w2 wr) (fun v33 _ => m - (intOf v33).toNat)
  case atStart => exact ⟨0, by omega, rfl, below_self _⟩
  case round =>
    obtain ⟨j, hj, rfl, hbr⟩ := hrel
    have HBR := hide hbr
    have R4 := hide (R2.out.on hbr)
    have L4 := hide (L2.out.on hbr)
    have P4 := hide (P2.out.on hbr)
    have S4 := hide (S2.out.on hbr)
    have hbsz := hbr.size
    clear hbr
    by_cases hlt : j < m
    · obtain ⟨x, hx⟩ : ∃ x, names[j]? = some x := ⟨_, List.getElem?_eq_getElem (by have := HSL.out; omega)⟩
      obtain ⟨bS, oS, rfl, hbS, qS⟩ := st_cell S4.out hx
      obtain ⟨R, hR⟩ : ∃ R, findL ls x l [] = R := ⟨_, rfl⟩
      have hRl : R.2.length ≤ 8 := by have := findL_len ls x l []; rw [hR] at this; simp at this; have := HPL.out; omega
      have HR := hide hR
      obtain ⟨K, L⟩ := R
      dsimp only at hRl
      have hkk : (K != K) = false := by simp
      have hjm : (j : Int) < (m : Int) := by omega
      clear hx hR
      go_wp2_with (first | (refine wpList_loadW rfl 29 (.tmp 3) rfl 6 stk_agg stk_size w.heap.size 29 rfl (stkC g (.slice AU nU cU) (.slice AL nL cL)) R4.out rfl ?_) | fail)
      refine (Find_e HR.out wr L4.out P4.out (Nat.le_refl _) HF.out (by omega)).mono ?_
      rintro e w5 ⟨A5, c5, rfl, hc5, hr5, hb5⟩
      have R5 := hide (R4.out.on hb5)
      have L5 := hide (L4.out.on hb5)
      have P5 := hide (P4.out.on hb5)
      have HX := hide (hr5.mono (fun _ _ => rfl) (fun b hb => hb.2) : RdE prEn w5 (Under w5.heap.size) A5 L.length L)
      have HB5 := hide (HBR.out.trans (hb5.mono hbsz))
      clear hr5 hb5 qS
      dsimp only
      go_wp2_with (first | (refine wpList_loadW rfl 29 (.tmp 3) rfl 6 stk_agg stk_size w.heap.size 29 rfl (stkC g (.slice AU nU cU) (.slice AL nL cL)) R5.out rfl ?_) | fail)
      refine (RFind_e HR.out w5 L5.out P5.out (Nat.le_refl _) HF.out (by omega)).mono ?_
      rintro e w6 ⟨A6, c6, rfl, hc6, hr6, hb6⟩
      have HY := hide (hr6.mono (fun _ _ => rfl) (fun b hb => hb.2) : RdE prEn w6 (Under w6.heap.size) A6 L.length L)
      have HX6 := hide (HX.out.on hb6)
      have HB6 := hide (HB5.out.trans (hb6.mono HB5.out.size))
      clear hr6 hb6
      dsimp only
      go_wp2_with fail
      refine (EqPlc_same (L := L) w6 HX6.out HY.out (by omega)).mono ?_
      rintro e w7 ⟨rfl, hb7⟩
      have HB7 := hide (HB6.out.trans (hb7.mono HB6.out.size))
      clear hb7
      go_wp2_with fail
      go_roundw
      case rel => exact ⟨j + 1, by omega, by go_num, HB7.out⟩
      case measure => simp [intOf]; omega
    · obtain rfl : j = m := by omega
      have HB4 := hide (HB2.out.trans (HBR.out.mono HB2.out.size))
      obtain ⟨o, hO⟩ : ∃ o, lookL ls l names = o := ⟨_, rfl⟩
      have hol : (o.getD []).length ≤ 8 := by have := lookL_len ls l names; rw [hO] at this; have := HPL.out; omega
      have HO := hide hO
      clear hO
      go_wp2_with (first | (refine wpList_loadW rfl 29 (.tmp 3) rfl 6 stk_agg stk_size w.heap.size 29 rfl (stkC g (.slice AU nU cU) (.slice AL nL cL)) R4.out rfl ?_) | fail)
      refine (Look_e HO.out wr L4.out P4.out S4.out (Nat.le_refl _) HF.out (by omega) (by omega)).mono ?_
      rintro e w5 ⟨A5, n5, c5, rfl, hr5, hb5⟩
      have R5 := hide (R4.out.on hb5)
      have L5 := hide (L4.out.on hb5)
      have P5 := hide (P4.out.on hb5)
      have S5 := hide (S4.out.on hb5)
      have HX := hide hr5
      have HB5 := hide (HB4.out.trans (hb5.mono HB4.out.size))
      clear hr5 hb5
      go_wp2_with (first | (refine wpList_loadW rfl 29 (.tmp 3) rfl 6 stk_agg stk_size w.heap.size 29 rfl (stkC g (.slice AU nU cU) (.slice AL nL cL)) R5.out rfl ?_) | fail)
      refine (RLook_e HO.out w5 L5.out P5.out S5.out (Nat.le_refl _) HF.out (by omega) (by omega)).mono ?_
      rintro e w6 ⟨A6, n6, c6, rfl, hr6, hb6⟩
      have R6 := hide (R5.out.on hb6)
      have L6 := hide (L5.out.on hb6)
      have P6 := hide (P5.out.on hb6)
      have X6 := hide (HX.out.on hb6)
      have Y6 := hide hr6
      have HB6 := hide (HB5.out.trans (hb6.mono HB5.out.size))
      clear hr6 hb6 HX
      obtain ⟨bo, hbo⟩ : ∃ bo, o.isSome = bo := ⟨_, rfl⟩
      obtain ⟨LO, hLO⟩ : ∃ LO, o.getD [] = LO := ⟨_, rfl⟩
      rw [hLO] at hol
      have HLO := hide hol
      have X6 := hide (show RdE prEn w6 (Under w6.heap.size) A5 n5 LO from by rw [← hLO]; exact X6.out)
      have Y6 := hide (show RdE prEn w6 (Under w6.heap.size) A6 n6 LO from by rw [← hLO]; exact Y6.out)
      simp only [hbo]
      have hbb : (bo == bo) = true := by simp
      clear hLO hbo hol
      go_wp2_with fail
      refine wp_region_planN (fun w' => Below w6.heap.size w6 w') [(0, true), (1, true), (2, false), (3, true), (4, true), (5, true), (6, true), (7, true), (8, true), (9, true), (11, true), (10, false), (12, false), (13, false), (14, true), (15, true), (16, true), (17, true), (19, true), (20, true), (18, false), (21, false), (22, false), (23, true), (24, true), (25, false), (26, true), (27, true)] (by kernel_rfl) (by kernel_rfl) (by kernel_rfl) (by kernel_rfl) rfl (fun _ _ _ _ _ h => h) (below_drew (below_self w6)) (fun hHeld => ?_)
      simp only [planOps, List.filterMap_cons, List.filterMap_nil, List.getElem?_toArray, List.getElem?_cons_succ, List.getElem?_cons_zero, Option.map_some]
      refine wpPlan_take (v := ?_) (by kernel_rfl) (fun wS hSw => ?_) ?_
      rotate_left
      · (try dsimp only at hSw); go_simp; (try with_reducible rfl)
      (try simp only [Act.put, List.setIfInBounds_toArray, List.set_cons_zero, List.set_cons_succ])
      refine wpPlan_take (v := ?_) (by kernel_rfl) (fun wS hSw => ?_) ?_
      rotate_left
      · (try dsimp only at hSw); go_simp; (try with_reducible rfl)
      (try simp only [Act.put, List.setIfInBounds_toArray, List.set_cons_zero, List.set_cons_succ])
      refine wpPlan_call (by kernel_rfl) (fun K hK => ?_)
      have hOld := hide hHeld
      clear hHeld
      go_simp
      go_at_call 9
      refine (EqPlc_same (L := LO) _ (X6.out.on hOld.out) (Y6.out.on hOld.out) (by have := HLO.out; have := X6.out.1; omega)).mono ?_
      rintro e w' ⟨rfl, hbel⟩
      refine hK.out _ _ (hOld.out.trans (hbel.mono hOld.out.size)) (fun hHeld => ?_)
      clear hK K
      (try simp only [Act.put, List.setIfInBounds_toArray, List.set_cons_zero, List.set_cons_succ])
      refine wpPlan_take (v := ?_) (by kernel_rfl) (fun wS hSw => ?_) ?_
      rotate_left
      · (try dsimp only at hSw); go_simp; (try with_reducible rfl)
      (try simp only [Act.put, List.setIfInBounds_toArray, List.set_cons_zero, List.set_cons_succ])
      refine wpPlan_take (v := ?_) (by kernel_rfl) (fun wS hSw => ?_) ?_
      rotate_left
      · (try dsimp only at hSw); go_simp; (try with_reducible rfl)
      (try simp only [Act.put, List.setIfInBounds_toArray, List.set_cons_zero, List.set_cons_succ])
      refine wpPlan_take (v := ?_) (by kernel_rfl) (fun wS hSw => ?_) ?_
      rotate_left
      · (try dsimp only at hSw); go_simp; (try with_reducible rfl)
      (try simp only [Act.put, List.setIfInBounds_toArray, List.set_cons_zero, List.set_cons_succ])
      refine wpPlan_take (v := ?_) (by kernel_rfl) (fun wS hSw => ?_) ?_
      rotate_left
      · (try dsimp only at hSw); go_simp; (try with_reducible rfl)
      (try simp only [Act.put, List.setIfInBounds_toArray, List.set_cons_zero, List.set_cons_succ])
      refine wpPlan_take (v := ?_) (by kernel_rfl) (fun wS hSw => ?_) ?_
      rotate_left
      · (try dsimp only at hSw); go_simp; (try with_reducible rfl)
      (try simp only [Act.put, List.setIfInBounds_toArray, List.set_cons_zero, List.set_cons_succ])
      refine wpPlan_take (v := ?_) (by kernel_rfl) (fun wS hSw => ?_) ?_
      rotate_left
      · (try dsimp only at hSw); go_simp; (try with_reducible rfl)
      (try simp only [Act.put, List.setIfInBounds_toArray, List.set_cons_zero, List.set_cons_succ])
      refine wpPlan_take (v := ?_) (by kernel_rfl) (fun wS hSw => ?_) ?_
      rotate_left
      · refine execOp_load (x := .tmp 3) (k := 6) (g := w.heap.size) (off := 0) (cs := stkC g (.slice AU nU cU) (.slice AL nL cL)) ?_ stk_agg stk_size ?_ (fun j v hv => by rw [Nat.zero_add]; exact ((R6.out.on hSw).cell j).trans hv) rfl <;> rfl
      (try simp only [Act.put, List.setIfInBounds_toArray, List.set_cons_zero, List.set_cons_succ])
      refine wpPlan_take (v := ?_) (by kernel_rfl) (fun wS hSw => ?_) ?_
      rotate_left
      · refine execOp_load (x := .tmp 3) (k := 6) (g := w.heap.size) (off := 0) (cs := stkC g (.slice AU nU cU) (.slice AL nL cL)) ?_ stk_agg stk_size ?_ (fun j v hv => by rw [Nat.zero_add]; exact ((R6.out.on hSw).cell j).trans hv) rfl <;> rfl
      (try simp only [Act.put, List.setIfInBounds_toArray, List.set_cons_zero, List.set_cons_succ])
      refine wpPlan_call (by kernel_rfl) (fun K hK => ?_)
      have hOld := hide hHeld
      clear hHeld
      go_simp
      go_at_call 12
      refine (Roots_any _ (L6.out.on hOld.out) HF.out).mono ?_
      rintro e w' ⟨A7, c7, rfl, h7, hbel⟩
      have HT := hide h7
      clear h7
      refine hK.out _ _ (hOld.out.trans (hbel.mono hOld.out.size)) (fun hHeld => ?_)
      clear hK K
      (try simp only [Act.put, List.setIfInBounds_toArray, List.set_cons_zero, List.set_cons_succ])
      refine wpPlan_call (by kernel_rfl) (fun K hK => ?_)
      have hOld := hide hHeld
      clear hHeld
      go_simp
      go_at_call 13
      refine (RRoots_any _ (L6.out.on hOld.out) HF.out).mono ?_
      rintro e w' ⟨A8, c8, rfl, h8, hbel⟩
      have HU := hide h8
      have HT' := hide (HT.out.on hbel)
      clear HT h8
      refine hK.out _ _ (hOld.out.trans (hbel.mono hOld.out.size)) (fun hHeld => ?_)
      clear hK K
      (try simp only [Act.put, List.setIfInBounds_toArray, List.set_cons_zero, List.set_cons_succ])
      refine wpPlan_call (by kernel_rfl) (fun K hK => ?_)
      have hOld := hide hHeld
      clear hHeld
      go_simp
      go_at_call 9
      refine (EqPlc_same (L := rootsL ls 0) _ HT'.out HU.out (by have := rootsL_len ls 0; have := HF.out.1; omega)).mono ?_
      rintro e w' ⟨rfl, hbel⟩
      clear HT' HU
      refine hK.out _ _ (hOld.out.trans (hbel.mono hOld.out.size)) (fun hHeld => ?_)
      clear hK K
      (try simp only [Act.put, List.setIfInBounds_toArray, List.set_cons_zero, List.set_cons_succ])
      refine wpPlan_take (v := ?_) (by kernel_rfl) (fun wS hSw => ?_) ?_
      rotate_left
      · (try dsimp only at hSw); go_simp; (try with_reducible rfl)
      (try simp only [Act.put, List.setIfInBounds_toArray, List.set_cons_zero, List.set_cons_succ])
      refine wpPlan_take (v := ?_) (by kernel_rfl) (fun wS hSw => ?_) ?_
      rotate_left
      · (try dsimp only at hSw); go_simp; (try with_reducible rfl)
      (try simp only [Act.put, List.setIfInBounds_toArray, List.set_cons_zero, List.set_cons_succ])
      refine wpPlan_take (v := ?_) (by kernel_rfl) (fun wS hSw => ?_) ?_
      rotate_left
      · refine execOp_load (x := .tmp 3) (k := 6) (g := w.heap.size) (off := 0) (cs := stkC g (.slice AU nU cU) (.slice AL nL cL)) ?_ stk_agg stk_size ?_ (fun j v hv => by rw [Nat.zero_add]; exact ((R6.out.on hSw).cell j).trans hv) rfl <;> rfl
      (try simp only [Act.put, List.setIfInBounds_toArray, List.set_cons_zero, List.set_cons_succ])
      refine wpPlan_take (v := ?_) (by kernel_rfl) (fun wS hSw => ?_) ?_
      rotate_left
      · (try dsimp only at hSw); go_simp; (try with_reducible rfl)
      (try simp only [Act.put, List.setIfInBounds_toArray, List.set_cons_zero, List.set_cons_succ])
      refine wpPlan_take (v := ?_) (by kernel_rfl) (fun wS hSw => ?_) ?_
      rotate_left
      · refine execOp_load (x := .tmp 3) (k := 6) (g := w.heap.size) (off := 0) (cs := stkC g (.slice AU nU cU) (.slice AL nL cL)) ?_ stk_agg stk_size ?_ (fun j v hv => by rw [Nat.zero_add]; exact ((R6.out.on hSw).cell j).trans hv) rfl <;> rfl
      (try simp only [Act.put, List.setIfInBounds_toArray, List.set_cons_zero, List.set_cons_succ])
      refine wpPlan_take (v := ?_) (by kernel_rfl) (fun wS hSw => ?_) ?_
      rotate_left
      · (try dsimp only at hSw); go_simp; (try with_reducible rfl)
      (try simp only [Act.put, List.setIfInBounds_toArray, List.set_cons_zero, List.set_cons_succ])
      refine wpPlan_call (by kernel_rfl) (fun K hK => ?_)
      have hOld := hide hHeld
      clear hHeld
      go_simp
      go_at_call 15
      refine (Names_any _ (L6.out.on hOld.out) (P6.out.on hOld.out) HF.out (by omega)).mono ?_
      rintro e w' ⟨A9, n9, c9, rfl, h9, hbel⟩
      have HT := hide h9
      clear h9
      refine hK.out _ _ (hOld.out.trans (hbel.mono hOld.out.size)) (fun hHeld => ?_)
      clear hK K
      (try simp only [Act.put, List.setIfInBounds_toArray, List.set_cons_zero, List.set_cons_succ])
      refine wpPlan_call (by kernel_rfl) (fun K hK => ?_)
      have hOld := hide hHeld
      clear hHeld
      go_simp
      go_at_call 16
      refine (RNames_any _ (L6.out.on hOld.out) (P6.out.on hOld.out) HF.out (by omega)).mono ?_
      rintro e w' ⟨AA, na, ca, rfl, ha, hbel⟩
      have HU := hide ha
      have HT' := hide (HT.out.on hbel)
      clear HT ha
      refine hK.out _ _ (hOld.out.trans (hbel.mono hOld.out.size)) (fun hHeld => ?_)
      clear hK K
      (try simp only [Act.put, List.setIfInBounds_toArray, List.set_cons_zero, List.set_cons_succ])
      refine wpPlan_call (by kernel_rfl) (fun K hK => ?_)
      have hOld := hide hHeld
      clear hHeld
      go_simp
      go_at_call 14
      refine (EqS_b (show (namesL ls l == namesL ls l) = true from by simp) _ HT'.out HU.out (by have := HNL.out; have := HT'.out.len; omega)).mono ?_
      rintro e w' ⟨rfl, hbel⟩
      clear HT' HU
      refine hK.out _ _ (hOld.out.trans (hbel.mono hOld.out.size)) (fun hHeld => ?_)
      clear hK K
      (try simp only [Act.put, List.setIfInBounds_toArray, List.set_cons_zero, List.set_cons_succ])
      refine wpPlan_take (v := ?_) (by kernel_rfl) (fun wS hSw => ?_) ?_
      rotate_left
      · (try dsimp only at hSw); go_simp; (try with_reducible rfl)
      (try simp only [Act.put, List.setIfInBounds_toArray, List.set_cons_zero, List.set_cons_succ])
      refine wpPlan_take (v := ?_) (by kernel_rfl) (fun wS hSw => ?_) ?_
      rotate_left
      · (try dsimp only at hSw); go_simp; (try with_reducible rfl)
      (try simp only [Act.put, List.setIfInBounds_toArray, List.set_cons_zero, List.set_cons_succ])
      refine wpPlan_call (by kernel_rfl) (fun K hK => ?_)
      have hOld := hide hHeld
      clear hHeld
      go_simp
      go_at_call 6
      refine (awake16_any _).mono ?_
      rintro e w' ⟨rfl, hbel⟩
      refine hK.out _ _ (hOld.out.trans (hbel.mono hOld.out.size)) (fun hHeld => ?_)
      clear hK K
      (try simp only [Act.put, List.setIfInBounds_toArray, List.set_cons_zero, List.set_cons_succ])
      refine wpPlan_take (v := ?_) (by kernel_rfl) (fun wS hSw => ?_) ?_
      rotate_left
      · (try dsimp only at hSw); go_simp; (try with_reducible rfl)
      (try simp only [Act.put, List.setIfInBounds_toArray, List.set_cons_zero, List.set_cons_succ])
      refine wpPlan_take (v := ?_) (by kernel_rfl) (fun wS hSw => ?_) ?_
      rotate_left
      · (try dsimp only at hSw); go_simp; (try with_reducible rfl)
      (try simp only [Act.put, List.setIfInBounds_toArray, List.set_cons_zero, List.set_cons_succ])
      refine wpPlan_end ?_
      have HBX := hide (HB6.out.trans (hHeld.mono HB6.out.size))
      clear hHeld
      go_wp2_with fail
      go_ret
      exact LawOk.of HBX.out
end Go.Proofs.Ytnehkgbdppbhiaa

