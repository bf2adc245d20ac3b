/- The contract of the reference's Sort (layer 3). -/
import Derived.Test.YtbdakjepdkmcdaaRefNameA
import Derived.Test.YtbdakjepdkmcdaaSortP
import Derived.BigQuiet
import Derived.Deep.QuietTactic
namespace Go.Proofs.Ytbdakjepdkmcdaa
open Go.RowKit Plain
theorem info_st : (Try.prog.info? 9).map (fun i => (i.zero, i.size, i.bytes)) = some (some (.string ⟨#[]⟩), 1, 16) := by kernel_rfl
theorem st_one (l : List UInt8) : (st l).oneCell' = true := rfl

set_option maxHeartbeats 1600000 in
theorem RSort_any {A : Option Addr} {m c : Nat} {l : List (List UInt8)} (w : World) (ha : Rd st w w.heap.size A m l) (hm : m ≤ 1000000) :
    Calls Try.prog 19 #[.slice A m c] w (ORet st w 9 (sortS l).length (sortS l)) := by
  have HA := hide ha
  clear ha
  go_enter Try.func19, Try.ntmps19
  go_wp2_with fail
  go_loopw [3, 4] (fun v i wr => ∃ (k p : Nat) (o : List (List UInt8)), k ≤ m ∧ i = .int .i64 k ∧ o = sortS (l.take k) ∧ p ≤ k ∧ (∃ A c, v = .slice A p c ∧ Ow st wr w.heap.size 9 A p c o) ∧ Below w.heap.size w wr) (fun _ i _ => m - (intOf i).toNat)
  case atStart => exact ⟨0, 0, [], Nat.zero_le _, rfl, rfl, Nat.le_refl _, ⟨_, _, rfl, Ow.empty st w _⟩, below_new (below_self w) _⟩
  case round =>
    obtain ⟨i, p, o, hi, rfl, ho, hp, ⟨A1, c1, rfl, hown⟩, hbel⟩ := hrel
    have HOE := hide ho
    have HO := hide hown
    have HB := hide hbel
    have HA1 := hide (HA.out.on hbel)
    clear ho hown hbel
    by_cases hlt : i < m
    · obtain ⟨ba, oa, rfl, hba, hca0⟩ := HA.out.2 (by omega)
      have hca : ∀ i x, l[i]? = some x → wr.cell? ⟨ba, oa + i, none⟩ = some (st x) := fun i x h => (HB.out.cell hba).trans (hca0 i x h)
      have hxw := hca0 i _ (List.getElem?_eq_getElem (show i < l.length by rw [HA.out.len]; exact hlt))
      clear hca0
      have hil : i < l.length := by rw [HA.out.len]; exact hlt
      have hx := hca i l[i] (List.getElem?_eq_getElem hil)
      clear hca
      obtain ⟨x, hxe⟩ : ∃ x, x = l[i] := ⟨_, rfl⟩
      rw [← hxe] at hx hxw
      have HXW := hide hxw
      clear hxw
      have hs : sortS (l.take (i + 1)) = insS x o := by rw [List.take_succ_eq_append_getElem hil, sortS_snoc, ← HOE.out, hxe]
      have HS := hide hs
      clear hs hxe hil
      unfold st at hx
      go_wp2_with fail
      go_loopw [5] (fun kv wr2 => ∃ k q : Nat, k ≤ p ∧ kv = .int .i64 k ∧ (∀ j (hj : j < k), lessS (o.getD j []) x = true) ∧ wr2 = wr.drewN q) (fun kv _ => p - (intOf kv).toNat)
      case atStart => exact ⟨0, 0, Nat.zero_le _, rfl, fun j hj => absurd hj (by omega), rfl⟩
      case round =>
        obtain ⟨k, q, hk, rfl, hless, rfl⟩ := hrel
        have HL := hide hless
        clear hless
        by_cases hkp : k < p
        · obtain ⟨g, rfl, hg, hgl, hcg, hfz⟩ := HO.out.at_ (by omega)
          have hol := HO.out.len
          have hy := hcg k (o.getD k []) (by simp only [List.getD]; rw [List.getElem?_eq_getElem (by omega)]; rfl)
          clear hcg hfz
          obtain ⟨y, hye⟩ : ∃ y, y = o.getD k [] := ⟨_, rfl⟩
          rw [← hye] at hy
          unfold st at hy
          have HYE := hide hye
          have HOL := hide hol
          clear hye hol
          cases hyx : Op.bytesLess y x with
          | true =>
            have HYX := hide hyx
            go_wp2
            go_quiet (fail)
            clear hyx
            go_wp2
            go_roundw
            case rel => exact ⟨k + 1, _, by omega, by go_num, fun j hj => by
              by_cases hjk : j < k
              · exact HL.out j hjk
              · obtain rfl : j = k := by omega
                rw [← HYE.out]; exact HYX.out, rfl⟩
            case measure => simp [intOf]; omega
          | false =>
            have HYX := hide hyx
            go_wp2
            go_quiet (fail)
            clear hyx
            go_wp2
            by_cases hyq : y = x
            · have hpos : posS x o = k := posS_of (by have := HO.out.len; omega) (fun j hj => HL.out j hj) (fun _ => by rw [← HYE.out]; exact HYX.out)
              have hins : insS x o = o := by
                unfold insS
                rw [hpos, if_pos]
                rw [← hyq, HYE.out]
                simp only [List.getD]
                rw [List.getElem?_eq_getElem (by have := HO.out.len; omega)]
                rfl
              have HINS := hide hins
              have hbq : (y == x) = true := by simp [hyq]
              clear hpos hins hyq
              go_quiet (fail)
              clear hbq
              go_wp2
              go_roundw
              case rel => exact ⟨i + 1, p, o, by omega, by go_num, by rw [HS.out, HINS.out], by omega, ⟨_, _, rfl, by repeat (first | exact HO.out | refine Ow.drewN ?_ _)⟩, by repeat (first | exact HB.out | refine below_drewN ?_ _)⟩
              case measure => simp [intOf]; omega
            · have NE := hide hyq
              have hbq : (y == x) = false := by simp [hyq]
              clear hyq
              go_quiet (fail)
              clear hbq
              go_wp2_with (at_builtin; refine wpList_append_Rd _ rfl (.tmp 46) (.tmp 47) 30 rfl w.heap.size 9 _ 16 Try.underlying30 info_st rfl st_one _ p _ o rfl (by repeat (first | exact HO.out | refine Ow.drewN ?_ _ | refine Ow.alloc ?_ _)) _ _ 1 1 _ rfl (Rd.one _ _ rfl) (p + 1) rfl (by omega) (by omega) (by have := HB.out.size; simp; omega) ?_; intro A2 c2 w1 hown1 hbel1; have HO1 := hide hown1; have HB1 := hide (Below.trans (show Below w.heap.size w _ by repeat (first | exact HB.out | refine below_drewN ?_ _ | (refine Below.alloc ?_ (by have := HB.out.size; simp; omega) _))) hbel1); clear hown1 hbel1)
              have hpos : posS x o = k := posS_of (by have := HO.out.len; omega) (fun j hj => HL.out j hj) (fun _ => by rw [← HYE.out]; exact HYX.out)
              have hnot : o[k]? ≠ some x := by
                intro e
                apply NE.out
                rw [HYE.out]
                simp [List.getD, e]
              have hins : insS x o = o.take k ++ x :: o.drop k := by unfold insS; rw [hpos, if_neg hnot]
              have HINS := hide hins
              clear hpos hnot hins
              have hgl := HO.out.len
              have HGL := hide hgl
              clear hgl
              go_loopw [6] (fun jv wr3 => ∃ j : Nat, k ≤ j ∧ j ≤ p ∧ jv = .int .i64 j ∧ Ow st wr3 w.heap.size 9 A2 (p + 1) c2 (gapS o j) ∧ Below w.heap.size w wr3) (fun jv _ => (intOf jv).toNat)
              case atStart => exact ⟨p, by omega, Nat.le_refl _, by go_num, by have e := gapS_end o; rw [HGL.out] at e; rw [e]; exact HO1.out, HB1.out⟩
              case round =>
                obtain ⟨j, hj1, hj2, rfl, hown2, hbel2⟩ := hrel
                have HO2 := hide hown2
                have HB2 := hide hbel2
                obtain ⟨g2, rfl, hg2, hgl2, hcg2, hfz2⟩ := hown2.at_ (by omega)
                by_cases hjk : k < j
                · have hgj : (gapS o j)[j - 1]? = some (o.getD (j - 1) []) := by
                    rw [gapS_get (by omega) (by rw [HGL.out]; omega)]
                    simp only [List.getD]
                    rw [List.getElem?_eq_getElem (by rw [HGL.out]; omega)]
                    rfl
                  have hz := hcg2 (j - 1) _ hgj
                  obtain ⟨u, hu⟩ : ∃ u, (gapS o j)[j]? = some u := ⟨_, List.getElem?_eq_getElem (by rw [gapS_length (by rw [HGL.out]; omega), HGL.out]; omega)⟩
                  have hzz := hcg2 j _ hu
                  have hf := hfz2 j
                  have hst := hown2.set_ (p := j) (u := st (o.getD (j - 1) [])) (y := o.getD (j - 1) []) rfl
                  have hbs := hbel2.setCell (p := ⟨g2, j, none⟩) hg2 (st (o.getD (j - 1) []))
                  obtain ⟨j', rfl⟩ : ∃ j', j = j' + 1 := ⟨j - 1, by omega⟩
                  simp only [Nat.add_sub_cancel] at hz hst hbs
                  have hgo : o.getD j' [] = o[j']'(by rw [HGL.out]; omega) := by
                    simp only [List.getD]
                    rw [List.getElem?_eq_getElem (by rw [HGL.out]; omega)]
                    rfl
                  rw [hgo, gapS_step] at hst
                  rw [← hgo] at hst
                  obtain ⟨z, hze⟩ : ∃ z, z = o.getD j' [] := ⟨_, rfl⟩
                  rw [← hze] at hz hst hbs
                  have HST := hide hst
                  have HBS := hide hbs
                  clear hown2 hbel2 hcg2 hfz2 hgj hu hst hbs hgo hze
                  unfold st at hz hzz
                  go_wp2
                  go_roundw
                  case rel => exact ⟨j', by omega, by omega, by go_num, HST.out, HBS.out⟩
                  case measure => (simp [intOf])
                · obtain rfl : k = j := by omega
                  have hx2 := (HB2.out.cell hba).trans HXW.out
                  obtain ⟨u, hu⟩ : ∃ u, (gapS o k)[k]? = some u := ⟨_, List.getElem?_eq_getElem (by rw [gapS_length (by rw [HGL.out]; omega), HGL.out]; omega)⟩
                  have hzz := hcg2 k _ hu
                  have hf := hfz2 k
                  have hst := hown2.set_ (p := k) (u := st x) (y := x) rfl
                  have hbs := hbel2.setCell (p := ⟨g2, k, none⟩) hg2 (st x)
                  rw [gapS_set (by rw [HGL.out]; omega)] at hst
                  have HST := hide hst
                  have HBS := hide hbs
                  clear hown2 hbel2 hcg2 hfz2 hu hst hbs
                  unfold st at hx2 hzz
                  go_wp2
                  go_roundw
                  case rel => exact ⟨i + 1, p + 1, _, by omega, by go_num, HS.out.symm, by omega, ⟨_, _, rfl, by rw [HINS.out]; exact HST.out⟩, HBS.out⟩
                  case measure => simp [intOf]; omega
        · obtain rfl : k = p := by omega
          go_wp2
          go_quiet (fail)
          go_wp2
          go_quiet (fail)
          go_wp2_with (at_builtin; refine wpList_append_Rd _ rfl (.tmp 46) (.tmp 47) 30 rfl w.heap.size 9 _ 16 Try.underlying30 info_st rfl st_one _ k _ o rfl (by repeat (first | exact HO.out | refine Ow.drewN ?_ _ | refine Ow.alloc ?_ _)) _ _ 1 1 _ rfl (Rd.one _ _ rfl) (k + 1) rfl (by omega) (by omega) (by have := HB.out.size; simp; omega) ?_; intro A2 c2 w1 hown1 hbel1; have HO1 := hide hown1; have HB1 := hide (Below.trans (show Below w.heap.size w _ by repeat (first | exact HB.out | refine below_drewN ?_ _ | (refine Below.alloc ?_ (by have := HB.out.size; simp; omega) _))) hbel1); clear hown1 hbel1)
          have hpos : posS x o = k := posS_of (by have := HO.out.len; omega) (fun j hj => HL.out j hj) (fun h => by have := HO.out.len; omega)
          have hnot : o[k]? ≠ some x := by rw [List.getElem?_eq_none (by have := HO.out.len; omega)]; simp
          have hins : insS x o = o.take k ++ x :: o.drop k := by unfold insS; rw [hpos, if_neg hnot]
          have HINS := hide hins
          clear hpos hnot hins
          have hgl := HO.out.len
          have HGL := hide hgl
          clear hgl
          go_loopw [6] (fun jv wr3 => ∃ j : Nat, k ≤ j ∧ j ≤ k ∧ jv = .int .i64 j ∧ Ow st wr3 w.heap.size 9 A2 (k + 1) c2 (gapS o j) ∧ Below w.heap.size w wr3) (fun jv _ => (intOf jv).toNat)
          case atStart => exact ⟨k, by omega, Nat.le_refl _, by go_num, by have e := gapS_end o; rw [HGL.out] at e; rw [e]; exact HO1.out, HB1.out⟩
          case round =>
            obtain ⟨j, hj1, hj2, rfl, hown2, hbel2⟩ := hrel
            have HO2 := hide hown2
            have HB2 := hide hbel2
            obtain ⟨g2, rfl, hg2, hgl2, hcg2, hfz2⟩ := hown2.at_ (by omega)
            by_cases hjk : k < j
            · exact absurd hjk (by omega)
            · obtain rfl : k = j := by omega
              have hx2 := (HB2.out.cell hba).trans HXW.out
              obtain ⟨u, hu⟩ : ∃ u, (gapS o k)[k]? = some u := ⟨_, List.getElem?_eq_getElem (by rw [gapS_length (by rw [HGL.out]; omega), HGL.out]; omega)⟩
              have hzz := hcg2 k _ hu
              have hf := hfz2 k
              have hst := hown2.set_ (p := k) (u := st x) (y := x) rfl
              have hbs := hbel2.setCell (p := ⟨g2, k, none⟩) hg2 (st x)
              rw [gapS_set (by rw [HGL.out]; omega)] at hst
              have HST := hide hst
              have HBS := hide hbs
              clear hown2 hbel2 hcg2 hfz2 hu hst hbs
              unfold st at hx2 hzz
              go_wp2
              go_roundw
              case rel => exact ⟨i + 1, k + 1, _, by omega, by go_num, HS.out.symm, by omega, ⟨_, _, rfl, by rw [HINS.out]; exact HST.out⟩, HBS.out⟩
              case measure => simp [intOf]; omega
    · obtain rfl : i = m := by omega
      have hos : o = sortS l := by rw [HOE.out, List.take_of_length_le (by rw [HA.out.len]; exact Nat.le_refl _)]
      have hol := HO.out.len
      have HOS := hide hos
      have HOL := hide hol
      clear hos hol
      go_wp2
      go_ret
      rw [← HOS.out, HOL.out]
      exact HO.out.ret HB.out
end Go.Proofs.Ytbdakjepdkmcdaa
