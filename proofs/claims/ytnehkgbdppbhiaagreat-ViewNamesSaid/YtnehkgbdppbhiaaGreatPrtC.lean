import Derived.Test.YtnehkgbdppbhiaaGreatRefNameA
import Derived.BigQuiet
import Derived.Deep.QuietTactic
import Derived.Test.YtnehkgbdppbhiaaGreatPlanN
import Derived.Test.YtnehkgbdppbhiaaGreatNameP
import Derived.Test.YtnehkgbdppbhiaaGreatShelf
import Derived.Lib.CutLaws
import Derived.IntWalk
import Derived.Test.YtnehkgbdppbhiaaGreatMemS
import Derived.StillTailTactics
import Derived.ScopeJumps
import Derived.WalkMore
import Derived.Lib.Join
import Derived.Test.YtnehkgbdppbhiaaGreatRows
import Derived.Laws.Cover3
import Derived.Test.YtnehkgbdppbhiaaGreatPrtB

/- The contract of the reference's Sort (layer 3). -/
namespace Go.Proofs.YtnehkgbdppbhiaaGreat
open Go.RowKit Plain
theorem info_st : (Tryz.prog.info? 9).map (fun i => (i.zero, i.size, i.bytes)) = some (some (.string ⟨#[]⟩), 1, 16) := by kernel_rfl
theorem st_one (l : List UInt8) : (st l).oneCell' = true := rfl

set_option maxHeartbeats 1600000 in
theorem RSort_any {A : Option Addr} {m c : Nat} {l : List (List UInt8)} (w : World) (ha : Rd st w w.heap.size A m l) (hm : m ≤ 1000000) :
    Calls Tryz.prog 68 #[.slice A m c] w (ORet st w 9 (sortS l).length (sortS l)) := by
  have HA := hide ha
  clear ha
  go_enter Tryz.func68, Tryz.ntmps68
  go_wp2_with fail
  go_loopw [3, 4] (fun v i wr => ∃ (k p : Nat) (o : List (List UInt8)), k ≤ m ∧ i = .int .i64 k ∧ o = sortS (l.take k) ∧ p ≤ k ∧ (∃ A c, v = .slice A p c ∧ Ow st wr w.heap.size 9 A p c o) ∧ Below w.heap.size w wr) (fun _ i _ => m - (intOf i).toNat)
  case atStart => exact ⟨0, 0, [], Nat.zero_le _, rfl, rfl, Nat.le_refl _, ⟨_, _, rfl, Ow.empty st w _⟩, below_new (below_self w) _⟩
  case round =>
    obtain ⟨i, p, o, hi, rfl, ho, hp, ⟨A1, c1, rfl, hown⟩, hbel⟩ := hrel
    have HOE := hide ho
    have HO := hide hown
    have HB := hide hbel
    have HA1 := hide (HA.out.on hbel)
    clear ho hown hbel
    by_cases hlt : i < m
    · obtain ⟨ba, oa, rfl, hba, hca0⟩ := HA.out.2 (by omega)
      have hca : ∀ i x, l[i]? = some x → wr.cell? ⟨ba, oa + i, none⟩ = some (st x) := fun i x h => (HB.out.cell hba).trans (hca0 i x h)
      have hxw := hca0 i _ (List.getElem?_eq_getElem (show i < l.length by rw [HA.out.len]; exact hlt))
      clear hca0
      have hil : i < l.length := by rw [HA.out.len]; exact hlt
      have hx := hca i l[i] (List.getElem?_eq_getElem hil)
      clear hca
      obtain ⟨x, hxe⟩ : ∃ x, x = l[i] := ⟨_, rfl⟩
      rw [← hxe] at hx hxw
      have HXW := hide hxw
      clear hxw
      have hs : sortS (l.take (i + 1)) = insS x o := by rw [List.take_succ_eq_append_getElem hil, sortS_snoc, ← HOE.out, hxe]
      have HS := hide hs
      clear hs hxe hil
      unfold st at hx
      go_wp2_with fail
      go_loopw [5] (fun kv wr2 => ∃ k q : Nat, k ≤ p ∧ kv = .int .i64 k ∧ (∀ j (hj : j < k), lessS (o.getD j []) x = true) ∧ wr2 = wr.drewN q) (fun kv _ => p - (intOf kv).toNat)
      case atStart => exact ⟨0, 0, Nat.zero_le _, rfl, fun j hj => absurd hj (by omega), rfl⟩
      case round =>
        obtain ⟨k, q, hk, rfl, hless, rfl⟩ := hrel
        have HL := hide hless
        clear hless
        by_cases hkp : k < p
        · obtain ⟨g, rfl, hg, hgl, hcg, hfz⟩ := HO.out.at_ (by omega)
          have hol := HO.out.len
          have hy := hcg k (o.getD k []) (by simp only [List.getD]; rw [List.getElem?_eq_getElem (by omega)]; rfl)
          clear hcg hfz
          obtain ⟨y, hye⟩ : ∃ y, y = o.getD k [] := ⟨_, rfl⟩
          rw [← hye] at hy
          unfold st at hy
          have HYE := hide hye
          have HOL := hide hol
          clear hye hol
          cases hyx : Op.bytesLess y x with
          | true =>
            have HYX := hide hyx
            go_wp2
            go_quiet (fail)
            clear hyx
            go_wp2
            go_roundw
            case rel => exact ⟨k + 1, _, by omega, by go_num, fun j hj => by
              by_cases hjk : j < k
              · exact HL.out j hjk
              · obtain rfl : j = k := by omega
                rw [← HYE.out]; exact HYX.out, rfl⟩
            case measure => simp [intOf]; omega
          | false =>
            have HYX := hide hyx
            go_wp2
            go_quiet (fail)
            clear hyx
            go_wp2
            by_cases hyq : y = x
            · have hpos : posS x o = k := posS_of (by have := HO.out.len; omega) (fun j hj => HL.out j hj) (fun _ => by rw [← HYE.out]; exact HYX.out)
              have hins : insS x o = o := by
                unfold insS
                rw [hpos, if_pos]
                rw [← hyq, HYE.out]
                simp only [List.getD]
                rw [List.getElem?_eq_getElem (by have := HO.out.len; omega)]
                rfl
              have HINS := hide hins
              have hbq : (y == x) = true := by simp [hyq]
              clear hpos hins hyq
              go_quiet (fail)
              clear hbq
              go_wp2
              go_roundw
              case rel => exact ⟨i + 1, p, o, by omega, by go_num, by rw [HS.out, HINS.out], by omega, ⟨_, _, rfl, by repeat (first | exact HO.out | refine Ow.drewN ?_ _)⟩, by repeat (first | exact HB.out | refine below_drewN ?_ _)⟩
              case measure => simp [intOf]; omega
            · have NE := hide hyq
              have hbq : (y == x) = false := by simp [hyq]
              clear hyq
              go_quiet (fail)
              clear hbq
              go_wp2_with (at_builtin; refine wpList_append_Rd _ rfl (.tmp 46) (.tmp 47) 44 rfl w.heap.size 9 _ 16 Tryz.underlying44 info_st rfl st_one _ p _ o rfl (by repeat (first | exact HO.out | refine Ow.drewN ?_ _ | refine Ow.alloc ?_ _)) _ _ 1 1 _ rfl (Rd.one _ _ rfl) (p + 1) rfl (by omega) (by omega) (by have := HB.out.size; simp; omega) ?_; intro A2 c2 w1 hown1 hbel1; have HO1 := hide hown1; have HB1 := hide (Below.trans (show Below w.heap.size w _ by repeat (first | exact HB.out | refine below_drewN ?_ _ | (refine Below.alloc ?_ (by have := HB.out.size; simp; omega) _))) hbel1); clear hown1 hbel1)
              have hpos : posS x o = k := posS_of (by have := HO.out.len; omega) (fun j hj => HL.out j hj) (fun _ => by rw [← HYE.out]; exact HYX.out)
              have hnot : o[k]? ≠ some x := by
                intro e
                apply NE.out
                rw [HYE.out]
                simp [List.getD, e]
              have hins : insS x o = o.take k ++ x :: o.drop k := by unfold insS; rw [hpos, if_neg hnot]
              have HINS := hide hins
              clear hpos hnot hins
              have hgl := HO.out.len
              have HGL := hide hgl
              clear hgl
              go_loopw [6] (fun jv wr3 => ∃ j : Nat, k ≤ j ∧ j ≤ p ∧ jv = .int .i64 j ∧ Ow st wr3 w.heap.size 9 A2 (p + 1) c2 (gapS o j) ∧ Below w.heap.size w wr3) (fun jv _ => (intOf jv).toNat)
              case atStart => exact ⟨p, by omega, Nat.le_refl _, by go_num, by have e := gapS_end o; rw [HGL.out] at e; rw [e]; exact HO1.out, HB1.out⟩
              case round =>
                obtain ⟨j, hj1, hj2, rfl, hown2, hbel2⟩ := hrel
                have HO2 := hide hown2
                have HB2 := hide hbel2
                obtain ⟨g2, rfl, hg2, hgl2, hcg2, hfz2⟩ := hown2.at_ (by omega)
                by_cases hjk : k < j
                · have hgj : (gapS o j)[j - 1]? = some (o.getD (j - 1) []) := by
                    rw [gapS_get (by omega) (by rw [HGL.out]; omega)]
                    simp only [List.getD]
                    rw [List.getElem?_eq_getElem (by rw [HGL.out]; omega)]
                    rfl
                  have hz := hcg2 (j - 1) _ hgj
                  obtain ⟨u, hu⟩ : ∃ u, (gapS o j)[j]? = some u := ⟨_, List.getElem?_eq_getElem (by rw [gapS_length (by rw [HGL.out]; omega), HGL.out]; omega)⟩
                  have hzz := hcg2 j _ hu
                  have hf := hfz2 j
                  have hst := hown2.set_ (p := j) (u := st (o.getD (j - 1) [])) (y := o.getD (j - 1) []) rfl
                  have hbs := hbel2.setCell (p := ⟨g2, j, none⟩) hg2 (st (o.getD (j - 1) []))
                  obtain ⟨j', rfl⟩ : ∃ j', j = j' + 1 := ⟨j - 1, by omega⟩
                  simp only [Nat.add_sub_cancel] at hz hst hbs
                  have hgo : o.getD j' [] = o[j']'(by rw [HGL.out]; omega) := by
                    simp only [List.getD]
                    rw [List.getElem?_eq_getElem (by rw [HGL.out]; omega)]
                    rfl
                  rw [hgo, gapS_step] at hst
                  rw [← hgo] at hst
                  obtain ⟨z, hze⟩ : ∃ z, z = o.getD j' [] := ⟨_, rfl⟩
                  rw [← hze] at hz hst hbs
                  have HST := hide hst
                  have HBS := hide hbs
                  clear hown2 hbel2 hcg2 hfz2 hgj hu hst hbs hgo hze
                  unfold st at hz hzz
                  go_wp2
                  go_roundw
                  case rel => exact ⟨j', by omega, by omega, by go_num, HST.out, HBS.out⟩
                  case measure => (simp [intOf])
                · obtain rfl : k = j := by omega
                  have hx2 := (HB2.out.cell hba).trans HXW.out
                  obtain ⟨u, hu⟩ : ∃ u, (gapS o k)[k]? = some u := ⟨_, List.getElem?_eq_getElem (by rw [gapS_length (by rw [HGL.out]; omega), HGL.out]; omega)⟩
                  have hzz := hcg2 k _ hu
                  have hf := hfz2 k
                  have hst := hown2.set_ (p := k) (u := st x) (y := x) rfl
                  have hbs := hbel2.setCell (p := ⟨g2, k, none⟩) hg2 (st x)
                  rw [gapS_set (by rw [HGL.out]; omega)] at hst
                  have HST := hide hst
                  have HBS := hide hbs
                  clear hown2 hbel2 hcg2 hfz2 hu hst hbs
                  unfold st at hx2 hzz
                  go_wp2
                  go_roundw
                  case rel => exact ⟨i + 1, p + 1, _, by omega, by go_num, HS.out.symm, by omega, ⟨_, _, rfl, by rw [HINS.out]; exact HST.out⟩, HBS.out⟩
                  case measure => simp [intOf]; omega
        · obtain rfl : k = p := by omega
          go_wp2
          go_quiet (fail)
          go_wp2
          go_quiet (fail)
          go_wp2_with (at_builtin; refine wpList_append_Rd _ rfl (.tmp 46) (.tmp 47) 44 rfl w.heap.size 9 _ 16 Tryz.underlying44 info_st rfl st_one _ k _ o rfl (by repeat (first | exact HO.out | refine Ow.drewN ?_ _ | refine Ow.alloc ?_ _)) _ _ 1 1 _ rfl (Rd.one _ _ rfl) (k + 1) rfl (by omega) (by omega) (by have := HB.out.size; simp; omega) ?_; intro A2 c2 w1 hown1 hbel1; have HO1 := hide hown1; have HB1 := hide (Below.trans (show Below w.heap.size w _ by repeat (first | exact HB.out | refine below_drewN ?_ _ | (refine Below.alloc ?_ (by have := HB.out.size; simp; omega) _))) hbel1); clear hown1 hbel1)
          have hpos : posS x o = k := posS_of (by have := HO.out.len; omega) (fun j hj => HL.out j hj) (fun h => by have := HO.out.len; omega)
          have hnot : o[k]? ≠ some x := by rw [List.getElem?_eq_none (by have := HO.out.len; omega)]; simp
          have hins : insS x o = o.take k ++ x :: o.drop k := by unfold insS; rw [hpos, if_neg hnot]
          have HINS := hide hins
          clear hpos hnot hins
          have hgl := HO.out.len
          have HGL := hide hgl
          clear hgl
          go_loopw [6] (fun jv wr3 => ∃ j : Nat, k ≤ j ∧ j ≤ k ∧ jv = .int .i64 j ∧ Ow st wr3 w.heap.size 9 A2 (k + 1) c2 (gapS o j) ∧ Below w.heap.size w wr3) (fun jv _ => (intOf jv).toNat)
          case atStart => exact ⟨k, by omega, Nat.le_refl _, by go_num, by have e := gapS_end o; rw [HGL.out] at e; rw [e]; exact HO1.out, HB1.out⟩
          case round =>
            obtain ⟨j, hj1, hj2, rfl, hown2, hbel2⟩ := hrel
            have HO2 := hide hown2
            have HB2 := hide hbel2
            obtain ⟨g2, rfl, hg2, hgl2, hcg2, hfz2⟩ := hown2.at_ (by omega)
            by_cases hjk : k < j
            · exact absurd hjk (by omega)
            · obtain rfl : k = j := by omega
              have hx2 := (HB2.out.cell hba).trans HXW.out
              obtain ⟨u, hu⟩ : ∃ u, (gapS o k)[k]? = some u := ⟨_, List.getElem?_eq_getElem (by rw [gapS_length (by rw [HGL.out]; omega), HGL.out]; omega)⟩
              have hzz := hcg2 k _ hu
              have hf := hfz2 k
              have hst := hown2.set_ (p := k) (u := st x) (y := x) rfl
              have hbs := hbel2.setCell (p := ⟨g2, k, none⟩) hg2 (st x)
              rw [gapS_set (by rw [HGL.out]; omega)] at hst
              have HST := hide hst
              have HBS := hide hbs
              clear hown2 hbel2 hcg2 hfz2 hu hst hbs
              unfold st at hx2 hzz
              go_wp2
              go_roundw
              case rel => exact ⟨i + 1, k + 1, _, by omega, by go_num, HS.out.symm, by omega, ⟨_, _, rfl, by rw [HINS.out]; exact HST.out⟩, HBS.out⟩
              case measure => simp [intOf]; omega
    · obtain rfl : i = m := by omega
      have hos : o = sortS l := by rw [HOE.out, List.take_of_length_le (by rw [HA.out.len]; exact Nat.le_refl _)]
      have hol := HO.out.len
      have HOS := hide hos
      have HOL := hide hol
      clear hos hol
      go_wp2
      go_ret
      rw [← HOS.out, HOL.out]
      exact HO.out.ret HB.out
end Go.Proofs.YtnehkgbdppbhiaaGreat

/- Names (layer 16). -/
namespace Go.Proofs.YtnehkgbdppbhiaaGreat
open Go.RowKit Go.Shelf Plain

theorem Entries_e {A : Option Addr} {n c : Nat} {ns : List NodV} {i : Int} {B : Nat} {l : List EntV} (hl : entB ns i = l) (w : World) (h : RdE nodEn w (Under B) A n ns) (hB : B ≤ w.heap.size) (hm : ns.length ≤ 100000) :
    Calls Tryz.prog 63 #[.agg #[.slice A n c], .int .i64 i] w (EntsRet w B l) := by rw [← hl]; exact Entries_any w h hB hm
/-- All names of entries, place by place. -/
def allN (ls : List (List NodV)) (l : List (Int × Int)) : List (List UInt8) := l.flatMap (fun p => (entL ls p).map EntV.name)
theorem allN_succ {ls : List (List NodV)} {l : List (Int × Int)} {j : Nat} {p : Int × Int} (h : l[j]? = some p) : allN ls (l.take (j + 1)) = allN ls (l.take j) ++ (entL ls p).map EntV.name := by
  unfold allN
  rw [List.take_add_one, h, List.flatMap_append]
  simp
theorem allN_len {ls : List (List NodV)} (hF : FewL ls) (l : List (Int × Int)) : (allN ls l).length ≤ 16 * l.length := by
  unfold allN
  induction l with
  | nil => simp
  | cons p r ih =>
    rw [List.flatMap_cons, List.length_append, List.length_map, List.length_cons]
    have := entL_len hF p
    omega
def namesL (ls : List (List NodV)) (l : List (Int × Int)) : List (List UInt8) := (sortS (allN ls l)).filter (fun x => !hidS ls l x)
theorem sort_filter (q : List UInt8 → Bool) (l : List (List UInt8)) : (sortS l).filter q = sortS (l.filter q) := by
  refine sortS_unique ?_ (fun y => ?_)
  · exact List.Pairwise.filter q (sortS_rising l).1
  · rw [List.mem_filter, List.mem_filter, (sortS_rising l).2]
def NamesRet (w : World) (L : List (List UInt8)) (e : Ending) (w' : World) : Prop := ∃ A n c, e = .returned (.slice A n c) ∧ Rd st w' w'.heap.size A n L ∧ Below w.heap.size w w'
theorem names_snoc {l : List EntV} {i : Nat} {e : EntV} (h : l[i]? = some e) (a : List (List UInt8)) : a ++ (l.take (i + 1)).map EntV.name = (a ++ (l.take i).map EntV.name) ++ [e.name] := by
  rw [List.take_add_one, h]
  simp
set_option maxRecDepth 100000 in
set_option maxHeartbeats 8000000 in
theorem Names_any {g : GeoQ} {AU AL AP : Option Addr} {nU cU nL cL n cP : Nat} {ls : List (List NodV)} {l : List (Int × Int)} (w : World) (h : RdE layEn w (Under w.heap.size) AL nL ls) (hp : RdE prEn w (Under w.heap.size) AP n l) (hF : FewL ls) (hn : n ≤ 1000) :
    Calls Tryz.prog 62 #[.agg (stkC g (.slice AU nU cU) (.slice AL nL cL)).toArray, .slice AP n cP] w (NamesRet w (namesL ls l)) := by
  obtain ⟨r0, r1, hb2, hs2⟩ := rows2 w (stkC g (.slice AU nU cU) (.slice AL nL cL)) [.slice AP n cP] 29 30
  obtain ⟨W2, hW2⟩ : ∃ W2, (w.alloc (.cells (stkC g (.slice AU nU cU) (.slice AL nL cL)).toArray 29)).alloc (.cells [Value.slice AP n cP].toArray 30) = W2 := ⟨_, rfl⟩
  rw [hW2] at r0 r1 hb2 hs2
  have hW2' : (w.alloc (.cells #[.int .i64 g.a, .int .i64 g.b, .int .i64 g.c, .int .i64 g.d, .slice AU nU cU, .slice AL nL cL] 29)).alloc (.cells #[.slice AP n cP] 30) = W2 := hW2
  have q0 : W2.cell? ⟨w.heap.size + 1, 0, none⟩ = some (.slice AP n cP) := r1.cell 0
  have hm : ls.length ≤ 100 := by have := hF.1; omega
  have HM2 := hide (fun ns (hh : ns ∈ ls) => (show ns.length ≤ 1000 from Nat.le_trans (hF.2 ns hh).1 (by omega)))
  have R0 := hide r0
  have HB2 := hide hb2
  have hsl : w.heap.size + 2 ≤ W2.heap.size := by omega
  have HL := hide (h.under hb2 (Nat.le_refl _))
  have HP := hide (hp.under hb2 (Nat.le_refl _))
  have HPL := hide hp.1
  have HF := hide hF
  have HCX := hide (show CtxN g AU AL AP nU cU nL cL n cP w.heap.size w.heap.size (w.heap.size + 1) ls l W2 from ⟨r0, r1, h.under hb2 (Nat.le_refl _), hp.under hb2 (Nat.le_refl _), by omega⟩)
  have HAL := hide (fun k => (show (allN ls (l.take k)).length ≤ 16 * k from Nat.le_trans (allN_len hF _) (Nat.mul_le_mul_left _ (by rw [List.length_take]; omega))))
  unfold stkC
  clear r0 r1 hb2 hW2 h hp hF hs2
  go_enter Tryz.func62, Tryz.ntmps62
  go_wp2_with fail
  clear hW2' q0
  go_loopw [5, 13] (fun v5 v13 wr => ∃ (j n5 : Nat) (A5 : Option Addr) (c5 : Nat), j ≤ n ∧ v13 = .int .i64 j ∧ v5 = .slice A5 n5 c5 ∧ Ow st wr W2.heap.size 9 A5 n5 c5 (allN ls (l.take j)) ∧ Below W2.heap.size W2 wr) (fun _ v13 _ => n - (intOf v13).toNat)
  case atStart => exact ⟨0, 0, none, 0, by omega, rfl, rfl, World.ownsRow_nil _ _ _ _, below_self _⟩
  case round =>
    rename World => wo
    obtain ⟨j, n5, A5, c5, hj, rfl, rfl, ho, hbr⟩ := hrel
    have hn5 : n5 ≤ 16 * j := by rw [← ho.rd.len]; exact HAL.out j
    have HO := hide ho
    have HBR := hide hbr
    have hbsz := hbr.size
    have R0r := hide (R0.out.on hbr)
    clear ho hbr
    by_cases hlt : j < n
    · obtain ⟨p, hp⟩ : ∃ p, l[j]? = some p := ⟨_, List.getElem?_eq_getElem (by have := HPL.out; omega)⟩
      obtain ⟨bP, oP, rfl, hbP, hcP⟩ := pr_get (HP.out.under HBR.out (by omega)) hp
      have HCP := hide hcP
      have HZP := hide (RowL.new wo 36 (prC (0, 0)))
      have HSU := hide (allN_succ (ls := ls) hp)
      obtain ⟨EL, hEL⟩ : ∃ EL, entL ls p = EL := ⟨_, rfl⟩
      have hel := entL_len HF.out p
      rw [hEL] at hel
      have HEL := hide hEL
      have hjn : (j : Int) < (n : Int) := by omega
      clear hp hcP hEL
      go_wp2_with (first | (refine wpList_loadX rfl 36 (.tmp 15) rfl 2 plc_agg plc_size bP (oP + j * 2) rfl (prC p) HCP.out rfl ?_) | (refine wpList_storeW rfl 36 (.tmp 7) (.tmp 16) rfl 2 plc_size wo.heap.size 36 rfl (prC (0, 0)) (prC p) rfl HZP.out rfl rfl (prC_one _) ?_; intro w6 hr6 hg6 hs6; have hb6 := below_stored' hg6; have R6 := hide hr6; have HB6 := hide hb6; have R06 := hide (R0r.out.on hb6); have hs6l := hb6.size; clear hr6 hg6 hs6 hb6))
      have HQ0 := hide (fun W (hb : Below w6.heap.size w6 W) => show W.cell? ⟨wo.heap.size, 0, none⟩ = some (.int .i64 p.1) from (R6.out.on hb).cell 0)
      have HQ1 := hide (fun W (hb : Below w6.heap.size w6 W) => show W.cell? ⟨wo.heap.size, 1, none⟩ = some (.int .i64 p.2) from (R6.out.on hb).cell 1)
      have hly := layL_len HM2.out p.1
      have hely := ent_lay ls p
      rw [HEL.out] at hely
      obtain ⟨ly, hLY⟩ : ∃ ly, layL ls p.1 = ly := ⟨_, rfl⟩
      rw [hLY] at hly hely
      have HLY := hide hLY
      have HEY := hide hely
      clear hLY hely
      refine wp_region_planN (fun w' => Below w6.heap.size w6 w') [(0, true), (1, true), (2, true), (4, true), (5, true), (8, true), (3, false), (6, false), (7, true)] (by kernel_rfl) (by kernel_rfl) (by kernel_rfl) (by kernel_rfl) rfl (fun _ _ _ _ _ h => h) (below_drew (below_self w6)) (fun hHeld => ?_)
      simp only [planOps, List.filterMap_cons, List.filterMap_nil, List.getElem?_toArray, List.getElem?_cons_succ, List.getElem?_cons_zero, Option.map_some]
      refine wpPlan_take (v := ?_) (by kernel_rfl) (fun wS hSw => ?_) ?_
      rotate_left
      · refine execOp_load (x := .tmp 2) (k := 6) (g := w.heap.size) (off := 0) (cs := stkC g (.slice AU nU cU) (.slice AL nL cL)) ?_ stk_agg stk_size ?_ (fun j v hv => by rw [Nat.zero_add]; exact ((R06.out.on hSw).cell j).trans hv) rfl <;> rfl
      (try simp only [Act.put, List.setIfInBounds_toArray, List.set_cons_zero, List.set_cons_succ])
      refine wpPlan_take (v := ?_) (by kernel_rfl) (fun wS hSw => ?_) ?_
      rotate_left
      · (try dsimp only at hSw); go_simp; (try with_reducible rfl)
      (try simp only [Act.put, List.setIfInBounds_toArray, List.set_cons_zero, List.set_cons_succ])
      refine wpPlan_take (v := ?_) (by kernel_rfl) (fun wS hSw => ?_) ?_
      rotate_left
      · have qx := HQ0.out wS hSw; go_simp; (try with_reducible rfl)
      (try simp only [Act.put, List.setIfInBounds_toArray, List.set_cons_zero, List.set_cons_succ])
      refine wpPlan_take (v := ?_) (by kernel_rfl) (fun wS hSw => ?_) ?_
      rotate_left
      · (try dsimp only at hSw); go_simp; (try with_reducible rfl)
      (try simp only [Act.put, List.setIfInBounds_toArray, List.set_cons_zero, List.set_cons_succ])
      refine wpPlan_take (v := ?_) (by kernel_rfl) (fun wS hSw => ?_) ?_
      rotate_left
      · have qx := HQ1.out wS hSw; go_simp; (try with_reducible rfl)
      (try simp only [Act.put, List.setIfInBounds_toArray, List.set_cons_zero, List.set_cons_succ])
      refine wpPlan_take (v := ?_) (by kernel_rfl) (fun wS hSw => ?_) ?_
      rotate_left
      · (try dsimp only at hSw); go_simp; (try with_reducible rfl)
      (try simp only [Act.put, List.setIfInBounds_toArray, List.set_cons_zero, List.set_cons_succ])
      refine wpPlan_call (by kernel_rfl) (fun K hK => ?_)
      have hOld := hide hHeld
      clear hHeld
      go_simp
      go_at_call 106
      refine (Beneath_e HLY.out (B := w.heap.size) _ (HL.out.under (HBR.out.trans ((HB6.out.trans (hOld.out.mono hs6l)).mono hbsz)) (by omega)) (by have := hOld.out.size; omega) hm).mono ?_
      rintro e w' ⟨A1, n1, c1, rfl, e2, e3, hbel⟩
      have HNS := hide e3
      clear e3
      refine hK.out _ _ (hOld.out.trans (hbel.mono hOld.out.size)) (fun hHeld => ?_)
      clear hK K
      (try simp only [Act.put, List.setIfInBounds_toArray, List.set_cons_zero, List.set_cons_succ])
      refine wpPlan_call (by kernel_rfl) (fun K hK => ?_)
      have hOld := hide hHeld
      clear hHeld
      go_simp
      go_at_call 63
      refine (Entries_e HEY.out (B := w.heap.size) _ HNS.out (by have := hOld.out.size; omega) (by omega)).mono ?_
      rintro e w' ⟨C, m, d, rfl, hmd, hE, hbel⟩
      have HE := hide hE
      clear hE
      refine hK.out _ _ (hOld.out.trans (hbel.mono hOld.out.size)) (fun hHeld => ?_)
      clear hK K
      (try simp only [Act.put, List.setIfInBounds_toArray, List.set_cons_zero, List.set_cons_succ])
      refine wpPlan_take (v := ?_) (by kernel_rfl) (fun wS hSw => ?_) ?_
      rotate_left
      · (try dsimp only at hSw); go_simp; (try with_reducible rfl)
      (try simp only [Act.put, List.setIfInBounds_toArray, List.set_cons_zero, List.set_cons_succ])
      refine wpPlan_end ?_
      have HB7 := hide (HB6.out.trans (hHeld.mono hs6l))
      have hs7l := hHeld.size
      clear hHeld
      (try go_wp2_with fail)
      have HO7 := hide (HO.out.below HB7.out)
      have HBX := hide (HBR.out.trans (HB7.out.mono hbsz))
      have hs7 := HB7.out.size
      have HEM := hide HE.out.1
      have hm16 : m ≤ 16 := by have := HEM.out; omega
      go_loopw [5, 25] (fun v5 v25 wr => ∃ (i n6 : Nat) (A6 : Option Addr) (c6 : Nat), i ≤ m ∧ v25 = .int .i64 i ∧ v5 = .slice A6 n6 c6 ∧ n6 ≤ 16 * j + i ∧ Ow st wr W2.heap.size 9 A6 n6 c6 (allN ls (l.take j) ++ (EL.take i).map EntV.name) ∧ Below W2.heap.size W2 wr ∧ w'.heap.size ≤ wr.heap.size ∧ Below w.heap.size w' wr) (fun _ v25 _ => m - (intOf v25).toNat)
      case atStart => exact ⟨0, n5, A5, c5, by omega, rfl, rfl, by omega, by simpa using HO7.out, HBX.out, Nat.le_refl _, Below.refl _ _⟩
      case round =>
        obtain ⟨i, n6, A6, c6, hi, rfl, rfl, hn6, ho6, hbx, hsx, hbw⟩ := hrel
        have HO6 := hide ho6
        have HBXr := hide hbx
        have hbxs := hbx.size
        have HBW := hide hbw
        clear ho6 hbx hbw
        by_cases hlt2 : i < m
        · obtain ⟨e, he⟩ : ∃ e, EL[i]? = some e := ⟨_, List.getElem?_eq_getElem (by have := HEM.out; omega)⟩
          obtain ⟨bE, oE, rfl, hbE, hcE⟩ := ent_get ((HE.out.mono (fun b hb => HBW.out.block b hb) (fun _ h => h)) : RdE entEn wr (Under w.heap.size) C m EL) he
          have HCE := hide hcE
          have HZE := hide (RowL.new wr 49 [.int .i64 0, .int .i64 0, .string ⟨#[]⟩])
          have HNS := hide (names_snoc he (allN ls (l.take j)))
          have him : (i : Int) < (m : Int) := by omega
          clear he hcE
          go_wp2_with (first | (refine wpList_loadX rfl 49 (.tmp 27) rfl 3 entw_agg entw_size bE (oE + i * 3) rfl (cellsE e) HCE.out rfl ?_) | (refine wpList_storeW rfl 49 (.tmp 9) (.tmp 28) rfl 3 entw_size wr.heap.size 49 rfl [.int .i64 0, .int .i64 0, .string ⟨#[]⟩] (cellsE e) rfl HZE.out rfl rfl (cellsE_one e) ?_; intro w8 hr8 hg8 hs8; have hb8 := below_stored' hg8; have qn : w8.cell? ⟨wr.heap.size, 2, none⟩ = some (.string ⟨e.name.toArray⟩) := hr8.cell 2; have HB8 := hide hb8; have hs8l := hb8.size; clear hr8 hg8 hs8 hb8) | (at_builtin; refine wpList_append_Rd (f := st) _ rfl (.tmp 29) (.tmp 32) 44 rfl W2.heap.size 9 _ 16 Tryz.underlying44 info_st rfl (fun _ => rfl) A6 n6 c6 _ rfl ((HO6.out.below HB8.out).below (below_new (below_self w8) _)) _ _ 1 1 [e.name] rfl (Rd.one _ _ rfl) (n6 + 1) rfl (by omega) (by omega) (by simp; omega) ?_; intro A7 c7 w9 ho9 hb9; have HO9 := hide ho9; have hs9 := hb9.size; have HB9 := hide ((HBXr.out.trans ((HB8.out.mono hbxs).alloc (by omega) _)).trans hb9); have HB9w := hide ((HBW.out.trans ((HB8.out.mono (by omega)).alloc (by omega) _)).trans (hb9.mono (by omega))); clear ho9 hb9))
          have hs9' : w8.heap.size ≤ w9.heap.size := by simp at hs9; omega
          go_roundw
          case rel => exact ⟨i + 1, n6 + 1, A7, c7, by omega, by go_num, rfl, by omega, by rw [HNS.out]; exact HO9.out, HB9.out, by omega, HB9w.out⟩
          case measure => simp [intOf]; omega
        · obtain rfl : i = m := by omega
          go_wp2_with fail
          go_roundw
          case rel => exact ⟨j + 1, n6, A6, c6, by omega, by go_num, rfl, by rw [HSU.out, HEL.out]; have := HO6.out; rwa [List.take_of_length_le (l := EL) (i := i) (by have := HEM.out; omega)] at this, HBXr.out⟩
          case measure => simp [intOf]; omega
    · obtain rfl : j = n := by omega
      have ho := HO.out
      rw [List.take_of_length_le (by have := HPL.out; omega)] at ho
      have HOF := hide ho
      have hll := HPL.out
      clear ho hll
      go_wp2_with fail
      refine (NSort_any wo HOF.out.rd (by omega)).mono ?_
      rintro ez w3 ⟨A3, c3, rfl, ho3, hb3⟩
      have HO3 := hide ho3
      have HB3 := hide (HBR.out.trans (hb3.mono hbsz))
      have hs3 := hb3.size
      have hsl3 := sortS_length (allN ls l)
      have hl0 := HOF.out.rd.len
      have hsb : (sortS (allN ls l)).length ≤ 100000 := by omega
      clear hb3 ho3 hsl3 hl0
      go_wp2_with fail
      refine (DelS_any (p := hidS ls l) (B0 := W2.heap.size) (base := wo.heap.size) w3 HO3.out hsb (fun W nm r hr hk hs => HidN_any hr W (HCX.out.kept (B0 := W2.heap.size) (fun b hb => (hk b hb).trans (HB3.out.block b hb)) (by omega) (by omega) (by omega) (by omega)) HF.out hn) hbsz (by omega)).mono ?_
      rintro ez w4 ⟨A4, c4, n4, rfl, hr4, hb4⟩
      have HR4 := hide hr4
      have HB4 := hide (HB2.out.trans ((HB3.out.trans hb4).mono (by omega)))
      clear hr4 hb4
      go_wp2_with fail
      go_ret
      exact ⟨A4, n4, c4, rfl, HR4.out, HB4.out⟩
end Go.Proofs.YtnehkgbdppbhiaaGreat

/- The reference's Names (layer 16). -/
namespace Go.Proofs.YtnehkgbdppbhiaaGreat
open Go.RowKit Go.Shelf Plain

def keepS (ls : List (List NodV)) (l : List (Int × Int)) (x : List UInt8) : Bool := !hidS ls l x
theorem namesL_ref (ls : List (List NodV)) (l : List (Int × Int)) : namesL ls l = sortS ((allN ls l).filter (keepS ls l)) := sort_filter _ _
theorem keep_snoc {q : List UInt8 → Bool} {l : List EntV} {i : Nat} {e : EntV} (h : l[i]? = some e) (a : List (List UInt8)) {b : Bool} (hb : q e.name = b) : (a ++ (l.take (i + 1)).map EntV.name).filter q = if b = true then (a ++ (l.take i).map EntV.name).filter q ++ [e.name] else (a ++ (l.take i).map EntV.name).filter q := by
  rw [names_snoc h, List.filter_append]
  cases b <;> simp [hb]
theorem run_append_Rd' {α : Type} {f : α → Value} {P : Program} (w : World) (base : Nat) (t ty e : TypeId) (z : Value) (k : Nat) (ht : P.underlying t = some (.slice e)) (hinfo : (P.info? e).map (fun i => (i.zero, i.size, i.bytes)) = some (some z, 1, k)) (hzs : z.cells.size = 1)
    (h1 : ∀ x, (f x).oneCell' = true)
    (v : Value) (n : Nat) (l0 : List α) (hown : w.ownsRow base e 1 v n (l0.map f)) (B : Nat) (A : Option Addr) (m c : Nat) (l1 : List α) (hb : Rd f w B A m l1)
    (hbytes : (n + m) * k ≤ 140737488355328) (hnm : n + m ≤ 140737488355328) (hbase : base ≤ w.heap.size) :
    ∃ v' w', (Builtin.append_ #[t, t] ty #[v, .slice A m c]).run P w = .ok v' w' ∧ w'.ownsRow base e 1 v' (n + m) ((l0 ++ l1).map f) ∧ Below base w w' ∧ w.grownBy w' v.ownBlock := by
  obtain ⟨i, hi, hz, hsz, hby⟩ := info_parts hinfo
  rw [List.map_append]
  cases A with
  | none =>
    have hm : m = 0 := by
      rcases Nat.eq_zero_or_pos m with h0 | h0
      · exact h0
      · obtain ⟨_, _, h, _⟩ := hb.2 h0; cases h
    subst hm
    obtain rfl : l1 = [] := List.eq_nil_of_length_eq_zero hb.1
    exact ⟨v, w, run_append_nil0 w base t ty e i 1 ht hi v n _ hown c, by simpa using hown, Below.refl _ _, World.grownBy.refl _ _⟩
  | some ad =>
    have hcells : ∀ j u, (l1.map f)[j]? = some u → w.cell? (ad.add j) = some u := by
      intro j u hu
      rw [List.getElem?_map, Option.map_eq_some_iff] at hu
      obtain ⟨x, hx, rfl⟩ := hu
      have hj : j < l1.length := (List.getElem?_eq_some_iff.1 hx).1
      obtain ⟨b, o, e, _, hc⟩ := hb.2 (by have := hb.1; omega)
      injection e with e
      subst e
      rw [← hc j x hx]
      congr 1
      unfold Addr.add
      split
      · rename_i h0; subst h0; rfl
      · rfl
    obtain ⟨v', w', hr, h2, h3, _⟩ := run_append_own (P := P) w base t ty e i z 1 k ht hi hz hsz hby hzs (by omega) v n _ hown ad m c (l1.map f) (by rw [List.length_map]; have := hb.1; omega) hcells (map_one h1 _)
      (by simp only [maxLen]; omega) hbytes hbase
    exact ⟨v', w', hr, h2, Below.of_grown_own hown h3 hbase, h3⟩
theorem wpList_append_Rd' {α : Type} {f : α → Value} {P : Program} (w : World) {ops : Array Oper} {rest : List Oper} {o : Oper} {a : Act} {Q : Exit → Act → World → Prop} (hgd : o.guard = none) (s x : Operand) (t : TypeId)
    (ho : o.op = .call { callee := .builtin .append, args := #[s, x], argTypes := #[t, t] })
    (base : Nat) (e : TypeId) (z : Value) (k : Nat) (ht : P.underlying t = some (.slice e)) (hinfo : (P.info? e).map (fun i => (i.zero, i.size, i.bytes)) = some (some z, 1, k)) (hzs : z.cells.size = 1)
    (h1 : ∀ x, (f x).oneCell' = true)
    (A0 : Option Addr) (n c0 : Nat) (l0 : List α) (hs : a.eval s = .slice A0 n c0) (hown : Ow f w base e A0 n c0 l0) (B : Nat) (A : Option Addr) (m c : Nat) (l1 : List α) (hx : a.eval x = .slice A m c) (hb : Rd f w B A m l1)
    (N : Nat) (hN : n + m = N) (hbytes : N * k ≤ 140737488355328) (hnm : N ≤ 140737488355328) (hbase : base ≤ w.heap.size)
    (h : ∀ A' c' w', Ow f w' base e A' N c' (l0 ++ l1) → Below base w w' → w.grownBy w' (Value.slice A0 n c0).ownBlock → wpList P ops Q rest (a.put o.dst (.slice A' N c')) w') : wpList P ops Q (o :: rest) a w := by
  subst hN
  refine wpList_plain hgd fun K hK => ?_
  obtain ⟨v', w', hr, h2, h3, h4⟩ := run_append_Rd' (P := P) w base t o.type e z k ht hinfo hzs h1 _ n l0 hown B A m c l1 hb hbytes hnm hbase
  unfold Oper.wp execOp
  simp only [ho, resolve, invoke, builtin, Sem.run_bind, Sem.run_pure, Result.andThen_ok, List.map_toArray, List.map_cons, List.map_nil, hs, hx, hr]
  obtain ⟨A', c', rfl, h5⟩ := Ow.of h2
  exact hK _ _ (h A' c' w' h5 h3 h4)
set_option maxRecDepth 100000 in
set_option maxHeartbeats 16000000 in
theorem RNames_any {g : GeoQ} {AU AL AP : Option Addr} {nU cU nL cL n cP : Nat} {ls : List (List NodV)} {l : List (Int × Int)} (w : World) (h : RdE layEn w (Under w.heap.size) AL nL ls) (hp : RdE prEn w (Under w.heap.size) AP n l) (hF : FewL ls) (hn : n ≤ 1000) :
    Calls Tryz.prog 67 #[.agg (stkC g (.slice AU nU cU) (.slice AL nL cL)).toArray, .slice AP n cP] w (NamesRet w (namesL ls l)) := by
  have r0 := RowL.new w 29 (stkC g (.slice AU nU cU) (.slice AL nL cL))
  have hb1 := below_new (below_self w) (.cells (stkC g (.slice AU nU cU) (.slice AL nL cL)).toArray 29)
  obtain ⟨W1, hW1⟩ : ∃ W1, w.alloc (.cells (stkC g (.slice AU nU cU) (.slice AL nL cL)).toArray 29) = W1 := ⟨_, rfl⟩
  rw [hW1] at r0 hb1
  have hW1' : w.alloc (.cells #[.int .i64 g.a, .int .i64 g.b, .int .i64 g.c, .int .i64 g.d, .slice AU nU cU, .slice AL nL cL] 29) = W1 := hW1
  have hm : ls.length ≤ 100 := by have := hF.1; omega
  have HM2 := hide (fun ns (hh : ns ∈ ls) => (show ns.length ≤ 1000 from Nat.le_trans (hF.2 ns hh).1 (by omega)))
  have R0 := hide r0
  have HB1 := hide hb1
  have hs1 := hb1.size
  have HL := hide (h.under hb1 (Nat.le_refl _))
  have HP := hide (hp.under hb1 (Nat.le_refl _))
  have HPL := hide hp.1
  have HF := hide hF
  have HAL := hide (fun k => (show (allN ls (l.take k)).length ≤ 16 * k from Nat.le_trans (allN_len hF _) (Nat.mul_le_mul_left _ (by rw [List.length_take]; omega))))
  have HO0 := hide (show Ow st (W1.alloc (.cells #[] 9)) W1.heap.size 9 (some ⟨W1.heap.size, 0, none⟩) 0 0 [] from own_lit0 W1 9 1 (base := W1.heap.size) rfl (Nat.le_refl _))
  have HW0 := hide (below_new (below_self W1) (.cells #[] 9))
  rw [namesL_ref]
  unfold stkC
  clear r0 hb1 hW1 h hp hF
  go_enter Tryz.func67, Tryz.ntmps67
  go_wp2_with fail
  clear hW1'
  go_loopw [5, 6] (fun v5 v6 wr => ∃ (j n5 : Nat) (A5 : Option Addr) (c5 : Nat), j ≤ n ∧ v6 = .int .i64 j ∧ v5 = .slice A5 n5 c5 ∧ Ow st wr W1.heap.size 9 A5 n5 c5 ((allN ls (l.take j)).filter (keepS ls l)) ∧ Below W1.heap.size W1 wr) (fun _ v6 _ => n - (intOf v6).toNat)
  case atStart => exact ⟨0, 0, _, 0, by omega, rfl, rfl, HO0.out, HW0.out⟩
  case round =>
    rename World => wo
    obtain ⟨j, n5, A5, c5, hj, rfl, rfl, ho, hbr⟩ := hrel
    have hn5 : n5 ≤ 16 * j := by rw [← ho.rd.len]; exact Nat.le_trans (List.length_filter_le _ _) (HAL.out j)
    have HO := hide ho
    have HBR := hide hbr
    have hbsz := hbr.size
    have R0r := hide (R0.out.on hbr)
    have HLR := hide (fun W (hb : Below wo.heap.size wo W) => HL.out.under (hbr.trans (hb.mono hbsz)) hs1)
    clear ho hbr
    by_cases hlt : j < n
    · obtain ⟨p, hp⟩ : ∃ p, l[j]? = some p := ⟨_, List.getElem?_eq_getElem (by have := HPL.out; omega)⟩
      obtain ⟨bP, oP, eP, hbP, hcP⟩ := pr_get (HP.out.under HBR.out hs1) hp
      have HCP := hide hcP
      have HSU := hide (allN_succ (ls := ls) hp)
      obtain ⟨N, hN⟩ : ∃ N, lowAt ls p.1 p.2 = N := ⟨_, rfl⟩
      have hel := (low_plain HF.out p.1 p.2).2.2.2.2.1
      rw [hN] at hel
      obtain ⟨EL, hEL⟩ : ∃ EL, entL ls p = EL := ⟨_, rfl⟩
      have HELN := hide (show EL = if N.k = 1 then N.ents else [] from by rw [← hEL]; unfold entL; rw [hN])
      have HEL := hide hEL
      have HN := hide hN
      have hjn : (j : Int) < (n : Int) := by omega
      have hbPr : bP < wo.heap.size := by have : bP < w.heap.size := hbP; omega
      subst eP
      clear hp hcP hEL hN
      go_upto_region 5 with fail
      go_cut [7] from 18 to 23 (fun v7 wx => ∃ g7 A1 n1 c1 C1 m1 d1, v7 = .pointer (some ⟨g7, 0, none⟩) ∧ RowL wx g7 71 (nodC N (.slice A1 n1 c1) (.slice C1 m1 d1)) ∧ RdE entEn wx (Under w.heap.size) C1 m1 N.ents ∧ Below wo.heap.size wo wx)
      case first =>
        refine wp_region_G (fun w' => Below wo.heap.size wo w') (.take 0 (.take 1 (.take 2 (.take 3 (.take 4 (.alt 5 (.alt 6 (.alt 7 .leaf .stop) .stop) (.alt 6 (.alt 5 (.alt 7 .leaf .stop) .stop) .stop))))))) (by kernel_rfl) (by kernel_rfl) (by kernel_rfl) (by kernel_rfl) rfl (fun _ _ _ _ _ h => h) (below_drew (below_self wo)) (fun hHeld => ?_)
        generalize wo.drew = wd at *
        simp only [PT.map, List.getElem?_toArray, List.getElem?_cons_succ, List.getElem?_cons_zero]
        refine wpPT_take (v := ?_) (by kernel_rfl) (fun wS hSw => ?_) ?_
        rotate_left
        · refine execOp_load (x := .tmp 2) (k := 6) (g := w.heap.size) (off := 0) (cs := stkC g (.slice AU nU cU) (.slice AL nL cL)) ?_ stk_agg stk_size ?_ (fun j' v hv => by rw [Nat.zero_add]; exact ((R0r.out.on hSw).cell j').trans hv) rfl <;> rfl
        (try simp only [Act.put, List.setIfInBounds_toArray, List.set_cons_zero, List.set_cons_succ])
        refine wpPT_take (v := ?_) (by kernel_rfl) (fun wS hSw => ?_) ?_
        rotate_left
        · (try dsimp only at hSw); go_simp; (try with_reducible rfl)
        (try simp only [Act.put, List.setIfInBounds_toArray, List.set_cons_zero, List.set_cons_succ])
        refine wpPT_take (v := ?_) (by kernel_rfl) (fun wS hSw => ?_) ?_
        rotate_left
        · (try dsimp only at hSw); go_simp; (try with_reducible rfl)
        (try simp only [Act.put, List.setIfInBounds_toArray, List.set_cons_zero, List.set_cons_succ])
        refine wpPT_take (v := ?_) (by kernel_rfl) (fun wS hSw => ?_) ?_
        rotate_left
        · (try dsimp only at hSw); go_simp; (try with_reducible rfl)
        (try simp only [Act.put, List.setIfInBounds_toArray, List.set_cons_zero, List.set_cons_succ])
        refine wpPT_take (v := ?_) (by kernel_rfl) (fun wS hSw => ?_) ?_
        rotate_left
        · refine execOp_load (x := .tmp 21) (k := 2) (g := bP) (off := oP + j * 2) (cs := prC p) ?_ plc_agg plc_size ?_ (fun j' v hv => (hSw.cell (p := ⟨bP, oP + j * 2 + j', none⟩) hbPr).trans (HCP.out j' v hv)) rfl <;> rfl
        (try simp only [Act.put, List.setIfInBounds_toArray, List.set_cons_zero, List.set_cons_succ])
        refine wpPT_alt (by kernel_rfl) (fun K hK => ?_) ?_
        · skip
          have hOld := hide hHeld
          clear hHeld
          go_simp
          go_at_call 98
          refine (RLower_e HN.out _ (HLR.out _ hOld.out) (by have := hOld.out.size; omega) hm HM2.out).mono ?_
          rintro e w' ⟨A1, n1, c1, C1, m1, d1, rfl, e2, e3, e4, e5, hbel⟩
          have hsC := (hOld.out.trans (hbel.mono hOld.out.size)).size
          have E5 := hide e5
          clear e3 e5
          refine hK.out _ _ (hOld.out.trans (hbel.mono hOld.out.size)) (fun hHeld => ?_)
          clear hK K
          (try simp only [Act.put, List.setIfInBounds_toArray, List.set_cons_zero, List.set_cons_succ])
          refine wpPT_alt (by kernel_rfl) (fun K hK => ?_) ?_
          rotate_left
          · exact wpPT_stop
          have hOld := hide hHeld
          clear hHeld
          unfold Oper.wp execOp
          go_simp
          refine hK.out _ _ (hOld.out.alloc hOld.out.size _) (fun hHeld => ?_)
          clear hK K
          (try simp only [Act.put, List.setIfInBounds_toArray, List.set_cons_zero, List.set_cons_succ])
          refine wpPT_alt (by kernel_rfl) (fun K hK => ?_) ?_
          rotate_left
          · exact wpPT_stop
          have hOld := hide hHeld
          clear hHeld
          refine wp_storeC 71 (.tmp 7) (.tmp 23) rfl 13 nod_size w'.heap.size 0 71 rfl (nodC nod0 (.slice none 0 0) (.slice none 0 0)) (nodC N (.slice A1 n1 c1) (.slice C1 m1 d1)) rfl (RowL.new w' 71 (nodC nod0 (.slice none 0 0) (.slice none 0 0))) rfl (by exact Nat.le_refl _) (nodC_one _ _ _ _ _ _ _) ?_
          intro w9 hr9 hg9 hs9
          rw [splice_all (nodC nod0 (.slice none 0 0) (.slice none 0 0)) (nodC N (.slice A1 n1 c1) (.slice C1 m1 d1)) rfl] at hr9
          refine hK.out _ _ (hOld.out.grown hg9 hOld.out.size (fun k hk => by have := Option.some.inj hk; omega)) (fun hHeld => ?_)
          clear hK K
          have HR7 := hide hr9
          have E9 := hide (E5.out.under (below_stored' hg9) (by omega))
          clear hr9 hg9 hs9
          (try simp only [Act.put])
          refine wpPT_leaf ?_
          have HBX' := hide hHeld
          clear hHeld hOld
          go_wp2_with fail
          go_meet
          case rel => exact ⟨w'.heap.size, A1, n1, c1, C1, m1, d1, rfl, HR7.out, E9.out, HBX'.out⟩
        refine wpPT_alt (by kernel_rfl) (fun K hK => ?_) ?_
        · skip
          have hOld := hide hHeld
          clear hHeld
          have hsW := hOld.out.size
          unfold Oper.wp execOp
          go_simp
          refine hK.out _ _ (hOld.out.alloc hOld.out.size _) (fun hHeld => ?_)
          clear hK K
          (try simp only [Act.put, List.setIfInBounds_toArray, List.set_cons_zero, List.set_cons_succ])
          refine wpPT_alt (by kernel_rfl) (fun K hK => ?_) ?_
          rotate_left
          · exact wpPT_stop
          have hOld := hide hHeld
          clear hHeld
          go_simp
          go_at_call 98
          refine (RLower_e HN.out _ (HLR.out _ hOld.out) (by have := hOld.out.size; omega) hm HM2.out).mono ?_
          rintro e w' ⟨A1, n1, c1, C1, m1, d1, rfl, e2, e3, e4, e5, hbel⟩
          have hsC := (hOld.out.trans (hbel.mono hOld.out.size)).size
          have E5 := hide e5
          clear e3 e5
          have HBX := hide ((RowL.new wd 71 (nodC nod0 (.slice none 0 0) (.slice none 0 0))).on hbel)
          have hsD := hbel.size
          simp only [World.size_alloc] at hsD
          refine hK.out _ _ (hOld.out.trans (hbel.mono hOld.out.size)) (fun hHeld => ?_)
          clear hK K
          (try simp only [Act.put, List.setIfInBounds_toArray, List.set_cons_zero, List.set_cons_succ])
          refine wpPT_alt (by kernel_rfl) (fun K hK => ?_) ?_
          rotate_left
          · exact wpPT_stop
          have hOld := hide hHeld
          clear hHeld
          refine wp_storeC 71 (.tmp 7) (.tmp 23) rfl 13 nod_size wd.heap.size 0 71 rfl (nodC nod0 (.slice none 0 0) (.slice none 0 0)) (nodC N (.slice A1 n1 c1) (.slice C1 m1 d1)) rfl HBX.out rfl (by exact Nat.le_refl _) (nodC_one _ _ _ _ _ _ _) ?_
          intro w9 hr9 hg9 hs9
          rw [splice_all (nodC nod0 (.slice none 0 0) (.slice none 0 0)) (nodC N (.slice A1 n1 c1) (.slice C1 m1 d1)) rfl] at hr9
          refine hK.out _ _ (hOld.out.grown hg9 hOld.out.size (fun k hk => by have := Option.some.inj hk; omega)) (fun hHeld => ?_)
          clear hK K
          have HR7 := hide hr9
          have E9 := hide (E5.out.mono (fun b hb => hg9.block b (by unfold Under at hb; omega) (fun e => by have := Option.some.inj e; unfold Under at hb; omega)) (fun _ h => h))
          clear hr9 hg9 hs9
          (try simp only [Act.put])
          refine wpPT_leaf ?_
          have HBX' := hide hHeld
          clear hHeld hOld
          go_wp2_with fail
          go_meet
          case rel => exact ⟨wd.heap.size, A1, n1, c1, C1, m1, d1, rfl, HR7.out, E9.out, HBX'.out⟩
        exact wpPT_stop
      case rest =>
      obtain ⟨g7, A1, n1, c1, C1, m1, d1, rfl, hr7, hE, hbx⟩ := hcut
      have HR7 := hide hr7
      have HE := hide hE
      have HOX := hide (HO.out.below hbx)
      have HBX := hide (HBR.out.trans (hbx.mono hbsz))
      have hsx := hbx.size
      have R0x := hide (R0r.out.on hbx)
      have hg7 := hr7.lt
      have HEM := hide hE.1
      have hm16 : m1 ≤ 16 := by have := HEM.out; omega
      obtain ⟨bk, hbk⟩ : ∃ bk, (N.k == 1) = bk := ⟨_, rfl⟩
      have HELB := hide (show EL = if bk = true then N.ents else [] from by
        rw [HELN.out, ← hbk]
        by_cases hk : N.k = 1 <;> simp [hk])
      clear hr7 hE hbx
      go_wp2_with fail
      go_loopw [5, 8] (fun v5 v8 wr => ∃ (i n6 : Nat) (A6 : Option Addr) (c6 : Nat), i ≤ EL.length ∧ v8 = .int .i64 i ∧ v5 = .slice A6 n6 c6 ∧ n6 ≤ 16 * j + i ∧ Ow st wr W1.heap.size 9 A6 n6 c6 ((allN ls (l.take j) ++ (EL.take i).map EntV.name).filter (keepS ls l)) ∧ Below W1.heap.size W1 wr ∧ Below W1.heap.size wc wr ∧ RowL wr g7 71 (nodC N (.slice A1 n1 c1) (.slice C1 m1 d1)) ∧ wc.heap.size ≤ wr.heap.size) (fun _ v8 _ => m1 - (intOf v8).toNat)
      case atStart => exact ⟨0, n5, A5, c5, by omega, rfl, rfl, by omega, by simpa using HOX.out, HBX.out, Below.refl _ _, HR7.out, Nat.le_refl _⟩
      case round =>
        obtain ⟨i, n6, A6, c6, hi, rfl, rfl, hn6, ho6, hbi, hbc, hri, hsi⟩ := hrel
        have HO6 := hide ho6
        have HBI := hide hbi
        have HRI := hide hri
        have HBC := hide hbc
        have qs : wr.cell? ⟨g7, 5, none⟩ = some (.slice C1 m1 d1) := hri.cell 5
        have qk : wr.cell? ⟨g7, 0, none⟩ = some (.int .i64 N.k) := hri.cell 0
        have R0i := hide (show RowL wr w.heap.size 29 (stkC g (.slice AU nU cU) (.slice AL nL cL)) from (HBI.out.block w.heap.size (by have := R0.out.lt; exact this)).trans R0.out)
        have hE6 := HE.out.mono (fun b hb => HBC.out.block b (by unfold Under at hb; omega)) (fun _ h => h)
        have HE6 := hide (hE6 : RdE entEn wr (Under w.heap.size) C1 m1 N.ents)
        have hbis := hbi.size
        clear ho6 hbi hri hbc hE6
        by_cases hlt2 : i < EL.length
        · obtain rfl : bk = true := by
            cases bk with
            | true => rfl
            | false => rw [HELB.out] at hlt2; simp at hlt2
          have hELe : EL = N.ents := by rw [HELB.out]; simp
          obtain ⟨e, he⟩ : ∃ e, EL[i]? = some e := ⟨_, List.getElem?_eq_getElem hlt2⟩
          have he2 : N.ents[i]? = some e := by rw [← hELe]; exact he
          have hi1 : i < m1 := by rw [hELe] at hlt2; have := HEM.out; omega
          obtain ⟨bE, oE, rfl, hbE, hcE⟩ := ent_get HE6.out he2
          have hbE' : bE < wr.heap.size := by have : bE < w.heap.size := hbE; omega
          have qn : wr.cell? ⟨bE, oE + i * 3 + 2, none⟩ = some (.string ⟨e.name.toArray⟩) := hcE 2 _ rfl
          have HQM := hide (fun W (hb : Below wr.heap.size wr W) => show W.cell? ⟨bE, oE + i * 3 + 2, none⟩ = some (.string ⟨e.name.toArray⟩) from (hb.cell (p := ⟨bE, oE + i * 3 + 2, none⟩) hbE').trans qn)
          have HQE := hide (fun W (hb : Below wr.heap.size wr W) => show W.cell? ⟨g7, 5, none⟩ = some (.slice (some ⟨bE, oE, none⟩) m1 d1) from (HRI.out.on hb).cell 5)
          have HLI := hide (fun W (hb : Below wr.heap.size wr W) => HL.out.under (HBI.out.trans (hb.mono hbis)) hs1)
          have HPI := hide (fun W (hb : Below wr.heap.size wr W) => (HP.out.under (HBI.out.trans (hb.mono hbis)) hs1).mono (fun _ _ => rfl) (fun b hb' => Nat.lt_of_lt_of_le hb' (Nat.le_trans hs1 (Nat.le_trans hbis hb.size))))
          obtain ⟨R, hRR⟩ : ∃ R, findL ls e.name l [] = R := ⟨_, rfl⟩
          obtain ⟨b2, hb2⟩ : ∃ b2, (R.1 != 0) = b2 := ⟨_, rfl⟩
          have HKS := hide (keep_snoc (q := keepS ls l) he (allN ls (l.take j)) (b := b2) (by
            rw [← hb2, ← hRR]
            unfold keepS hidS
            by_cases hk : (findL ls e.name l []).1 = 0 <;> simp [hk]))
          have HRR := hide hRR
          have him : (i : Int) < (m1 : Int) := by omega
          clear he he2 hcE qn hRR hELe
          go_wp2_with fail
          clear qs qk
          refine wp_region_planN (fun w' => Below wr.heap.size wr w') [(0, true), (1, true), (2, true), (3, true), (4, true), (5, true), (6, true), (7, true), (8, false), (9, true), (10, true), (11, true), (12, true), (13, true)] (by kernel_rfl) (by kernel_rfl) (by kernel_rfl) (by kernel_rfl) rfl (fun _ _ _ _ _ h => h) (below_drew (below_self wr)) (fun hHeld => ?_)
          simp only [planOps, List.filterMap_cons, List.filterMap_nil, List.getElem?_toArray, List.getElem?_cons_succ, List.getElem?_cons_zero, Option.map_some]
          refine wpPlan_take (v := ?_) (by kernel_rfl) (fun wS hSw => ?_) ?_
          rotate_left
          · refine execOp_load (x := .tmp 2) (k := 6) (g := w.heap.size) (off := 0) (cs := stkC g (.slice AU nU cU) (.slice AL nL cL)) ?_ stk_agg stk_size ?_ (fun j' v hv => by rw [Nat.zero_add]; exact ((R0i.out.on hSw).cell j').trans hv) rfl <;> rfl
          (try simp only [Act.put, List.setIfInBounds_toArray, List.set_cons_zero, List.set_cons_succ])
          refine wpPlan_take (v := ?_) (by kernel_rfl) (fun wS hSw => ?_) ?_
          rotate_left
          · (try dsimp only at hSw); go_simp; (try with_reducible rfl)
          (try simp only [Act.put, List.setIfInBounds_toArray, List.set_cons_zero, List.set_cons_succ])
          refine wpPlan_take (v := ?_) (by kernel_rfl) (fun wS hSw => ?_) ?_
          rotate_left
          · (try dsimp only at hSw); go_simp; (try with_reducible rfl)
          (try simp only [Act.put, List.setIfInBounds_toArray, List.set_cons_zero, List.set_cons_succ])
          refine wpPlan_take (v := ?_) (by kernel_rfl) (fun wS hSw => ?_) ?_
          rotate_left
          · have qx := HQE.out wS hSw; go_simp; (try with_reducible rfl)
          (try simp only [Act.put, List.setIfInBounds_toArray, List.set_cons_zero, List.set_cons_succ])
          refine wpPlan_take (v := ?_) (by kernel_rfl) (fun wS hSw => ?_) ?_
          rotate_left
          · (try dsimp only at hSw); go_simp; (try with_reducible rfl)
          (try simp only [Act.put, List.setIfInBounds_toArray, List.set_cons_zero, List.set_cons_succ])
          refine wpPlan_take (v := ?_) (by kernel_rfl) (fun wS hSw => ?_) ?_
          rotate_left
          · (try dsimp only at hSw); go_simp; (try with_reducible rfl)
          (try simp only [Act.put, List.setIfInBounds_toArray, List.set_cons_zero, List.set_cons_succ])
          refine wpPlan_take (v := ?_) (by kernel_rfl) (fun wS hSw => ?_) ?_
          rotate_left
          · (try dsimp only at hSw); go_simp; (try with_reducible rfl)
          (try simp only [Act.put, List.setIfInBounds_toArray, List.set_cons_zero, List.set_cons_succ])
          refine wpPlan_take (v := ?_) (by kernel_rfl) (fun wS hSw => ?_) ?_
          rotate_left
          · have qx := HQM.out wS hSw; go_simp; (try with_reducible rfl)
          (try simp only [Act.put, List.setIfInBounds_toArray, List.set_cons_zero, List.set_cons_succ])
          refine wpPlan_call (by kernel_rfl) (fun K hK => ?_)
          have hOld := hide hHeld
          clear hHeld
          go_simp
          go_at_call 53
          refine (RFind_e HRR.out _ (HLI.out _ hOld.out) (HPI.out _ hOld.out) (by have := hOld.out.size; omega) HF.out hn).mono ?_
          rintro e w' ⟨A2, c2, rfl, hc2, hr2, hbel⟩
          clear hr2
          refine hK.out _ _ (hOld.out.trans (hbel.mono hOld.out.size)) (fun hHeld => ?_)
          clear hK K
          (try simp only [Act.put, List.setIfInBounds_toArray, List.set_cons_zero, List.set_cons_succ])
          refine wpPlan_take (v := ?_) (by kernel_rfl) (fun wS hSw => ?_) ?_
          rotate_left
          · (try dsimp only at hSw); go_simp; (try with_reducible rfl)
          (try simp only [Act.put, List.setIfInBounds_toArray, List.set_cons_zero, List.set_cons_succ])
          refine wpPlan_take (v := ?_) (by kernel_rfl) (fun wS hSw => ?_) ?_
          rotate_left
          · (try dsimp only at hSw); go_simp; (try with_reducible rfl)
          (try simp only [Act.put, List.setIfInBounds_toArray, List.set_cons_zero, List.set_cons_succ])
          refine wpPlan_take (v := ?_) (by kernel_rfl) (fun wS hSw => ?_) ?_
          rotate_left
          · (try dsimp only at hSw); go_simp; (try with_reducible rfl)
          (try simp only [Act.put, List.setIfInBounds_toArray, List.set_cons_zero, List.set_cons_succ])
          refine wpPlan_take (v := ?_) (by kernel_rfl) (fun wS hSw => ?_) ?_
          rotate_left
          · (try dsimp only at hSw); go_simp; (try with_reducible rfl)
          (try simp only [Act.put, List.setIfInBounds_toArray, List.set_cons_zero, List.set_cons_succ])
          refine wpPlan_take (v := ?_) (by kernel_rfl) (fun wS hSw => ?_) ?_
          rotate_left
          · (try dsimp only at hSw); go_simp; (try with_reducible rfl)
          (try simp only [Act.put, List.setIfInBounds_toArray, List.set_cons_zero, List.set_cons_succ])
          refine wpPlan_end ?_
          have HO7 := hide (HO6.out.below hHeld)
          have hr7' := HRI.out.on hHeld
          have qs' : w'.cell? ⟨g7, 5, none⟩ = some (.slice (some ⟨bE, oE, none⟩) m1 d1) := hr7'.cell 5
          have qn' := HQM.out w' hHeld
          have HR7' := hide hr7'
          have HBI' := hide (HBI.out.trans (hHeld.mono hbis))
          have HBC' := hide (HBC.out.trans (hHeld.mono (by omega)))
          have hsH := hHeld.size
          clear hHeld hr7'
          cases b2 with
          | false =>
            go_wp2_with fail
            go_roundw
            case rel => exact ⟨i + 1, n6, A6, c6, by omega, by go_num, rfl, by omega, by rw [HKS.out, if_neg (by simp)]; exact HO7.out, HBI'.out, HBC'.out, HR7'.out, by omega⟩
            case measure => simp [intOf]; omega
          | true =>
            go_wp2_with (at_builtin; refine wpList_append_Rd' (f := st) _ rfl (.tmp 50) (.tmp 57) 44 rfl W1.heap.size 9 _ 16 Tryz.underlying44 info_st rfl (fun _ => rfl) A6 n6 c6 _ rfl (HO7.out.below (below_new (below_self w') _)) _ _ 1 1 [e.name] rfl (Rd.one _ _ rfl) (n6 + 1) rfl (by omega) (by omega) (by simp; omega) ?_; intro A7 c7 w9 ho9 hb9 hg9; have HO9 := hide ho9; have hs9 := hb9.size; have HB9 := hide ((HBI'.out.alloc (by omega) _).trans hb9); have HBC9 := hide ((HBC'.out.alloc (by omega) _).trans hb9); have hba := below_new (below_self w') (.cells #[.string ⟨e.name.toArray⟩] 9); have HR9 := hide ((HR7'.out.on hba).grown hg9 (row_apart (HO7.out.below hba) (HR7'.out.on hba) (by decide))); clear ho9 hb9 hg9 hba)
            have hs9' : w'.heap.size ≤ w9.heap.size := by simp at hs9; omega
            go_roundw
            case rel => exact ⟨i + 1, n6 + 1, A7, c7, by omega, by go_num, rfl, by omega, by rw [HKS.out, if_pos (by simp)]; exact HO9.out, HB9.out, HBC9.out, HR9.out, by omega⟩
            case measure => simp [intOf]; omega
        · obtain rfl : i = EL.length := by omega
          have hfin : Ow st wr W1.heap.size 9 A6 n6 c6 ((allN ls (l.take (j + 1))).filter (keepS ls l)) := by
            rw [HSU.out, HEL.out]
            have := HO6.out
            rwa [List.take_of_length_le (l := EL) (i := EL.length) (Nat.le_refl _)] at this
          have hEl16 : EL.length ≤ 16 := by rw [← HEL.out]; exact entL_len HF.out p
          have HFIN := hide hfin
          clear hfin
          cases bk with
          | true =>
            have hELe : EL.length = m1 := by rw [← HEM.out, HELB.out]; simp
            rw [hELe]
            clear hELe
            go_wp2_with fail
            go_roundw
            case rel => exact ⟨j + 1, n6, A6, c6, by omega, by go_num, rfl, HFIN.out, HBI.out⟩
            case measure => simp [intOf]; omega
          | false =>
            have hELe : EL.length = 0 := by rw [HELB.out]; simp
            rw [hELe]
            clear hELe
            by_cases hm0 : 0 < m1
            · have hm0' : (0 : Int) < (m1 : Int) := by omega
              go_wp2_with fail
              go_roundw
              case rel => exact ⟨j + 1, n6, A6, c6, by omega, by go_num, rfl, HFIN.out, HBI.out⟩
              case measure => simp [intOf]; omega
            · obtain rfl : m1 = 0 := by omega
              go_wp2_with fail
              go_roundw
              case rel => exact ⟨j + 1, n6, A6, c6, by omega, by go_num, rfl, HFIN.out, HBI.out⟩
              case measure => simp [intOf]; omega
    · obtain rfl : j = n := by omega
      have ho := HO.out
      rw [List.take_of_length_le (by have := HPL.out; omega)] at ho
      have HOF := hide ho
      clear ho
      go_wp2_with fail
      refine (RSort_any wo HOF.out.rd (by omega)).mono ?_
      rintro ez w3 ⟨A3, c3, rfl, ho3, hb3⟩
      have HO3 := hide ho3
      have HB3 := hide (HB1.out.trans ((HBR.out.trans (hb3.mono hbsz)).mono hs1))
      clear hb3 ho3
      go_wp2_with fail
      go_ret
      exact ⟨A3, _, c3, rfl, HO3.out.rd, HB3.out⟩
end Go.Proofs.YtnehkgbdppbhiaaGreat

/- Roots, and the reference's (layer 16). -/
namespace Go.Proofs.YtnehkgbdppbhiaaGreat
open Go.RowKit Go.Shelf Plain

/-- The roots, from the layer j on. -/
def rootsL : List (List NodV) → Nat → List (Int × Int)
  | [], _ => []
  | ns :: r, j => if (nodAt ns 1).k = 1 then (if opq (nodAt ns 1) = true then [((j : Int) + 1, 1)] else ((j : Int) + 1, 1) :: rootsL r (j + 1)) else rootsL r (j + 1)
theorem low_get {ls : List (List NodV)} {j : Nat} {ns : List NodV} {i : Int} (h : ls[j]? = some ns) : lowAt ls ((j : Int) + 1) i = nodAt ns i := by
  have hj := (List.getElem?_eq_some_iff.1 h).1
  unfold lowAt
  rw [if_pos ⟨by omega, by omega⟩, show ((j : Int) + 1 - 1).toNat = j by omega, h]
  rfl
set_option maxRecDepth 100000 in
set_option maxHeartbeats 8000000 in
theorem Roots_f {g : GeoQ} {AU AL : Option Addr} {nU cU nL cL : Nat} {ls : List (List NodV)} (w : World) (h : RdE layEn w (Under w.heap.size) AL nL ls) (hF : FewL ls) :
    Calls Tryz.prog 56 #[.agg (stkC g (.slice AU nU cU) (.slice AL nL cL)).toArray] w (PlcsF w (rootsL ls 0)) := by
  have r0 := RowL.new w 29 (stkC g (.slice AU nU cU) (.slice AL nL cL))
  have hb1 := below_new (below_self w) (.cells (stkC g (.slice AU nU cU) (.slice AL nL cL)).toArray 29)
  obtain ⟨W1, hW1⟩ : ∃ W1, w.alloc (.cells (stkC g (.slice AU nU cU) (.slice AL nL cL)).toArray 29) = W1 := ⟨_, rfl⟩
  rw [hW1] at r0 hb1
  have hW1' : w.alloc (.cells #[.int .i64 g.a, .int .i64 g.b, .int .i64 g.c, .int .i64 g.d, .slice AU nU cU, .slice AL nL cL] 29) = W1 := hW1
  have q5 : W1.cell? ⟨w.heap.size, 5, none⟩ = some (.slice AL nL cL) := r0.cell 5
  have hm : ls.length ≤ 100 := by have := hF.1; omega
  have HM2 := hide (fun ns (hh : ns ∈ ls) => (show ns.length ≤ 1000 from Nat.le_trans (hF.2 ns hh).1 (by omega)))
  have R0 := hide r0
  have HB1 := hide hb1
  have hs1 := hb1.size
  have HL := hide (h.under hb1 (Nat.le_refl _))
  have hnL : nL ≤ 3 ∧ ls.length ≤ nL ∧ nL ≤ ls.length := by have := h.1; have := hF.1; omega
  have HF := hide hF
  obtain ⟨R, hR⟩ : ∃ R, rootsL ls 0 = R := ⟨_, rfl⟩
  rw [hR]
  have HR := hide hR
  have HO0 := hide (own_lit0 W1 36 2 (base := W1.heap.size) rfl (Nat.le_refl _))
  have HW0 := hide (below_new (below_self W1) (.cells #[] 36))
  unfold stkC
  clear r0 hb1 hW1 h hF hR
  go_enter Tryz.func56, Tryz.ntmps56
  go_wp2_with fail
  clear hW1' q5
  go_loopw [3, 10] (fun v3 v10 wr => ∃ (j : Nat) (acc : List (Int × Int)) (A : Option Addr) (c : Nat), j ≤ nL ∧ v10 = .int .i64 j ∧ v3 = .slice A acc.length c ∧ acc.length ≤ j ∧ wr.ownsRow W1.heap.size 36 2 (.slice A acc.length c) acc.length (flatR acc) ∧ Below W1.heap.size W1 wr ∧ acc ++ rootsL (ls.drop j) j = R) (fun v3 v10 _ => nL - (intOf v10).toNat)
  case atStart => exact ⟨0, [], none, 0, by omega, rfl, rfl, Nat.le_refl _, World.ownsRow_nil _ _ _ _, below_self _, by rw [List.drop_zero]; exact HR.out⟩
  case round =>
    obtain ⟨j, acc, A, c, hj, rfl, rfl, hal, ho, hbr, hfin⟩ := hrel
    have HO := hide ho
    have HBR := hide hbr
    have HFI := hide hfin
    have hbsz := hbr.size
    have R0r := hide (R0.out.on hbr)
    clear ho hbr hfin
    by_cases hlt : j < nL
    · obtain ⟨ns, hns⟩ : ∃ ns, ls[j]? = some ns := ⟨_, List.getElem?_eq_getElem (by omega)⟩
      obtain ⟨N, hN⟩ : ∃ N, nodAt ns 1 = N := ⟨_, rfl⟩
      have hLN : lowAt ls ((j : Int) + 1) 1 = N := (low_get hns).trans hN
      have hath := (low_plain HF.out ((j : Int) + 1) 1).2.2.1
      rw [hLN] at hath
      have HLN := hide hLN
      obtain ⟨bk, hbk⟩ : ∃ bk, (N.k != 1) = bk := ⟨_, rfl⟩
      obtain ⟨op, hop⟩ : ∃ op, opq N = op := ⟨_, rfl⟩
      have HMarked_b := hide hop
      have e := HFI.out
      have hjl := (List.getElem?_eq_some_iff.1 hns).1
      rw [List.drop_eq_getElem_cons hjl, (List.getElem?_eq_some_iff.1 hns).2] at e
      unfold rootsL at e
      rw [hN, hop] at e
      have HE := hide (show (if bk = false then (if op = true then acc ++ [((j : Int) + 1, 1)] else (acc ++ [((j : Int) + 1, 1)]) ++ rootsL (ls.drop (j + 1)) (j + 1)) else acc ++ rootsL (ls.drop (j + 1)) (j + 1)) = R from by
        rw [← e, ← hbk]
        by_cases hk : N.k = 1 <;> cases op <;> simp [hk])
      have HZP := hide (RowL.new wr 36 (prC (0, 0)))
      have hjn : (j : Int) < (nL : Int) := by omega
      have hj3 : (j : Int) + 1 ≤ (nL : Int) := by omega
      clear hns hN hLN hop e
      cases bk with
      | true =>
        go_wp2_with (first | (refine wpList_storeW rfl 36 (.tmp 5) (.tmp 15) rfl 2 plc_size wr.heap.size 36 rfl (prC (0, 0)) (prC ((j : Int) + 1, 1)) rfl HZP.out rfl rfl (prC_one _) ?_; intro w6 hr6 hg6 hs6; have hb6 := below_stored' hg6; have R6 := hide hr6; have HB6 := hide hb6; have R06 := hide (R0r.out.on hb6); have hs6l := hb6.size; clear hr6 hg6 hs6 hb6) | (refine wpList_loadW rfl 29 (.tmp 1) rfl 6 stk_agg stk_size w.heap.size 29 rfl (stkC g (.slice AU nU cU) (.slice AL nL cL)) R06.out rfl ?_) | (refine wpList_loadW rfl 36 (.tmp 5) rfl 2 plc_agg plc_size wr.heap.size 36 rfl (prC ((j : Int) + 1, 1)) R6.out rfl ?_) | (go_at_call 99; refine (NLower_e HLN.out w6 (HL.out.under (HBR.out.trans (HB6.out.mono hbsz)) hs1) (by omega) hm HM2.out).mono ?_; rintro ez w7 ⟨A1, n1, c1, C1, m1, d1, rfl, e2, e3, e4, e5, hb7⟩; have HB7 := hide (HB6.out.trans (hb7.mono hs6l)); have hs7l := hb7.size; have HZN := hide (RowL.new w7 71 (nodC nod0 (.slice none 0 0) (.slice none 0 0))); have R67 := hide (R6.out.on hb7); clear e3 e5 hb7) | (refine wpList_storeW rfl 71 (.tmp 6) (.tmp 18) rfl 13 nod_size w7.heap.size 71 rfl (nodC nod0 (.slice none 0 0) (.slice none 0 0)) (nodC N (.slice A1 n1 c1) (.slice C1 m1 d1)) rfl HZN.out rfl rfl (nodC_one _ _ _ _ _ _ _) ?_; intro w9 hr9 hg9 hs9; have hb9 := below_stored' hg9; have qk : w9.cell? ⟨w7.heap.size, 0, none⟩ = some (.int .i64 N.k) := hr9.cell 0; have HR6 := hide hr9; have HR5 := hide (R67.out.on hb9); have HB9 := hide (HB7.out.trans (hb9.mono (by omega))); have hs9l := HB9.out.size; clear hr9 hg9 hs9 hb9))
        go_roundw
        case rel => exact ⟨j + 1, acc, A, c, by omega, by go_num, rfl, by omega, ownsRow_below HO.out HB9.out, HBR.out.trans (HB9.out.mono hbsz), by have := HE.out; simpa using this⟩
        case measure => simp [intOf]; omega
      | false =>
        have HLEN := hide (show (acc ++ [((j : Int) + 1, (1 : Int))]).length = acc.length + 1 by simp)
        go_wp2_with (first | (refine wpList_storeW rfl 36 (.tmp 5) (.tmp 15) rfl 2 plc_size wr.heap.size 36 rfl (prC (0, 0)) (prC ((j : Int) + 1, 1)) rfl HZP.out rfl rfl (prC_one _) ?_; intro w6 hr6 hg6 hs6; have hb6 := below_stored' hg6; have R6 := hide hr6; have HB6 := hide hb6; have R06 := hide (R0r.out.on hb6); have hs6l := hb6.size; clear hr6 hg6 hs6 hb6) | (refine wpList_loadW rfl 29 (.tmp 1) rfl 6 stk_agg stk_size w.heap.size 29 rfl (stkC g (.slice AU nU cU) (.slice AL nL cL)) R06.out rfl ?_) | (refine wpList_loadW rfl 36 (.tmp 5) rfl 2 plc_agg plc_size wr.heap.size 36 rfl (prC ((j : Int) + 1, 1)) R6.out rfl ?_) | (go_at_call 99; refine (NLower_e HLN.out w6 (HL.out.under (HBR.out.trans (HB6.out.mono hbsz)) hs1) (by omega) hm HM2.out).mono ?_; rintro ez w7 ⟨A1, n1, c1, C1, m1, d1, rfl, e2, e3, e4, e5, hb7⟩; have HB7 := hide (HB6.out.trans (hb7.mono hs6l)); have hs7l := hb7.size; have HZN := hide (RowL.new w7 71 (nodC nod0 (.slice none 0 0) (.slice none 0 0))); have R67 := hide (R6.out.on hb7); clear e3 e5 hb7) | (refine wpList_storeW rfl 71 (.tmp 6) (.tmp 18) rfl 13 nod_size w7.heap.size 71 rfl (nodC nod0 (.slice none 0 0) (.slice none 0 0)) (nodC N (.slice A1 n1 c1) (.slice C1 m1 d1)) rfl HZN.out rfl rfl (nodC_one _ _ _ _ _ _ _) ?_; intro w9 hr9 hg9 hs9; have hb9 := below_stored' hg9; have qk : w9.cell? ⟨w7.heap.size, 0, none⟩ = some (.int .i64 N.k) := hr9.cell 0; have HR6 := hide hr9; have HR5 := hide (R67.out.on hb9); have HB9 := hide (HB7.out.trans (hb9.mono (by omega))); have hs9l := HB9.out.size; clear hr9 hg9 hs9 hb9) | (refine wpList_loadW rfl 36 (.tmp 5) rfl 2 plc_agg plc_size wr.heap.size 36 rfl (prC ((j : Int) + 1, 1)) HR5.out rfl ?_) | (refine wpList_litW rfl 30 (.tmp 23) rfl (.agg (prC ((j : Int) + 1, 1)).toArray) _ rfl (lit_plc ((j : Int) + 1, 1) w9) ?_; refine wpList_plain rfl fun K2 hK2 => ?_; go_loud (refine wp_appF w9 W1.heap.size _ rfl (.tmp 22) (.tmp 24) 30 36 rfl Tryz.underlying30 _ 2 16 plc_info rfl (by omega) (by omega) A acc.length c _ (prC ((j : Int) + 1, 1)) rfl (prC_one _) rfl (ownsRow_below HO.out HB9.out) rfl (by omega) (by omega) ?_); intro A5 c5 w10 ho10 hg10; refine hK2 _ _ ?_; clear hK2 K2; have HO10 := hide ho10; have hba := below_new (below_self w9) (.cells (prC ((j : Int) + 1, 1)).toArray 36); have hoa := ownsRow_below (ownsRow_below HO.out HB9.out) hba; have HR6b := hide ((HR6.out.on hba).grown hg10 (row_apart hoa (HR6.out.on hba) (by decide))); have HB10 := hide (((HBR.out.trans (HB9.out.mono hbsz)).trans (hba.mono (by omega))).grown hg10 (by have := hba.size; omega) (fun q hq => (own_block hoa q hq).1)); clear ho10 hg10 hba hoa) | (refine wpList_loadW rfl 71 (.tmp 6) rfl 13 nod_agg nod_size w7.heap.size 71 rfl (nodC N (.slice A1 n1 c1) (.slice C1 m1 d1)) HR6b.out rfl ?_))
        refine (Marked_b HMarked_b.out hath.1 hath.2 _).mono ?_
        rintro ez w11 ⟨rfl, hb11⟩
        have HO11 := hide (ownsRow_below HO10.out hb11)
        have HB11 := hide (HB10.out.trans (hb11.mono (by have := HB10.out.size; omega)))
        clear hb11
        cases op with
        | false =>
          go_wp2_with fail
          go_roundw
          case rel => exact ⟨j + 1, acc ++ [((j : Int) + 1, 1)], A5, c5, by omega, by go_num, by rw [HLEN.out], by rw [HLEN.out]; omega, by rw [HLEN.out, flatR_snoc]; exact HO11.out, HB11.out, by have := HE.out; simpa using this⟩
          case measure => simp [intOf]; omega
        | true =>
          have hE : R = acc ++ [((j : Int) + 1, 1)] := by have := HE.out.symm; simpa using this
          subst hE
          go_wp2_with fail
          rw [show acc.length + 1 = (acc ++ [((j : Int) + 1, (1 : Int))]).length from HLEN.out.symm]
          go_ret
          exact ⟨A5, c5, rfl, (pr_fresh (by rw [HLEN.out, flatR_snoc]; exact HO11.out) rfl).mono (fun _ _ => rfl) (fun b hb => ⟨Nat.le_trans hs1 hb.1, hb.2⟩), HB1.out.trans (HB11.out.mono hs1)⟩
    · obtain rfl : j = nL := by omega
      have e := HFI.out
      rw [List.drop_of_length_le (by omega)] at e
      unfold rootsL at e
      rw [List.append_nil] at e
      subst e
      go_wp2_with fail
      go_ret
      exact ⟨A, c, rfl, (pr_fresh HO.out rfl).mono (fun _ _ => rfl) (fun b hb => ⟨Nat.le_trans hs1 hb.1, hb.2⟩), HB1.out.trans (HBR.out.mono hs1)⟩
set_option maxRecDepth 100000 in
set_option maxHeartbeats 8000000 in
theorem RRoots_f {g : GeoQ} {AU AL : Option Addr} {nU cU nL cL : Nat} {ls : List (List NodV)} (w : World) (h : RdE layEn w (Under w.heap.size) AL nL ls) (hF : FewL ls) :
    Calls Tryz.prog 57 #[.agg (stkC g (.slice AU nU cU) (.slice AL nL cL)).toArray] w (PlcsF w (rootsL ls 0)) := by
  have r0 := RowL.new w 29 (stkC g (.slice AU nU cU) (.slice AL nL cL))
  have hb1 := below_new (below_self w) (.cells (stkC g (.slice AU nU cU) (.slice AL nL cL)).toArray 29)
  obtain ⟨W1, hW1⟩ : ∃ W1, w.alloc (.cells (stkC g (.slice AU nU cU) (.slice AL nL cL)).toArray 29) = W1 := ⟨_, rfl⟩
  rw [hW1] at r0 hb1
  have hW1' : w.alloc (.cells #[.int .i64 g.a, .int .i64 g.b, .int .i64 g.c, .int .i64 g.d, .slice AU nU cU, .slice AL nL cL] 29) = W1 := hW1
  have q5 : W1.cell? ⟨w.heap.size, 5, none⟩ = some (.slice AL nL cL) := r0.cell 5
  have hm : ls.length ≤ 100 := by have := hF.1; omega
  have HM2 := hide (fun ns (hh : ns ∈ ls) => (show ns.length ≤ 1000 from Nat.le_trans (hF.2 ns hh).1 (by omega)))
  have R0 := hide r0
  have HB1 := hide hb1
  have hs1 := hb1.size
  have HL := hide (h.under hb1 (Nat.le_refl _))
  have hnL : nL ≤ 3 ∧ ls.length ≤ nL ∧ nL ≤ ls.length := by have := h.1; have := hF.1; omega
  have HF := hide hF
  obtain ⟨R, hR⟩ : ∃ R, rootsL ls 0 = R := ⟨_, rfl⟩
  rw [hR]
  have HR := hide hR
  have HO0 := hide (own_lit0 W1 36 2 (base := W1.heap.size) rfl (Nat.le_refl _))
  have HW0 := hide (below_new (below_self W1) (.cells #[] 36))
  unfold stkC
  clear r0 hb1 hW1 h hF hR
  go_enter Tryz.func57, Tryz.ntmps57
  go_wp2_with fail
  clear hW1' q5
  go_loopw [3, 4] (fun v3 v4 wr => ∃ (j : Nat) (acc : List (Int × Int)) (A : Option Addr) (c : Nat), j ≤ nL ∧ v4 = .int .i64 ((j : Int) + 1) ∧ v3 = .slice A acc.length c ∧ acc.length ≤ j ∧ wr.ownsRow W1.heap.size 36 2 (.slice A acc.length c) acc.length (flatR acc) ∧ Below W1.heap.size W1 wr ∧ acc ++ rootsL (ls.drop j) j = R) (fun v3 v4 _ => nL + 1 - (intOf v4).toNat)
  case atStart => exact ⟨0, [], _, 0, by omega, rfl, rfl, Nat.le_refl _, HO0.out, HW0.out, by rw [List.drop_zero]; exact HR.out⟩
  case round =>
    obtain ⟨j, acc, A, c, hj, rfl, rfl, hal, ho, hbr, hfin⟩ := hrel
    have HO := hide ho
    have HBR := hide hbr
    have HFI := hide hfin
    have hbsz := hbr.size
    have R0r := hide (R0.out.on hbr)
    have q5 : wr.cell? ⟨w.heap.size, 5, none⟩ = some (.slice AL nL cL) := R0r.out.cell 5
    clear ho hbr hfin
    by_cases hlt : j < nL
    · obtain ⟨ns, hns⟩ : ∃ ns, ls[j]? = some ns := ⟨_, List.getElem?_eq_getElem (by omega)⟩
      obtain ⟨N, hN⟩ : ∃ N, nodAt ns 1 = N := ⟨_, rfl⟩
      have hLN : lowAt ls ((j : Int) + 1) 1 = N := (low_get hns).trans hN
      have hath := (low_plain HF.out ((j : Int) + 1) 1).2.2.1
      rw [hLN] at hath
      have HLN := hide hLN
      obtain ⟨bk, hbk⟩ : ∃ bk, (N.k == 1) = bk := ⟨_, rfl⟩
      obtain ⟨op, hop⟩ : ∃ op, opq N = op := ⟨_, rfl⟩
      have HROpq_b := hide hop
      have e := HFI.out
      have hjl := (List.getElem?_eq_some_iff.1 hns).1
      rw [List.drop_eq_getElem_cons hjl, (List.getElem?_eq_some_iff.1 hns).2] at e
      unfold rootsL at e
      rw [hN, hop] at e
      have HE := hide (show (if bk = true then (if op = true then acc ++ [((j : Int) + 1, 1)] else (acc ++ [((j : Int) + 1, 1)]) ++ rootsL (ls.drop (j + 1)) (j + 1)) else acc ++ rootsL (ls.drop (j + 1)) (j + 1)) = R from by
        rw [← e, ← hbk]
        by_cases hk : N.k = 1 <;> cases op <;> simp [hk])
      have HZP := hide (RowL.new wr 36 (prC (0, 0)))
      have hjn : (j : Int) < (nL : Int) := by omega
      have hj3 : (j : Int) + 1 ≤ (nL : Int) := by omega
      clear hns hN hLN hop e
      cases bk with
      | false =>
        go_wp2_with (first | (refine wpList_storeW rfl 36 (.tmp 5) (.tmp 16) rfl 2 plc_size wr.heap.size 36 rfl (prC (0, 0)) (prC ((j : Int) + 1, 1)) rfl HZP.out rfl rfl (prC_one _) ?_; intro w6 hr6 hg6 hs6; have hb6 := below_stored' hg6; have R6 := hide hr6; have HB6 := hide hb6; have R06 := hide (R0r.out.on hb6); have hs6l := hb6.size; clear hr6 hg6 hs6 hb6) | (refine wpList_loadW rfl 29 (.tmp 1) rfl 6 stk_agg stk_size w.heap.size 29 rfl (stkC g (.slice AU nU cU) (.slice AL nL cL)) R06.out rfl ?_) | (refine wpList_loadW rfl 36 (.tmp 5) rfl 2 plc_agg plc_size wr.heap.size 36 rfl (prC ((j : Int) + 1, 1)) R6.out rfl ?_) | (go_at_call 98; refine (RLower_e HLN.out w6 (HL.out.under (HBR.out.trans (HB6.out.mono hbsz)) hs1) (by omega) hm HM2.out).mono ?_; rintro ez w7 ⟨A1, n1, c1, C1, m1, d1, rfl, e2, e3, e4, e5, hb7⟩; have HB7 := hide (HB6.out.trans (hb7.mono hs6l)); have hs7l := hb7.size; have HZN := hide (RowL.new w7 71 (nodC nod0 (.slice none 0 0) (.slice none 0 0))); have R67 := hide (R6.out.on hb7); clear e3 e5 hb7) | (refine wpList_storeW rfl 71 (.tmp 6) (.tmp 19) rfl 13 nod_size w7.heap.size 71 rfl (nodC nod0 (.slice none 0 0) (.slice none 0 0)) (nodC N (.slice A1 n1 c1) (.slice C1 m1 d1)) rfl HZN.out rfl rfl (nodC_one _ _ _ _ _ _ _) ?_; intro w9 hr9 hg9 hs9; have hb9 := below_stored' hg9; have qk : w9.cell? ⟨w7.heap.size, 0, none⟩ = some (.int .i64 N.k) := hr9.cell 0; have HR6 := hide hr9; have HR5 := hide (R67.out.on hb9); have HB9 := hide (HB7.out.trans (hb9.mono (by omega))); have hs9l := HB9.out.size; clear hr9 hg9 hs9 hb9))
        go_roundw
        case rel => exact ⟨j + 1, acc, A, c, by omega, by go_num, rfl, by omega, ownsRow_below HO.out HB9.out, HBR.out.trans (HB9.out.mono hbsz), by have := HE.out; simpa using this⟩
        case measure => simp [intOf]; omega
      | true =>
        have HLEN := hide (show (acc ++ [((j : Int) + 1, (1 : Int))]).length = acc.length + 1 by simp)
        go_wp2_with (first | (refine wpList_storeW rfl 36 (.tmp 5) (.tmp 16) rfl 2 plc_size wr.heap.size 36 rfl (prC (0, 0)) (prC ((j : Int) + 1, 1)) rfl HZP.out rfl rfl (prC_one _) ?_; intro w6 hr6 hg6 hs6; have hb6 := below_stored' hg6; have R6 := hide hr6; have HB6 := hide hb6; have R06 := hide (R0r.out.on hb6); have hs6l := hb6.size; clear hr6 hg6 hs6 hb6) | (refine wpList_loadW rfl 29 (.tmp 1) rfl 6 stk_agg stk_size w.heap.size 29 rfl (stkC g (.slice AU nU cU) (.slice AL nL cL)) R06.out rfl ?_) | (refine wpList_loadW rfl 36 (.tmp 5) rfl 2 plc_agg plc_size wr.heap.size 36 rfl (prC ((j : Int) + 1, 1)) R6.out rfl ?_) | (go_at_call 98; refine (RLower_e HLN.out w6 (HL.out.under (HBR.out.trans (HB6.out.mono hbsz)) hs1) (by omega) hm HM2.out).mono ?_; rintro ez w7 ⟨A1, n1, c1, C1, m1, d1, rfl, e2, e3, e4, e5, hb7⟩; have HB7 := hide (HB6.out.trans (hb7.mono hs6l)); have hs7l := hb7.size; have HZN := hide (RowL.new w7 71 (nodC nod0 (.slice none 0 0) (.slice none 0 0))); have R67 := hide (R6.out.on hb7); clear e3 e5 hb7) | (refine wpList_storeW rfl 71 (.tmp 6) (.tmp 19) rfl 13 nod_size w7.heap.size 71 rfl (nodC nod0 (.slice none 0 0) (.slice none 0 0)) (nodC N (.slice A1 n1 c1) (.slice C1 m1 d1)) rfl HZN.out rfl rfl (nodC_one _ _ _ _ _ _ _) ?_; intro w9 hr9 hg9 hs9; have hb9 := below_stored' hg9; have qk : w9.cell? ⟨w7.heap.size, 0, none⟩ = some (.int .i64 N.k) := hr9.cell 0; have HR6 := hide hr9; have HR5 := hide (R67.out.on hb9); have HB9 := hide (HB7.out.trans (hb9.mono (by omega))); have hs9l := HB9.out.size; clear hr9 hg9 hs9 hb9) | (refine wpList_loadW rfl 36 (.tmp 5) rfl 2 plc_agg plc_size wr.heap.size 36 rfl (prC ((j : Int) + 1, 1)) HR5.out rfl ?_) | (refine wpList_litW rfl 30 (.tmp 24) rfl (.agg (prC ((j : Int) + 1, 1)).toArray) _ rfl (lit_plc ((j : Int) + 1, 1) w9) ?_; refine wpList_plain rfl fun K2 hK2 => ?_; go_loud (refine wp_appF w9 W1.heap.size _ rfl (.tmp 23) (.tmp 25) 30 36 rfl Tryz.underlying30 _ 2 16 plc_info rfl (by omega) (by omega) A acc.length c _ (prC ((j : Int) + 1, 1)) rfl (prC_one _) rfl (ownsRow_below HO.out HB9.out) rfl (by omega) (by omega) ?_); intro A5 c5 w10 ho10 hg10; refine hK2 _ _ ?_; clear hK2 K2; have HO10 := hide ho10; have hba := below_new (below_self w9) (.cells (prC ((j : Int) + 1, 1)).toArray 36); have hoa := ownsRow_below (ownsRow_below HO.out HB9.out) hba; have HR6b := hide ((HR6.out.on hba).grown hg10 (row_apart hoa (HR6.out.on hba) (by decide))); have HB10 := hide (((HBR.out.trans (HB9.out.mono hbsz)).trans (hba.mono (by omega))).grown hg10 (by have := hba.size; omega) (fun q hq => (own_block hoa q hq).1)); clear ho10 hg10 hba hoa) | (refine wpList_loadW rfl 71 (.tmp 6) rfl 13 nod_agg nod_size w7.heap.size 71 rfl (nodC N (.slice A1 n1 c1) (.slice C1 m1 d1)) HR6b.out rfl ?_))
        refine (ROpq_b HROpq_b.out hath.1 hath.2 _).mono ?_
        rintro ez w11 ⟨rfl, hb11⟩
        have HO11 := hide (ownsRow_below HO10.out hb11)
        have HB11 := hide (HB10.out.trans (hb11.mono (by have := HB10.out.size; omega)))
        clear hb11
        cases op with
        | false =>
          go_wp2_with fail
          go_roundw
          case rel => exact ⟨j + 1, acc ++ [((j : Int) + 1, 1)], A5, c5, by omega, by go_num, by rw [HLEN.out], by rw [HLEN.out]; omega, by rw [HLEN.out, flatR_snoc]; exact HO11.out, HB11.out, by have := HE.out; simpa using this⟩
          case measure => simp [intOf]; omega
        | true =>
          have hE : R = acc ++ [((j : Int) + 1, 1)] := by have := HE.out.symm; simpa using this
          subst hE
          go_wp2_with fail
          rw [show acc.length + 1 = (acc ++ [((j : Int) + 1, (1 : Int))]).length from HLEN.out.symm]
          go_ret
          exact ⟨A5, c5, rfl, (pr_fresh (by rw [HLEN.out, flatR_snoc]; exact HO11.out) rfl).mono (fun _ _ => rfl) (fun b hb => ⟨Nat.le_trans hs1 hb.1, hb.2⟩), HB1.out.trans (HB11.out.mono hs1)⟩
    · obtain rfl : j = nL := by omega
      have e := HFI.out
      rw [List.drop_of_length_le (by omega)] at e
      unfold rootsL at e
      rw [List.append_nil] at e
      subst e
      have hjn : ¬ ((j : Int) + 1 ≤ (j : Int)) := by omega
      go_wp2_with fail
      go_ret
      exact ⟨A, c, rfl, (pr_fresh HO.out rfl).mono (fun _ _ => rfl) (fun b hb => ⟨Nat.le_trans hs1 hb.1, hb.2⟩), HB1.out.trans (HBR.out.mono hs1)⟩
theorem Roots_any {g : GeoQ} {AU AL : Option Addr} {nU cU nL cL : Nat} {ls : List (List NodV)} (w : World) (h : RdE layEn w (Under w.heap.size) AL nL ls) (hF : FewL ls) :
    Calls Tryz.prog 56 #[.agg (stkC g (.slice AU nU cU) (.slice AL nL cL)).toArray] w (PlcsRet w (rootsL ls 0)) := (Roots_f w h hF).mono fun _ _ h => h.weak
theorem RRoots_any {g : GeoQ} {AU AL : Option Addr} {nU cU nL cL : Nat} {ls : List (List NodV)} (w : World) (h : RdE layEn w (Under w.heap.size) AL nL ls) (hF : FewL ls) :
    Calls Tryz.prog 57 #[.agg (stkC g (.slice AU nU cU) (.slice AL nL cL)).toArray] w (PlcsRet w (rootsL ls 0)) := (RRoots_f w h hF).mono fun _ _ h => h.weak
end Go.Proofs.YtnehkgbdppbhiaaGreat

/- How long are lists of lower directories (layer 16). -/
namespace Go.Proofs.YtnehkgbdppbhiaaGreat
open Go.RowKit Go.Shelf Plain

theorem rootsL_len : ∀ (ls : List (List NodV)) (j : Nat), (rootsL ls j).length ≤ ls.length
  | [], j => by simp [rootsL]
  | ns :: r, j => by
    have := rootsL_len r (j + 1)
    unfold rootsL
    split
    · split <;> simp <;> omega
    · simp; omega
theorem lookL_len (ls : List (List NodV)) : ∀ (l : List (Int × Int)) (ns : List (List UInt8)), ((lookL ls l ns).getD []).length ≤ l.length
  | l, [] => by simp [lookL]
  | l, x :: r => by
    unfold lookL
    have h1 := findL_len ls x l []
    split
    · have := lookL_len ls (findL ls x l []).2 r
      simp at h1
      omega
    · simp
theorem Look_e {g : GeoQ} {AU AL AP AN : Option Addr} {nU cU nL cL n cP m cN : Nat} {ls : List (List NodV)} {l : List (Int × Int)} {names : List (List UInt8)} {B : Nat} {o : Option (List (Int × Int))} (ho : lookL ls l names = o) (w : World) (h : RdE layEn w (Under B) AL nL ls) (hp : RdE prEn w (Under w.heap.size) AP n l) (hs : Rd st w w.heap.size AN m names) (hB : B ≤ w.heap.size) (hF : FewL ls) (hn : n ≤ 1000) (hm1 : m ≤ 1000) :
    Calls Tryz.prog 103 #[.agg (stkC g (.slice AU nU cU) (.slice AL nL cL)).toArray, .slice AP n cP, .slice AN m cN] w (LookRet w o) := by rw [← ho]; exact Look_any w h hp hs hB hF hn hm1
theorem RLook_e {g : GeoQ} {AU AL AP AN : Option Addr} {nU cU nL cL n cP m cN : Nat} {ls : List (List NodV)} {l : List (Int × Int)} {names : List (List UInt8)} {B : Nat} {o : Option (List (Int × Int))} (ho : lookL ls l names = o) (w : World) (h : RdE layEn w (Under B) AL nL ls) (hp : RdE prEn w (Under w.heap.size) AP n l) (hs : Rd st w w.heap.size AN m names) (hB : B ≤ w.heap.size) (hF : FewL ls) (hn : n ≤ 1000) (hm1 : m ≤ 1000) :
    Calls Tryz.prog 61 #[.agg (stkC g (.slice AU nU cU) (.slice AL nL cL)).toArray, .slice AP n cP, .slice AN m cN] w (LookRet w o) := by rw [← ho]; exact RLook_any w h hp hs hB hF hn hm1
end Go.Proofs.YtnehkgbdppbhiaaGreat

/- The plain mathematics of paths (layer 4). Nothing here speaks of a program. -/
namespace Go.Proofs.YtnehkgbdppbhiaaGreat.Plain
def stepJ (s : List UInt8 × Bool) (x : List UInt8) : List UInt8 × Bool := ((if s.2 = true then s.1 else s.1 ++ [47]) ++ x, false)
/-- The path of names. -/
def joinS (l : List (List UInt8)) : List UInt8 := (l.foldl stepJ ([47], true)).1
/-- How many bytes texts have, and one more each. -/
def totL (l : List (List UInt8)) : Nat := (l.map fun x => x.length + 1).sum
theorem totL_snoc (l : List (List UInt8)) (x : List UInt8) : totL (l ++ [x]) = totL l + (x.length + 1) := by simp [totL]
theorem totL_append (a b : List (List UInt8)) : totL (a ++ b) = totL a + totL b := by simp [totL]
theorem totL_take (l : List (List UInt8)) (k : Nat) : totL (l.take k) ≤ totL l := by
  have h := totL_append (l.take k) (l.drop k)
  rw [List.take_append_drop] at h
  omega
theorem flagJ (l : List (List UInt8)) : (l.foldl stepJ ([47], true)).2 = decide (l.length = 0) := by
  suffices h : ∀ (l : List (List UInt8)) (s : List UInt8 × Bool), (l.foldl stepJ s).2 = (s.2 && decide (l.length = 0)) from by rw [h]; simp
  intro l
  induction l with
  | nil => intro s; simp
  | cons x r ih => intro s; rw [List.foldl_cons, ih]; simp [stepJ]
theorem joinS_snoc (l : List (List UInt8)) (x : List UInt8) : joinS (l ++ [x]) = (if l.length = 0 then joinS l else joinS l ++ [47]) ++ x := by
  unfold joinS
  rw [List.foldl_append, List.foldl_cons, List.foldl_nil]
  show (if (l.foldl stepJ ([47], true)).2 = true then _ else _) ++ x = _
  rw [flagJ]
  simp
theorem joinS_length (l : List (List UInt8)) : (joinS l).length ≤ 1 + totL l := by
  suffices h : ∀ (l : List (List UInt8)) (s : List UInt8 × Bool), ((l.foldl stepJ s).1).length ≤ s.1.length + totL l from h l ([47], true)
  intro l
  induction l with
  | nil => intro s; simp
  | cons x r ih =>
    intro s
    rw [List.foldl_cons]
    have h1 := ih (stepJ s x)
    have h2 : (stepJ s x).1.length ≤ s.1.length + (x.length + 1) := by
      unfold stepJ
      simp only [List.length_append]
      split <;> simp <;> omega
    have h3 : totL (x :: r) = (x.length + 1) + totL r := by simp [totL]
    omega
/-- One byte more of a path: a stroke begins a part, others go behind the last one. -/
def stepP (o : List (List UInt8)) (c : UInt8) : List (List UInt8) := if c = 47 then o ++ [[]] else o.set (o.length - 1) (o.getD (o.length - 1) [] ++ [c])
/-- The parts of the first j bytes, the first one of which is a stroke. -/
def partsTo (s : List UInt8) (j : Nat) : List (List UInt8) := ((s.take j).drop 1).foldl stepP [[]]
/-- What stands between strokes behind the first one. -/
def partsS (s : List UInt8) : List (List UInt8) := (s.drop 1).foldl stepP [[]]
theorem partsTo_one (s : List UInt8) : partsTo s 1 = [[]] := by
  unfold partsTo
  rw [List.drop_eq_nil_of_le (by rw [List.length_take]; omega)]
  rfl
theorem partsTo_succ {s : List UInt8} {j : Nat} (h1 : 1 ≤ j) (h : j < s.length) : partsTo s (j + 1) = stepP (partsTo s j) s[j] := by
  unfold partsTo
  rw [List.take_succ_eq_append_getElem h, List.drop_append_of_le_length (by rw [List.length_take]; omega), List.foldl_append]
  rfl
theorem partsTo_all {s : List UInt8} {j : Nat} (h : s.length ≤ j) : partsTo s j = partsS s := by
  unfold partsTo partsS
  rw [List.take_of_length_le h]
theorem stepP_length (o : List (List UInt8)) (c : UInt8) : (stepP o c).length = if c = 47 then o.length + 1 else o.length := by
  unfold stepP
  split <;> simp
theorem partsTo_len (s : List UInt8) (j : Nat) : 1 ≤ (partsTo s j).length ∧ (partsTo s j).length ≤ 1 + j ∧ ∀ y ∈ partsTo s j, y.length ≤ j := by
  unfold partsTo
  suffices h : ∀ (r : List UInt8) (o : List (List UInt8)) (b : Nat), 1 ≤ o.length → (∀ y ∈ o, y.length ≤ b) →
      1 ≤ (r.foldl stepP o).length ∧ (r.foldl stepP o).length ≤ o.length + r.length ∧ ∀ y ∈ r.foldl stepP o, y.length ≤ b + r.length by
    have hl : ((s.take j).drop 1).length ≤ j := by simp; omega
    obtain ⟨h1, h2, h3⟩ := h ((s.take j).drop 1) [[]] 0 (by simp) (by simp)
    refine ⟨h1, by simp only [List.length_singleton] at h2; omega, fun y hy => ?_⟩
    have := h3 y hy
    omega
  intro r
  induction r with
  | nil => intro o b h1 h2; exact ⟨h1, by simp, fun y hy => by have := h2 y hy; simpa using this⟩
  | cons c r ih =>
    intro o b h1 h2
    rw [List.foldl_cons]
    have h3 : ∀ y ∈ stepP o c, y.length ≤ b + 1 := by
      intro y hy
      unfold stepP at hy
      split at hy
      · rw [List.mem_append] at hy
        rcases hy with hy | hy
        · have := h2 y hy; omega
        · simp at hy; subst hy; simp
      · rcases List.mem_or_eq_of_mem_set hy with hy | hy
        · have := h2 y hy; omega
        · subst hy
          have hm : o.getD (o.length - 1) [] ∈ o := by
            simp only [List.getD]
            rw [List.getElem?_eq_getElem (by omega)]
            exact List.getElem_mem (by omega)
          have := h2 _ hm
          rw [List.length_append, List.length_singleton]
          omega
    have h4 := stepP_length o c
    obtain ⟨a1, a2, a3⟩ := ih (stepP o c) (b + 1) (by rw [h4]; split <;> omega) h3
    refine ⟨a1, ?_, fun y hy => ?_⟩
    · rw [List.length_cons]
      have : (stepP o c).length ≤ o.length + 1 := by rw [h4]; split <;> omega
      omega
    · have := a3 y hy
      rw [List.length_cons]
      omega
theorem partsS_len (s : List UInt8) : (partsS s).length ≤ 1 + s.length ∧ ∀ y ∈ partsS s, y.length ≤ s.length := by
  have h := partsTo_len s s.length
  rw [partsTo_all (Nat.le_refl _)] at h
  exact h.2
/-- Does a text begin with a stroke? -/
def headB (s : List UInt8) : Bool := match s with | [] => false | c :: _ => c == 47
/-- Is it a path of names? -/
def splitB (s : List UInt8) : Bool := s == [47] || (headB s && (partsS s).all nameB)
/-- Its names. -/
def splitS (s : List UInt8) : List (List UInt8) := if s = [47] then [] else if (headB s && (partsS s).all nameB) = true then partsS s else []
/-- One part more. -/
def stepC (o : Option (List (List UInt8))) (y : List UInt8) : Option (List (List UInt8)) :=
  match o with
  | none => none
  | some o => if y = [] ∨ y = [46] then some o else if y = [46, 46] then (if o = [] then none else some o.dropLast) else if nameB y = true then some (o ++ [y]) else none
/-- What is left of parts. -/
def leftS (l : List (List UInt8)) : Option (List (List UInt8)) := l.foldl stepC (some [])
theorem leftS_snoc (l : List (List UInt8)) (y : List UInt8) : leftS (l ++ [y]) = stepC (leftS l) y := by simp [leftS]
theorem leftS_none {l r : List (List UInt8)} (h : leftS l = none) : leftS (l ++ r) = none := by
  unfold leftS at h ⊢
  rw [List.foldl_append, h]
  induction r with
  | nil => rfl
  | cons y r ih => rw [List.foldl_cons]; exact ih
/-- Is there a path without what is needless? -/
def cleanB (s : List UInt8) : Bool := headB s && (leftS (partsS s)).isSome
/-- A path without what is needless. -/
def cleanS (s : List UInt8) : List UInt8 := if headB s = true then (match leftS (partsS s) with | none => [] | some o => joinS o) else []
theorem leftS_len (l : List (List UInt8)) : ∀ o, leftS l = some o → o.length ≤ l.length ∧ totL o ≤ totL l := by
  suffices h : ∀ (l : List (List UInt8)) (o0 : List (List UInt8)), ∀ o, l.foldl stepC (some o0) = some o → o.length ≤ o0.length + l.length ∧ totL o ≤ totL o0 + totL l by
    intro o ho
    have := h l [] o ho
    simpa [totL] using this
  intro l
  induction l with
  | nil => intro o0 o ho; cases ho; exact ⟨Nat.le_refl _, Nat.le_refl _⟩
  | cons y r ih =>
    intro o0 o ho
    rw [List.foldl_cons] at ho
    have hy : totL (y :: r) = (y.length + 1) + totL r := by simp [totL]
    rw [hy, List.length_cons]
    unfold stepC at ho
    simp only at ho
    split at ho
    · have := ih _ _ ho; omega
    · split at ho
      · split at ho
        · exfalso
          clear ih hy
          induction r with
          | nil => cases ho
          | cons z r ih2 => exact ih2 ho
        · have h1 := ih _ _ ho
          have h2 : totL o0.dropLast ≤ totL o0 := by rw [List.dropLast_eq_take]; exact totL_take _ _
          rw [List.length_dropLast] at h1
          omega
      · split at ho
        · have h1 := ih _ _ ho
          rw [totL_snoc, List.length_append, List.length_singleton] at h1
          omega
        · exfalso
          clear ih hy
          induction r with
          | nil => cases ho
          | cons z r ih2 => exact ih2 ho
theorem totL_le {l : List (List UInt8)} {b : Nat} (h : ∀ y ∈ l, y.length ≤ b) : totL l ≤ l.length * (b + 1) := by
  induction l with
  | nil => simp [totL]
  | cons y r ih =>
    have h1 := ih (fun z hz => h z (List.mem_cons_of_mem _ hz))
    have h2 := h y (List.mem_cons_self)
    have : totL (y :: r) = (y.length + 1) + totL r := by simp [totL]
    rw [this, List.length_cons, Nat.add_mul]
    omega
theorem leftS_stop {l : List (List UInt8)} {k : Nat} (hk : k < l.length) (h : stepC (leftS (l.take k)) l[k] = none) : leftS l = none := by
  have e : leftS (l.take (k + 1)) = none := by rw [List.take_succ_eq_append_getElem hk, leftS_snoc]; exact h
  have := leftS_none (r := l.drop (k + 1)) e
  rwa [List.take_append_drop] at this
/-- The names of a redirect; whether it is absolute; whether it is one. -/
def redL (s : List UInt8) : List (List UInt8) := if 24 < s.length then [] else if headB s = true then splitS s else if nameB s = true then [s] else []
def redA (s : List UInt8) : Bool := if 24 < s.length then false else if headB s = true then splitB s else false
def redB (s : List UInt8) : Bool := if 24 < s.length then false else if headB s = true then splitB s else nameB s
end Go.Proofs.YtnehkgbdppbhiaaGreat.Plain

/- Directories of the upper layer with those beneath them: the mathematics (layer 17). Nothing here speaks of a program. -/
namespace Go.Proofs.YtnehkgbdppbhiaaGreat
open Go.RowKit Plain

/-- Is a node an opaque directory? -/
def opqD (x : NodV) : Bool := decide (x.k = 1) && opq x
/-- A directory as it is shown: the upper one, and the lower ones. -/
abbrev ViewV := Int × List (Int × Int)
/-- The lower directories that a name leads to. -/
def benV (ls : List (List NodV)) (vl : List (Int × Int)) (nm : List UInt8) : List (Int × Int) := if (findL ls nm vl []).1 = 1 then (findL ls nm vl []).2 else []
def rootV (up : List NodV) (ls : List (List NodV)) : ViewV := (if (nodAt up 1).k = 1 then 1 else 0, if opqD (nodAt up 1) = true then [] else rootsL ls 0)
/-- Where a redirect leads. -/
def redV (ls : List (List NodV)) (vl : List (Int × Int)) (r : List UInt8) : List (Int × Int) := if redB r = true then (if redA r = true then (lookL ls (rootsL ls 0) (redL r)).getD [] else benV ls vl ((redL r).headD [])) else []
def hasR (x : NodV) : Bool := decide (x.att.h / 2 % 2 = 1)
/-- The lower part of an upper directory. -/
def partV (up : List NodV) (ls : List (List NodV)) (vl : List (Int × Int)) (i : Int) (nm : List UInt8) : List (Int × Int) := if (nodAt up i).k = 1 then (if opq (nodAt up i) = true then [] else if hasR (nodAt up i) = true then redV ls vl (nodAt up i).att.r else benV ls vl nm) else []
abbrev StepV := Int × ViewV × (Int × Int)
def noStep : StepV := (0, (0, []), (0, 0))
def lowStep (ls : List (List NodV)) (vl : List (Int × Int)) (nm : List UInt8) : StepV := if (findL ls nm vl []).1 = 0 then noStep else if (findL ls nm vl []).1 = 1 then (1, (0, (findL ls nm vl []).2), (findL ls nm vl []).2.headD (0, 0)) else ((findL ls nm vl []).1, (0, []), (findL ls nm vl []).2.headD (0, 0))
def upStep (up : List NodV) (ls : List (List NodV)) (vl : List (Int × Int)) (nm : List UInt8) (e : EntV) : StepV := if (nodAt up e.ino).k = 1 then (1, (e.ino, partV up ls vl e.ino nm), (0, e.ino)) else if (nodAt up e.ino).k = 4 then noStep else ((nodAt up e.ino).k, (0, []), (0, e.ino))
/-- What a name shows. -/
def stepV (up : List NodV) (ls : List (List NodV)) (v : ViewV) (nm : List UInt8) : StepV := match firstB up v.1 nm with
  | some e => upStep up ls v.2 nm e
  | none => lowStep ls v.2 nm
/-- All names by which a directory may show something. -/
def allV (up : List NodV) (ls : List (List NodV)) (v : ViewV) : List (List UInt8) := namesL ls v.2 ++ (entB up v.1).map EntV.name
def hidV (up : List NodV) (ls : List (List NodV)) (v : ViewV) (nm : List UInt8) : Bool := decide ((stepV up ls v nm).1 = 0)
def namesV (up : List NodV) (ls : List (List NodV)) (v : ViewV) : List (List UInt8) := (sortS (allV up ls v)).filter (fun x => !hidV up ls v x)
/-- The view of a directory that was come to. -/
def wayView (up : List NodV) (ls : List (List NodV)) (vs : List ViewV) (x : WayV) : ViewV := if x.up < 0 then rootV up ls else (x.ino, partV up ls ((vs[x.up.toNat]?).getD (0, [])).2 x.ino x.name)
def treeV (up : List NodV) (ls : List (List NodV)) (l : List WayV) : List ViewV := l.foldl (fun vs x => vs ++ [wayView up ls vs x]) []
theorem entB_len {ns : List NodV} (h : ∀ x ∈ ns, PlainN x) (i : Int) : (entB ns i).length ≤ 16 := by
  unfold entB
  split
  · exact (nodAt_plain h i).2.2.2.2.1
  · simp
theorem benV_len (ls : List (List NodV)) (vl : List (Int × Int)) (nm : List UInt8) : (benV ls vl nm).length ≤ vl.length := by
  unfold benV
  have := findL_len ls nm vl []
  split
  · simpa using this
  · simp
theorem partV_len (up : List NodV) (ls : List (List NodV)) (vl : List (Int × Int)) (i : Int) (nm : List UInt8) : (partV up ls vl i nm).length ≤ max ls.length vl.length := by
  unfold partV redV
  have h1 := benV_len ls vl nm
  have h2 := benV_len ls vl ((redL (nodAt up i).att.r).headD [])
  have h3 := lookL_len ls (rootsL ls 0) (redL (nodAt up i).att.r)
  have h4 := rootsL_len ls 0
  (repeat' split) <;> (first | (simp; done) | omega)
theorem stepV_len (up : List NodV) (ls : List (List NodV)) (v : ViewV) (nm : List UInt8) : (stepV up ls v nm).2.1.2.length ≤ max ls.length v.2.length := by
  unfold stepV
  split
  · rename_i e _
    have := partV_len up ls v.2 e.ino nm
    unfold upStep noStep
    (repeat' split) <;> (first | (simp; done) | exact this)
  · have := findL_len ls nm v.2 []
    unfold lowStep noStep
    (repeat' split) <;> (first | (simp; done) | (simp at this ⊢; omega))
/-- A redirect that is not absolute is one name. -/
theorem red_one {r : List UInt8} (h1 : redB r = true) (h2 : redA r = false) : redL r = [r] := by
  unfold redB at h1
  unfold redA at h2
  unfold redL
  split
  · rename_i h
    rw [if_pos h] at h1
    simp at h1
  · rename_i h
    rw [if_neg h] at h1 h2
    by_cases hh : headB r = true
    · rw [if_pos hh] at h1 h2
      rw [h1] at h2
      simp at h2
    · rw [if_neg hh] at h1 ⊢
      rw [if_pos h1]
theorem redL_len (r : List UInt8) : (redL r).length ≤ 25 := by
  unfold redL
  split
  · simp
  · split
    · have := (partsS_len r).1
      unfold splitS
      split
      · simp
      · split
        · omega
        · simp
    · split <;> simp
end Go.Proofs.YtnehkgbdppbhiaaGreat

/- Words for walks that a program writes (walk.py): facts of new memory, moved; a store of one cell. -/
namespace Go.Proofs.YtnehkgbdppbhiaaGreat
open Go.RowKit Go.Shelf Plain

theorem fr_on {α : Type} {E : Enc α} {w w' : World} {lo : Nat} {A : Option Addr} {n : Nat} {l : List α} (h : RdE E w (fun b => lo ≤ b ∧ b < w.heap.size) A n l) (hb : Below w.heap.size w w') : RdE E w' (fun b => lo ≤ b ∧ b < w'.heap.size) A n l :=
  h.mono (Kept.of_below hb fun _ h => h.2) fun _ h => ⟨h.1, Nat.lt_of_lt_of_le h.2 hb.size⟩
theorem fr_grown {α : Type} {E : Enc α} {w w' : World} {lo g : Nat} {A : Option Addr} {n : Nat} {l : List α} (h : RdE E w (fun b => lo ≤ b ∧ b < w.heap.size) A n l) (hg : w.grownBy w' (some g)) (hlo : g < lo) : RdE E w' (fun b => lo ≤ b ∧ b < w'.heap.size) A n l :=
  h.mono (fun b hb => hg.block b hb.2 (fun e => by have := Option.some.inj e; omega)) fun _ h => ⟨h.1, Nat.lt_of_lt_of_le h.2 hg.size⟩
theorem und_grown {α : Type} {E : Enc α} {w w' : World} {B g : Nat} {A : Option Addr} {n : Nat} {l : List α} (h : RdE E w (Under B) A n l) (hg : w.grownBy w' (some g)) (hB : B ≤ w.heap.size) (hlo : B ≤ g) : RdE E w' (Under B) A n l :=
  h.mono (fun b hb => hg.block b (Nat.lt_of_lt_of_le hb hB) (fun e => by have := Option.some.inj e; unfold Under at hb; omega)) fun _ h => h
theorem fr_under {α : Type} {E : Enc α} {w : World} {lo : Nat} {A : Option Addr} {n : Nat} {l : List α} (h : RdE E w (fun b => lo ≤ b ∧ b < w.heap.size) A n l) : RdE E w (Under w.heap.size) A n l := h.mono (fun _ _ => rfl) fun _ h => h.2
theorem fr_low {α : Type} {E : Enc α} {w : World} {lo lo' : Nat} {A : Option Addr} {n : Nat} {l : List α} (h : RdE E w (fun b => lo ≤ b ∧ b < w.heap.size) A n l) (hl : lo' ≤ lo) : RdE E w (fun b => lo' ≤ b ∧ b < w.heap.size) A n l := h.mono (fun _ _ => rfl) fun _ h => ⟨Nat.le_trans hl h.1, h.2⟩
theorem splice_one (l : List Value) (p : Nat) (v : Value) (h : p < l.length) : splice l p [v] = l.set p v := by
  apply List.ext_getElem?
  intro i
  rw [splice_get _ _ _ _ (by simp; omega), List.getElem?_set]
  by_cases h1 : p = i
  · subst h1
    simp [h]
  · rw [if_neg h1]
    by_cases h2 : i < p
    · rw [if_pos h2]
    · have h3 : ¬ i < p + [v].length := by simp; omega
      rw [if_neg h2, if_neg h3]
theorem wpList_storeV {P : Program} {w : World} {ops : Array Oper} {rest : List Oper} {o : Oper} {a : Act} {Q : Exit → Act → World → Prop} (hgd : o.guard = none) (T : Nat) (x y : Operand) (ho : o.op = .store T x y)
    (hsz : ∀ w, (sizeOf T).run P w = .ok 1 w) (g off t : Nat) (hx : a.eval x = .pointer (some ⟨g, off, none⟩)) (v : Value) (hy : a.eval y = v) (hv : v.cells = #[v]) (h1 : v.oneCell' = true) (cur : List Value) (h : RowL w g t cur) (hfit : off < cur.length)
    (hK : ∀ w', RowL w' g t (cur.set off v) → w.grownBy w' (some g) → w'.heap.size = w.heap.size → wpList P ops Q rest (a.put o.dst undef) w') : wpList P ops Q (o :: rest) a w := by
  refine wpList_plain hgd fun K hK' => ?_
  have hst := run_storeCells_at P g off t [v] 0 cur.toArray w h (by simp; omega) (by simp [h1])
  simp only [Nat.add_zero] at hst
  have hr : (Instr.storeAt T (.pointer (some ⟨g, off, none⟩)) v).run P w = .ok () (w.setRow g (splice cur off [v]).toArray) := by
    simp [Instr.storeAt, Instr.sureAddr, storeVar, hsz, hv, hst, splice]
  unfold Oper.wp execOp
  simp only [ho, Sem.run_bind, Sem.run_pure, Result.andThen_ok, hx, hy, hr]
  have hrow := h.setRow_ (splice cur off [v])
  rw [splice_one _ _ _ hfit] at hrow ⊢
  exact hK' _ _ (hK _ hrow (grownBy_setRow _ _ _) (by simp))
theorem und_up {α : Type} {E : Enc α} {w : World} {B : Nat} {A : Option Addr} {n : Nat} {l : List α} (h : RdE E w (Under B) A n l) (hB : B ≤ w.heap.size) : RdE E w (Under w.heap.size) A n l := h.mono (fun _ _ => rfl) fun _ h => Nat.lt_of_lt_of_le h hB
theorem sub_cell {cur cs : List Value} {off k : Nat} (h : (cur.drop off).take k = cs) {j : Nat} {v : Value} (hv : cs[j]? = some v) : cur[off + j]? = some v := by
  subst h
  rw [List.getElem?_take] at hv
  split at hv
  · rwa [List.getElem?_drop] at hv
  · cases hv
theorem rowA1 (w : World) (c1 : List Value) (t1 : Nat) {W : World} (hW : w.alloc (.cells c1.toArray t1) = W) : RowL W w.heap.size t1 c1 ∧ Below w.heap.size w W ∧ W.heap.size = w.heap.size + 1 := by
  subst hW
  exact ⟨RowL.new w t1 c1, below_new (below_self w) _, by simp⟩
theorem rowA2 (w : World) (c1 : List Value) (t1 : Nat) (c2 : List Value) (t2 : Nat) {W : World} (hW : (w.alloc (.cells c1.toArray t1)).alloc (.cells c2.toArray t2) = W) : RowL W w.heap.size t1 c1 ∧ RowL W (w.heap.size + 1) t2 c2 ∧ Below w.heap.size w W ∧ W.heap.size = w.heap.size + 2 := by
  subst hW
  exact rows2 w c1 c2 t1 t2
theorem rowA3 (w : World) (c1 : List Value) (t1 : Nat) (c2 : List Value) (t2 : Nat) (c3 : List Value) (t3 : Nat) {W : World} (hW : ((w.alloc (.cells c1.toArray t1)).alloc (.cells c2.toArray t2)).alloc (.cells c3.toArray t3) = W) : RowL W w.heap.size t1 c1 ∧ RowL W (w.heap.size + 1) t2 c2 ∧ RowL W (w.heap.size + 1 + 1) t3 c3 ∧ Below w.heap.size w W ∧ W.heap.size = w.heap.size + 3 := by
  subst hW
  exact rows3 w c1 c2 c3 t1 t2 t3
theorem rowA4 (w : World) (c1 : List Value) (t1 : Nat) (c2 : List Value) (t2 : Nat) (c3 : List Value) (t3 : Nat) (c4 : List Value) (t4 : Nat) {W : World} (hW : (((w.alloc (.cells c1.toArray t1)).alloc (.cells c2.toArray t2)).alloc (.cells c3.toArray t3)).alloc (.cells c4.toArray t4) = W) : RowL W w.heap.size t1 c1 ∧ RowL W (w.heap.size + 1) t2 c2 ∧ RowL W (w.heap.size + 1 + 1) t3 c3 ∧ RowL W (w.heap.size + 1 + 1 + 1) t4 c4 ∧ Below w.heap.size w W ∧ W.heap.size = w.heap.size + 4 := rows4 w _ _ _ _ _ _ _ _ hW
end Go.Proofs.YtnehkgbdppbhiaaGreat

/- plain.Stack, and what it calls. -/
namespace Go.Proofs.YtnehkgbdppbhiaaGreat
open Go.RowKit Go.Shelf Plain

/-- It returns a bool: if it is this one, so it is. -/
def IfRet (w : World) (b : Bool) (P : Prop) (e : Ending) (w' : World) : Prop := ∃ p : Bool, e = .returned (.bool p) ∧ Below w.heap.size w w' ∧ (p = b → P)
def FewB (many : Int) (ns : List NodV) : Prop := (ns.length : Int) ≤ many ∧ ∀ x ∈ ns, PlainN x
def FineN (ns : List NodV) : Prop := ∀ x ∈ ns, x.ents.length ≤ 9223372036854775807
set_option maxRecDepth 100000 in
set_option maxHeartbeats 1600000 in
theorem PSt1_any {A : Option Addr} {n c gM : Nat} {many : Int} {ns : List NodV} (w : World) (h : RdE nodEn w (Under w.heap.size) A n ns) (hM : w.cell? ⟨gM, 0, none⟩ = some (.int .i64 many)) (hg : gM < w.heap.size) (hmany : many ≤ 100000) (hsm : FineN ns) :
    Calls Tryz.prog 49 #[.agg #[.slice A n c], .pointer (some ⟨gM, 0, none⟩)] w (IfRet w false (FewB many ns)) := by
  have r := RowL.new w 26 [.slice A n c]
  have hb := below_new (below_self w) (.cells [Value.slice A n c].toArray 26)
  obtain ⟨W1, hW1⟩ : ∃ W1, w.alloc (.cells [Value.slice A n c].toArray 26) = W1 := ⟨_, rfl⟩
  have H0 := h.on hb
  have q1 := (hb.cell (p := ⟨gM, 0, none⟩) hg).trans hM
  rw [hW1] at r hb H0 q1
  have hW1' : w.alloc (.cells #[.slice A n c] 26) = W1 := hW1
  have q0 : W1.cell? ⟨w.heap.size, 0, none⟩ = some (.slice A n c) := r.cell 0
  have HN := hide H0
  have HB := hide hb
  have HFI := hide hsm
  have HLN := hide h.1
  clear r hb H0 hW1 h hsm hM
  go_enter Tryz.func49, Tryz.ntmps49
  go_wp2_with fail
  refine (PBranch_any W1 HN.out hmany HFI.out).mono ?_
  rintro e w3 ⟨p, rfl, hb3, hp⟩
  have HP := hide hp
  have HB3 := hide (HB.out.trans (hb3.mono HB.out.size))
  clear hp hb3 q0 q1 hW1'
  cases p
  · go_wp2_with fail
    go_ret
    exact ⟨true, rfl, HB3.out, fun h => by cases h⟩
  · go_wp2_with fail
    go_ret
    exact ⟨false, rfl, HB3.out, fun _ => by have := HP.out (by first | rfl | trivial); exact ⟨by rw [HLN.out]; exact this.1, this.2⟩⟩
set_option maxRecDepth 100000 in
set_option maxHeartbeats 1600000 in
theorem BrIdx_any {A : Option Addr} {n c gM : Nat} {many : Int} {l : List (List NodV)} (w : World) (h : RdE layEn w (Under w.heap.size) A n l) (hM : w.cell? ⟨gM, 0, none⟩ = some (.int .i64 many)) (hg : gM < w.heap.size) (hmany : many ≤ 100000) (hn : n ≤ 100000) (hsm : ∀ ns ∈ l, FineN ns) :
    Calls Tryz.prog 92 #[.slice A n c, .func (.func 49) #[] #[.pointer (some ⟨gM, 0, none⟩)]] w (fun e w' => ∃ r : Int, e = .returned (.int .i64 r) ∧ Below w.heap.size w w' ∧ (r < 0 → ∀ ns ∈ l, FewB many ns)) := by
  have H := hide h
  have hln := h.1
  have HSM := hide hsm
  have HM := hide hM
  clear h hsm hM
  go_enter Tryz.func92, Tryz.ntmps92
  go_wp2
  go_loopw [8] (fun iv wr => ∃ j : Nat, j ≤ n ∧ iv = .int .i64 j ∧ Below w.heap.size w wr ∧ ∀ i x, i < j → l[i]? = some x → FewB many x) (fun iv _ => n - (intOf iv).toNat)
  case atStart => exact ⟨0, by omega, rfl, below_self _, fun i x hi => by omega⟩
  case round =>
    obtain ⟨j, hj, rfl, hbr, hall⟩ := hrel
    have HBR := hide hbr
    have HALL := hide hall
    have hbsz := hbr.size
    clear hbr hall
    by_cases hlt : j < n
    · obtain ⟨ns, hx⟩ : ∃ ns, l[j]? = some ns := ⟨_, List.getElem?_eq_getElem (by omega)⟩
      obtain ⟨b, o, rfl, hbB, A2, n2, c2, hc, hc2, hN2⟩ := RdE.get_list (F := nodEn) (H.out.on HBR.out) hx
      have HN2 := hide hN2
      have q : wr.cell? ⟨b, o + j, none⟩ = some (.slice A2 n2 c2) := hc
      have HX := hide hx
      have HFI := hide (HSM.out ns (List.mem_of_getElem? hx))
      have HM2 := hide ((HBR.out.cell (p := ⟨gM, 0, none⟩) hg).trans HM.out)
      have hjn : (j : Int) < (n : Int) := by omega
      clear hx hN2 hc
      go_wp2_with fail
      refine (PSt1_any wr HN2.out HM2.out (by omega) hmany HFI.out).mono ?_
      rintro e w3 ⟨p, rfl, hb3, hp⟩
      have HP := hide hp
      have HB3 := hide (HBR.out.trans (hb3.mono hbsz))
      clear hp hb3 q
      cases p with
      | true =>
        go_wp2_with fail
        go_ret
        exact ⟨(j : Int), rfl, HB3.out, fun h => by omega⟩
      | false =>
        go_wp2_with fail
        go_roundw
        case rel => exact ⟨j + 1, by omega, by go_num, HB3.out, fun i y hi hy => by
          by_cases e : i = j
          · subst e
            have := HX.out.symm.trans hy
            cases this
            exact HP.out (by first | rfl | trivial)
          · exact HALL.out i y (by omega) hy⟩
        case measure => simp [intOf]; omega
    · obtain rfl : j = n := by omega
      go_wp2_with fail
      go_ret
      exact ⟨-1, rfl, HBR.out, fun _ x hx => by
        obtain ⟨i, hi, rfl⟩ := List.mem_iff_getElem.1 hx
        exact HALL.out i _ (by omega) (List.getElem?_eq_getElem hi)⟩
set_option maxRecDepth 100000 in
theorem BrHas_any {A : Option Addr} {n c gM : Nat} {many : Int} {l : List (List NodV)} (w : World) (h : RdE layEn w (Under w.heap.size) A n l) (hM : w.cell? ⟨gM, 0, none⟩ = some (.int .i64 many)) (hg : gM < w.heap.size) (hmany : many ≤ 100000) (hn : n ≤ 100000) (hsm : ∀ ns ∈ l, FineN ns) :
    Calls Tryz.prog 48 #[.slice A n c, .func (.func 49) #[] #[.pointer (some ⟨gM, 0, none⟩)]] w (IfRet w false (∀ ns ∈ l, FewB many ns)) := by
  have H := hide h
  have HM := hide hM
  clear h hM
  go_enter Tryz.func48, Tryz.ntmps48
  go_wp2_with (go_at_call 92; refine (BrIdx_any w H.out HM.out hg hmany hn hsm).mono ?_; rintro e w3 ⟨r, rfl, hb3, hp⟩; have HP := hide hp; have HB3 := hide hb3; clear hp hb3)
  go_ret
  exact ⟨_, rfl, HB3.out, fun h => HP.out (by simpa using h)⟩
set_option maxRecDepth 100000 in
set_option maxHeartbeats 4000000 in
theorem PStack_any {g : GeoQ} {AU AL : Option Addr} {nU cU nL cL : Nat} {up : List NodV} {ls : List (List NodV)} (w : World) (hu : RdE nodEn w (Under w.heap.size) AU nU up) (h : RdE layEn w (Under w.heap.size) AL nL ls) (hfu : FineN up) (hfl : ∀ ns ∈ ls, FineN ns) :
    Calls Tryz.prog 10 #[.agg (stkC g (.slice AU nU cU) (.slice AL nL cL)).toArray, .int .i64 24] w (IfRet w true (FewL ls ∧ FewB 24 up)) := by
  obtain ⟨r0, r1, hb2, hs2⟩ := rows2 w (stkC g (.slice AU nU cU) (.slice AL nL cL)) [.int .i64 24] 29 3
  obtain ⟨W2, hW2⟩ : ∃ W2, (w.alloc (.cells (stkC g (.slice AU nU cU) (.slice AL nL cL)).toArray 29)).alloc (.cells [Value.int .i64 24].toArray 3) = W2 := ⟨_, rfl⟩
  rw [hW2] at r0 r1 hb2 hs2
  have hW2' : (w.alloc (.cells #[.int .i64 g.a, .int .i64 g.b, .int .i64 g.c, .int .i64 g.d, .slice AU nU cU, .slice AL nL cL] 29)).alloc (.cells #[.int .i64 24] 3) = W2 := hW2
  have q4 : W2.cell? ⟨w.heap.size, 4, none⟩ = some (.slice AU nU cU) := r0.cell 4
  have q5 : W2.cell? ⟨w.heap.size, 5, none⟩ = some (.slice AL nL cL) := r0.cell 5
  have m0 : W2.cell? ⟨w.heap.size + 1, 0, none⟩ = some (.int .i64 24) := r1.cell 0
  have R0 := hide r0
  have R1 := hide r1
  have HB2 := hide hb2
  have HU := hide (hu.on hb2)
  have HL := hide (h.on hb2)
  have HLL := hide h.1
  have HUL := hide hu.1
  have HFU := hide hfu
  have HFL := hide hfl
  have hsl : w.heap.size + 2 ≤ W2.heap.size := by omega
  unfold stkC
  clear r0 r1 hb2 hW2 hs2 hu h hfu hfl
  by_cases k0 : (nL : Int) ≤ 3
  rotate_left
  · have c0 : decide ((nL : Int) ≤ 3) = false := decide_eq_false k0
    clear q4
    go_enter Tryz.func10, Tryz.ntmps10
    go_wp2_with fail
    go_ret
    exact ⟨false, rfl, HB2.out, fun h => by cases h⟩
  have c0 : decide ((nL : Int) ≤ 3) = true := decide_eq_true k0
  go_enter Tryz.func10, Tryz.ntmps10
  go_wp2_with fail
  clear hW2'
  refine (PBranch_any W2 HU.out (by omega) HFU.out).mono ?_
  rintro e w3 ⟨p, rfl, hb3, hp⟩
  have HP := hide hp
  have HB3 := hide (HB2.out.trans (hb3.mono (by omega)))
  have s5 : w3.cell? ⟨w.heap.size, 5, none⟩ = some (.slice AL nL cL) := (R0.out.on hb3).cell 5
  have M3 := hide ((R1.out.on hb3).cell 0)
  have HL3 := hide (HL.out.on hb3)
  have hs3 := hb3.size
  clear hp hb3 q4 q5 m0
  cases p
  · clear s5
    go_wp2_with fail
    go_ret
    exact ⟨false, rfl, HB3.out, fun h => by cases h⟩
  go_wp2_with fail
  refine (BrHas_any w3 HL3.out M3.out (by omega) (by omega) (by omega) HFL.out).mono ?_
  rintro e w4 ⟨p, rfl, hb4, hp4⟩
  have HP4 := hide hp4
  have HB4 := hide (HB3.out.trans (hb4.mono HB3.out.size))
  clear hp4 hb4 s5
  cases p
  · go_wp2_with fail
    go_ret
    refine ⟨true, rfl, HB4.out, fun _ => ?_⟩
    have h1 := HP.out (by first | rfl | trivial)
    have h2 := HP4.out (by first | rfl | trivial)
    exact ⟨⟨by rw [HLL.out]; omega, fun ns hn => ⟨by have := (h2 ns hn).1; omega, (h2 ns hn).2⟩⟩, ⟨by rw [HUL.out]; exact h1.1, h1.2⟩⟩
  · go_wp2_with fail
    go_ret
    exact ⟨false, rfl, HB4.out, fun h => by cases h⟩
end Go.Proofs.YtnehkgbdppbhiaaGreat

/- view.Opaque, view.Root and the reference's (layer 17). -/
namespace Go.Proofs.YtnehkgbdppbhiaaGreat
open Go.RowKit Go.Shelf Plain

/-- A view's cells. -/
def viwC (u : Int) (s : Value) : List Value := [.int .i64 u, s]
def vwdC (g : GeoQ) (U L : Value) (u : Int) (s : Value) : List Value := [.int .i64 g.a, .int .i64 g.b, .int .i64 g.c, .int .i64 g.d, U, L, .int .i64 u, s]
theorem viwC_one (u : Int) (A : Option Addr) (n c : Nat) : ∀ v ∈ viwC u (.slice A n c), v.oneCell' = true := by simp [viwC, Value.oneCell']
theorem vwdC_one (g : GeoQ) (A B C : Option Addr) (n c m d k e : Nat) (u : Int) : ∀ v ∈ vwdC g (.slice A n c) (.slice B m d) u (.slice C k e), v.oneCell' = true := by simp [vwdC, Value.oneCell']
set_option maxRecDepth 100000 in
theorem viw_agg : ∀ w, (isAgg 32).run Tryz.prog w = .ok true w := fun w => by kernel_rfl
set_option maxRecDepth 100000 in
theorem viw_size : ∀ w, (Go.sizeOf 32).run Tryz.prog w = .ok 2 w := fun w => by kernel_rfl
set_option maxRecDepth 100000 in
theorem vwd_agg : ∀ w, (isAgg 95).run Tryz.prog w = .ok true w := fun w => by kernel_rfl
set_option maxRecDepth 100000 in
theorem vwd_size : ∀ w, (Go.sizeOf 95).run Tryz.prog w = .ok 8 w := fun w => by kernel_rfl
set_option maxRecDepth 100000 in
theorem int_size : ∀ w, (Go.sizeOf 3).run Tryz.prog w = .ok 1 w := fun w => by kernel_rfl
theorem At_e {A : Option Addr} {B : Nat} {n c : Nat} {ns : List NodV} {i : Int} {x : NodV} (hx : nodAt ns i = x) (w : World) (h : RdE nodEn w (Under B) A n ns) (hB : B ≤ w.heap.size) (hm : ns.length ≤ 100000) : Calls Tryz.prog 52 #[.agg #[.slice A n c], .int .i64 i] w (NodRet w B x) := by rw [← hx]; exact At_anyB w h hB hm
/-- Few nodes that may be. -/
def FewU (up : List NodV) : Prop := up.length ≤ 24 ∧ ∀ x ∈ up, PlainN x
/-- It returns a view, its lower part in new memory. -/
def ViewF (lo : Nat) (w : World) (v : ViewV) (e : Ending) (w' : World) : Prop := ∃ A c, e = .returned (.agg (viwC v.1 (.slice A v.2.length c)).toArray) ∧ RdE prEn w' (fun b => lo ≤ b ∧ b < w'.heap.size) A v.2.length v.2 ∧ Below w.heap.size w w'
set_option maxRecDepth 100000 in
set_option maxHeartbeats 1600000 in
theorem VOpq_b {x : NodV} {D C : Option Addr} {n c m d : Nat} {b : Bool} (hb : opqD x = b) (h0 : 0 ≤ x.att.h) (h1 : x.att.h ≤ 31) (w : World) : Calls Tryz.prog 31 #[.agg (nodC x (.slice D n c) (.slice C m d)).toArray] w (BoolB w b) := by
  obtain ⟨W1, hW1⟩ : ∃ W1, (w.alloc (.cells (nodC x (.slice D n c) (.slice C m d)).toArray 71)) = W1 := ⟨_, rfl⟩
  obtain ⟨r0, hb1, hs1⟩ := rowA1 w _ _ hW1
  have hW1' : (w.alloc (.cells #[.int .i64 x.k, .int .i64 x.p, .int .i64 x.n, .int .i64 x.g, .slice D n c, .slice C m d, .int .i64 x.att.h, .int .i64 x.att.o, .string ⟨x.att.r.toArray⟩, .int .i64 x.att.l, .int .i64 x.att.i, .int .i64 x.att.g, .int .i64 x.att.s] 71)) = W1 := hW1
  have R1 := hide r0
  have HB := hide hb1
  have hsz0 := hb1.size
  obtain ⟨b1, hb1'⟩ : ∃ b1, (x.k == 1) = b1 := ⟨_, rfl⟩
  obtain ⟨b2, hb2⟩ : ∃ b2, opq x = b2 := ⟨_, rfl⟩
  have HO := hide hb2
  have e : b = (b1 && b2) := by
    rw [← hb, ← hb1', ← hb2]
    unfold opqD
    congr 1
  subst e
  have q1_0 : W1.cell? ⟨w.heap.size, 0, none⟩ = some (.int .i64 x.k) := R1.out.cell 0
  have q1_1 : W1.cell? ⟨w.heap.size, 1, none⟩ = some (.int .i64 x.p) := R1.out.cell 1
  have q1_2 : W1.cell? ⟨w.heap.size, 2, none⟩ = some (.int .i64 x.n) := R1.out.cell 2
  have q1_3 : W1.cell? ⟨w.heap.size, 3, none⟩ = some (.int .i64 x.g) := R1.out.cell 3
  have q1_4 : W1.cell? ⟨w.heap.size, 4, none⟩ = some (.slice D n c) := R1.out.cell 4
  have q1_5 : W1.cell? ⟨w.heap.size, 5, none⟩ = some (.slice C m d) := R1.out.cell 5
  have q1_6 : W1.cell? ⟨w.heap.size, 6, none⟩ = some (.int .i64 x.att.h) := R1.out.cell 6
  have q1_7 : W1.cell? ⟨w.heap.size, 7, none⟩ = some (.int .i64 x.att.o) := R1.out.cell 7
  have q1_8 : W1.cell? ⟨w.heap.size, 8, none⟩ = some (.string ⟨x.att.r.toArray⟩) := R1.out.cell 8
  have q1_9 : W1.cell? ⟨w.heap.size, 9, none⟩ = some (.int .i64 x.att.l) := R1.out.cell 9
  have q1_10 : W1.cell? ⟨w.heap.size, 10, none⟩ = some (.int .i64 x.att.i) := R1.out.cell 10
  have q1_11 : W1.cell? ⟨w.heap.size, 11, none⟩ = some (.int .i64 x.att.g) := R1.out.cell 11
  have q1_12 : W1.cell? ⟨w.heap.size, 12, none⟩ = some (.int .i64 x.att.s) := R1.out.cell 12
  unfold nodC
  clear r0 hb1 hW1 hb hb2
  cases b1 <;> cases b2
  all_goals
    go_enter Tryz.func31, Tryz.ntmps31
    go_wp2_with (first | (go_at_call 71; refine (Marked_b (by exact HO.out) h0 h1 W1).mono ?_; rintro e1 wX ⟨rfl, hbel⟩; clear q1_0 q1_1 q1_2 q1_3 q1_4 q1_5 q1_6 q1_7 q1_8 q1_9 q1_10 q1_11 q1_12; replace HB := hide (HB.out.trans (hbel.mono HB.out.size)); replace R1 := hide (R1.out.on hbel); have hsz2 := hbel.size; have q1_0 : wX.cell? ⟨w.heap.size, 0, none⟩ = some (.int .i64 x.k) := R1.out.cell 0; have q1_1 : wX.cell? ⟨w.heap.size, 1, none⟩ = some (.int .i64 x.p) := R1.out.cell 1; have q1_2 : wX.cell? ⟨w.heap.size, 2, none⟩ = some (.int .i64 x.n) := R1.out.cell 2; have q1_3 : wX.cell? ⟨w.heap.size, 3, none⟩ = some (.int .i64 x.g) := R1.out.cell 3; have q1_4 : wX.cell? ⟨w.heap.size, 4, none⟩ = some (.slice D n c) := R1.out.cell 4; have q1_5 : wX.cell? ⟨w.heap.size, 5, none⟩ = some (.slice C m d) := R1.out.cell 5; have q1_6 : wX.cell? ⟨w.heap.size, 6, none⟩ = some (.int .i64 x.att.h) := R1.out.cell 6; have q1_7 : wX.cell? ⟨w.heap.size, 7, none⟩ = some (.int .i64 x.att.o) := R1.out.cell 7; have q1_8 : wX.cell? ⟨w.heap.size, 8, none⟩ = some (.string ⟨x.att.r.toArray⟩) := R1.out.cell 8; have q1_9 : wX.cell? ⟨w.heap.size, 9, none⟩ = some (.int .i64 x.att.l) := R1.out.cell 9; have q1_10 : wX.cell? ⟨w.heap.size, 10, none⟩ = some (.int .i64 x.att.i) := R1.out.cell 10; have q1_11 : wX.cell? ⟨w.heap.size, 11, none⟩ = some (.int .i64 x.att.g) := R1.out.cell 11; have q1_12 : wX.cell? ⟨w.heap.size, 12, none⟩ = some (.int .i64 x.att.s) := R1.out.cell 12; clear hbel))
    go_ret
    exact BoolB.of HB.out
set_option maxRecDepth 100000 in
set_option maxHeartbeats 1600000 in
theorem RVOpq_b {x : NodV} {D C : Option Addr} {n c m d : Nat} {b : Bool} (hb : opqD x = b) (h0 : 0 ≤ x.att.h) (h1 : x.att.h ≤ 31) (w : World) : Calls Tryz.prog 32 #[.agg (nodC x (.slice D n c) (.slice C m d)).toArray] w (BoolB w b) := by
  obtain ⟨W1, hW1⟩ : ∃ W1, (w.alloc (.cells (nodC x (.slice D n c) (.slice C m d)).toArray 71)) = W1 := ⟨_, rfl⟩
  obtain ⟨r0, hb1, hs1⟩ := rowA1 w _ _ hW1
  have hW1' : (w.alloc (.cells #[.int .i64 x.k, .int .i64 x.p, .int .i64 x.n, .int .i64 x.g, .slice D n c, .slice C m d, .int .i64 x.att.h, .int .i64 x.att.o, .string ⟨x.att.r.toArray⟩, .int .i64 x.att.l, .int .i64 x.att.i, .int .i64 x.att.g, .int .i64 x.att.s] 71)) = W1 := hW1
  have R1 := hide r0
  have HB := hide hb1
  have hsz0 := hb1.size
  obtain ⟨b1, hb1'⟩ : ∃ b1, (x.k == 1) = b1 := ⟨_, rfl⟩
  obtain ⟨b2, hb2⟩ : ∃ b2, opq x = b2 := ⟨_, rfl⟩
  have HO := hide hb2
  have e : b = (b1 && b2) := by
    rw [← hb, ← hb1', ← hb2]
    unfold opqD
    congr 1
  subst e
  have q1_0 : W1.cell? ⟨w.heap.size, 0, none⟩ = some (.int .i64 x.k) := R1.out.cell 0
  have q1_1 : W1.cell? ⟨w.heap.size, 1, none⟩ = some (.int .i64 x.p) := R1.out.cell 1
  have q1_2 : W1.cell? ⟨w.heap.size, 2, none⟩ = some (.int .i64 x.n) := R1.out.cell 2
  have q1_3 : W1.cell? ⟨w.heap.size, 3, none⟩ = some (.int .i64 x.g) := R1.out.cell 3
  have q1_4 : W1.cell? ⟨w.heap.size, 4, none⟩ = some (.slice D n c) := R1.out.cell 4
  have q1_5 : W1.cell? ⟨w.heap.size, 5, none⟩ = some (.slice C m d) := R1.out.cell 5
  have q1_6 : W1.cell? ⟨w.heap.size, 6, none⟩ = some (.int .i64 x.att.h) := R1.out.cell 6
  have q1_7 : W1.cell? ⟨w.heap.size, 7, none⟩ = some (.int .i64 x.att.o) := R1.out.cell 7
  have q1_8 : W1.cell? ⟨w.heap.size, 8, none⟩ = some (.string ⟨x.att.r.toArray⟩) := R1.out.cell 8
  have q1_9 : W1.cell? ⟨w.heap.size, 9, none⟩ = some (.int .i64 x.att.l) := R1.out.cell 9
  have q1_10 : W1.cell? ⟨w.heap.size, 10, none⟩ = some (.int .i64 x.att.i) := R1.out.cell 10
  have q1_11 : W1.cell? ⟨w.heap.size, 11, none⟩ = some (.int .i64 x.att.g) := R1.out.cell 11
  have q1_12 : W1.cell? ⟨w.heap.size, 12, none⟩ = some (.int .i64 x.att.s) := R1.out.cell 12
  unfold nodC
  clear r0 hb1 hW1 hb hb2
  cases b1 <;> cases b2
  all_goals
    go_enter Tryz.func32, Tryz.ntmps32
    go_wp2_with (first | (go_at_call 75; refine (ROpq_b (by exact HO.out) h0 h1 W1).mono ?_; rintro e1 wX ⟨rfl, hbel⟩; clear q1_0 q1_1 q1_2 q1_3 q1_4 q1_5 q1_6 q1_7 q1_8 q1_9 q1_10 q1_11 q1_12; replace HB := hide (HB.out.trans (hbel.mono HB.out.size)); replace R1 := hide (R1.out.on hbel); have hsz2 := hbel.size; have q1_0 : wX.cell? ⟨w.heap.size, 0, none⟩ = some (.int .i64 x.k) := R1.out.cell 0; have q1_1 : wX.cell? ⟨w.heap.size, 1, none⟩ = some (.int .i64 x.p) := R1.out.cell 1; have q1_2 : wX.cell? ⟨w.heap.size, 2, none⟩ = some (.int .i64 x.n) := R1.out.cell 2; have q1_3 : wX.cell? ⟨w.heap.size, 3, none⟩ = some (.int .i64 x.g) := R1.out.cell 3; have q1_4 : wX.cell? ⟨w.heap.size, 4, none⟩ = some (.slice D n c) := R1.out.cell 4; have q1_5 : wX.cell? ⟨w.heap.size, 5, none⟩ = some (.slice C m d) := R1.out.cell 5; have q1_6 : wX.cell? ⟨w.heap.size, 6, none⟩ = some (.int .i64 x.att.h) := R1.out.cell 6; have q1_7 : wX.cell? ⟨w.heap.size, 7, none⟩ = some (.int .i64 x.att.o) := R1.out.cell 7; have q1_8 : wX.cell? ⟨w.heap.size, 8, none⟩ = some (.string ⟨x.att.r.toArray⟩) := R1.out.cell 8; have q1_9 : wX.cell? ⟨w.heap.size, 9, none⟩ = some (.int .i64 x.att.l) := R1.out.cell 9; have q1_10 : wX.cell? ⟨w.heap.size, 10, none⟩ = some (.int .i64 x.att.i) := R1.out.cell 10; have q1_11 : wX.cell? ⟨w.heap.size, 11, none⟩ = some (.int .i64 x.att.g) := R1.out.cell 11; have q1_12 : wX.cell? ⟨w.heap.size, 12, none⟩ = some (.int .i64 x.att.s) := R1.out.cell 12; clear hbel))
    go_ret
    exact BoolB.of HB.out
set_option maxRecDepth 100000 in
set_option maxHeartbeats 4000000 in
theorem RVRoot_any {g : GeoQ} {AU AL : Option Addr} {nU cU nL cL B : Nat} {up : List NodV} {ls : List (List NodV)} (w : World) (hu : RdE nodEn w (Under B) AU nU up) (h : RdE layEn w (Under B) AL nL ls) (hB : B ≤ w.heap.size) (hF : FewL ls) (hup : FewU up) : Calls Tryz.prog 16 #[.agg (stkC g (.slice AU nU cU) (.slice AL nL cL)).toArray] w (ViewF w.heap.size w (rootV up ls)) := by
  obtain ⟨W1, hW1⟩ : ∃ W1, ((w.alloc (.cells (stkC g (.slice AU nU cU) (.slice AL nL cL)).toArray 29)).alloc (.cells (viwC 0 (.slice none 0 0)).toArray 32)) = W1 := ⟨_, rfl⟩
  obtain ⟨r0, r1, hb1, hs1⟩ := rowA2 w _ _ _ _ hW1
  have hW1' : ((w.alloc (.cells #[.int .i64 g.a, .int .i64 g.b, .int .i64 g.c, .int .i64 g.d, .slice AU nU cU, .slice AL nL cL] 29)).alloc (.cells #[.int .i64 0, .slice none 0 0] 32)) = W1 := hW1
  have R1 := hide r0
  have R2 := hide r1
  have HB := hide hb1
  have hsz0 := hb1.size
  have HU := hide (hu.under hb1 hB)
  have HL := hide (h.under hb1 hB)
  have HF := hide hF
  have HFU := hide hup
  obtain ⟨x, hx⟩ : ∃ x, nodAt up 1 = x := ⟨_, rfl⟩
  have HX := hide hx
  obtain ⟨V, hV⟩ : ∃ V, rootV up ls = V := ⟨_, rfl⟩
  rw [hV]
  have hatt : 0 ≤ x.att.h ∧ x.att.h ≤ 31 := by rw [← hx]; exact (nodAt_plain hup.2 1).2.2.1
  obtain ⟨bo, hbo⟩ : ∃ bo, opqD x = bo := ⟨_, rfl⟩
  have HOP := hide hbo
  have q1_4 : W1.cell? ⟨w.heap.size, 4, none⟩ = some (.slice AU nU cU) := R1.out.cell 4
  unfold rootV at hV
  rw [hx, hbo] at hV
  unfold stkC
  by_cases hk : x.k = 1
  · rw [if_pos hk] at hV
    have hk1 : (x.k == 1) = true := by simpa using hk
    have hk2 : (x.k != 1) = false := by simpa using hk
    cases bo
    · have HV := hide (show V = (1, rootsL ls 0) from by simpa using hV.symm)
      clear r0 r1 hb1 hW1 hu h hup hF hV hx hbo hk
      go_enter Tryz.func16, Tryz.ntmps16
      go_wp2_with (first | (go_at_call 52; refine (At_e HX.out W1 HU.out (by omega) (by have := HFU.out.1; omega)).mono ?_; rintro e1 wN ⟨A1, n1, c1, C1, m1, d1, rfl, -, -, -, -, hbel⟩; clear q1_4; replace HB := hide (HB.out.trans (hbel.mono HB.out.size)); replace R1 := hide (R1.out.on hbel); replace R2 := hide (R2.out.on hbel); replace HU := hide (HU.out.under hbel (by omega)); replace HL := hide (HL.out.under hbel (by omega)); have hsz2 := hbel.size; have q1_4 : wN.cell? ⟨w.heap.size, 4, none⟩ = some (.slice AU nU cU) := R1.out.cell 4; clear hbel) | (refine wpList_storeW rfl 71 (.tmp 3) (.tmp 6) rfl 13 nod_size (wN.heap.size) 71 rfl (nodC nod0 (.slice none 0 0) (.slice none 0 0)) (nodC x (.slice A1 n1 c1) (.slice C1 m1 d1)) rfl (RowL.new wN 71 (nodC nod0 (.slice none 0 0) (.slice none 0 0))) rfl rfl (nodC_one _ _ _ _ _ _ _) ?_; intro wS3 hr3 hg3 hs3; have hzb := below_stored' hg3; clear q1_4; replace HB := hide (HB.out.trans (hzb.mono HB.out.size)); replace R1 := hide (R1.out.on hzb); replace R2 := hide (R2.out.on hzb); replace HU := hide (HU.out.under hzb (by omega)); replace HL := hide (HL.out.under hzb (by omega)); have hsz4 := hzb.size; have q1_4 : wS3.cell? ⟨w.heap.size, 4, none⟩ = some (.slice AU nU cU) := R1.out.cell 4; have RN := hide hr3; have hlt3 := hr3.lt; have q3_0 : wS3.cell? ⟨wN.heap.size, 0, none⟩ = some (.int .i64 x.k) := RN.out.cell 0; clear hzb hr3; clear hg3 hs3) | (refine wpList_loadW rfl 71 (.tmp 3) rfl 13 nod_agg nod_size (wN.heap.size) 71 rfl (nodC x (.slice A1 n1 c1) (.slice C1 m1 d1)) RN.out rfl ?_) | (go_at_call 32; refine (RVOpq_b HOP.out hatt.1 hatt.2 wS3).mono ?_; rintro e5 wO ⟨rfl, hbel⟩; clear q1_4 q3_0; replace HB := hide (HB.out.trans (hbel.mono HB.out.size)); replace R1 := hide (R1.out.on hbel); replace R2 := hide (R2.out.on hbel); replace HU := hide (HU.out.under hbel (by omega)); replace HL := hide (HL.out.under hbel (by omega)); replace RN := hide (RN.out.on hbel); have hsz6 := hbel.size; have q1_4 : wO.cell? ⟨w.heap.size, 4, none⟩ = some (.slice AU nU cU) := R1.out.cell 4; have q3_0 : wO.cell? ⟨wN.heap.size, 0, none⟩ = some (.int .i64 x.k) := RN.out.cell 0; clear hbel) | (refine wpList_loadW rfl 29 (.tmp 1) rfl 6 stk_agg stk_size (w.heap.size) 29 rfl (stkC g (.slice AU nU cU) (.slice AL nL cL)) R1.out rfl ?_) | (go_at_call 57; refine (RRoots_f wO (und_up HL.out (by omega)) HF.out).mono ?_; rintro e7 wR ⟨A6, c6, rfl, h6, hbel⟩; clear q1_4 q3_0; replace HB := hide (HB.out.trans (hbel.mono HB.out.size)); replace R1 := hide (R1.out.on hbel); replace R2 := hide (R2.out.on hbel); replace HU := hide (HU.out.under hbel (by omega)); replace HL := hide (HL.out.under hbel (by omega)); replace RN := hide (RN.out.on hbel); have hsz8 := hbel.size; have q1_4 : wR.cell? ⟨w.heap.size, 4, none⟩ = some (.slice AU nU cU) := R1.out.cell 4; have q3_0 : wR.cell? ⟨wN.heap.size, 0, none⟩ = some (.int .i64 x.k) := RN.out.cell 0; have H6 := hide h6; clear h6; clear hbel) | (refine wpList_storeW rfl 32 (.tmp 2) (.tmp 18) rfl 2 viw_size (w.heap.size + 1) 32 rfl (viwC 0 (.slice none 0 0)) (viwC 1 (.slice A6 (rootsL ls 0).length c6)) rfl R2.out rfl rfl (viwC_one _ _ _ _) ?_; intro wS9 hr9 hg9 hs9; clear q1_4 q3_0; replace HB := hide (HB.out.grown hg9 (by omega) (fun k hk => by have := Option.some.inj hk; omega)); replace R1 := hide (R1.out.grown hg9 (fun e => by have := Option.some.inj e; omega)); replace HU := hide (und_grown HU.out hg9 (by omega) (by omega)); replace HL := hide (und_grown HL.out hg9 (by omega) (by omega)); replace RN := hide (RN.out.grown hg9 (fun e => by have := Option.some.inj e; omega)); replace H6 := hide (fr_grown H6.out hg9 (by omega)); have hsz10 := hg9.size; replace R2 := hide hr9; have q1_4 : wS9.cell? ⟨w.heap.size, 4, none⟩ = some (.slice AU nU cU) := R1.out.cell 4; have q3_0 : wS9.cell? ⟨wN.heap.size, 0, none⟩ = some (.int .i64 x.k) := RN.out.cell 0; clear hr9 hg9 hs9))
      exact bodyPost_ret (res_cell Tryz.results16 rfl viw_agg viw_size R2.out rfl) rfl ⟨A6, c6, by rw [HV.out], by rw [HV.out]; exact fr_low H6.out (by omega), HB.out⟩
    · have HV := hide (show V = (1, []) from by simpa using hV.symm)
      clear r0 r1 hb1 hW1 hu h hup hF hV hx hbo hk
      go_enter Tryz.func16, Tryz.ntmps16
      go_wp2_with (first | (go_at_call 52; refine (At_e HX.out W1 HU.out (by omega) (by have := HFU.out.1; omega)).mono ?_; rintro e1 wN ⟨A1, n1, c1, C1, m1, d1, rfl, -, -, -, -, hbel⟩; clear q1_4; replace HB := hide (HB.out.trans (hbel.mono HB.out.size)); replace R1 := hide (R1.out.on hbel); replace R2 := hide (R2.out.on hbel); replace HU := hide (HU.out.under hbel (by omega)); replace HL := hide (HL.out.under hbel (by omega)); have hsz2 := hbel.size; have q1_4 : wN.cell? ⟨w.heap.size, 4, none⟩ = some (.slice AU nU cU) := R1.out.cell 4; clear hbel) | (refine wpList_storeW rfl 71 (.tmp 3) (.tmp 6) rfl 13 nod_size (wN.heap.size) 71 rfl (nodC nod0 (.slice none 0 0) (.slice none 0 0)) (nodC x (.slice A1 n1 c1) (.slice C1 m1 d1)) rfl (RowL.new wN 71 (nodC nod0 (.slice none 0 0) (.slice none 0 0))) rfl rfl (nodC_one _ _ _ _ _ _ _) ?_; intro wS3 hr3 hg3 hs3; have hzb := below_stored' hg3; clear q1_4; replace HB := hide (HB.out.trans (hzb.mono HB.out.size)); replace R1 := hide (R1.out.on hzb); replace R2 := hide (R2.out.on hzb); replace HU := hide (HU.out.under hzb (by omega)); replace HL := hide (HL.out.under hzb (by omega)); have hsz4 := hzb.size; have q1_4 : wS3.cell? ⟨w.heap.size, 4, none⟩ = some (.slice AU nU cU) := R1.out.cell 4; have RN := hide hr3; have hlt3 := hr3.lt; have q3_0 : wS3.cell? ⟨wN.heap.size, 0, none⟩ = some (.int .i64 x.k) := RN.out.cell 0; clear hzb hr3; clear hg3 hs3) | (refine wpList_loadW rfl 71 (.tmp 3) rfl 13 nod_agg nod_size (wN.heap.size) 71 rfl (nodC x (.slice A1 n1 c1) (.slice C1 m1 d1)) RN.out rfl ?_) | (go_at_call 32; refine (RVOpq_b HOP.out hatt.1 hatt.2 wS3).mono ?_; rintro e5 wO ⟨rfl, hbel⟩; clear q1_4 q3_0; replace HB := hide (HB.out.trans (hbel.mono HB.out.size)); replace R1 := hide (R1.out.on hbel); replace R2 := hide (R2.out.on hbel); replace HU := hide (HU.out.under hbel (by omega)); replace HL := hide (HL.out.under hbel (by omega)); replace RN := hide (RN.out.on hbel); have hsz6 := hbel.size; have q1_4 : wO.cell? ⟨w.heap.size, 4, none⟩ = some (.slice AU nU cU) := R1.out.cell 4; have q3_0 : wO.cell? ⟨wN.heap.size, 0, none⟩ = some (.int .i64 x.k) := RN.out.cell 0; clear hbel) | (refine wpList_storeW rfl 32 (.tmp 2) (.tmp 15) rfl 2 viw_size (w.heap.size + 1) 32 rfl (viwC 0 (.slice none 0 0)) (viwC 1 (.slice none 0 0)) rfl R2.out rfl rfl (viwC_one _ _ _ _) ?_; intro wS7 hr7 hg7 hs7; clear q1_4 q3_0; replace HB := hide (HB.out.grown hg7 (by omega) (fun k hk => by have := Option.some.inj hk; omega)); replace R1 := hide (R1.out.grown hg7 (fun e => by have := Option.some.inj e; omega)); replace HU := hide (und_grown HU.out hg7 (by omega) (by omega)); replace HL := hide (und_grown HL.out hg7 (by omega) (by omega)); replace RN := hide (RN.out.grown hg7 (fun e => by have := Option.some.inj e; omega)); have hsz8 := hg7.size; replace R2 := hide hr7; have q1_4 : wS7.cell? ⟨w.heap.size, 4, none⟩ = some (.slice AU nU cU) := R1.out.cell 4; have q3_0 : wS7.cell? ⟨wN.heap.size, 0, none⟩ = some (.int .i64 x.k) := RN.out.cell 0; clear hr7 hg7 hs7))
      exact bodyPost_ret (res_cell Tryz.results16 rfl viw_agg viw_size R2.out rfl) rfl ⟨none, 0, by rw [HV.out]; rfl, by rw [HV.out]; exact RdE.none_ _ _ _ _, HB.out⟩
  · rw [if_neg hk] at hV
    have hk1 : (x.k == 1) = false := by simpa using hk
    have hk2 : (x.k != 1) = true := by simpa using hk
    have hbf : bo = false := by rw [← hbo]; unfold opqD; simp [hk]
    subst hbf
    have HV := hide (show V = (0, rootsL ls 0) from by simpa using hV.symm)
    clear r0 r1 hb1 hW1 hu h hup hF hV hx hbo hk
    go_enter Tryz.func16, Tryz.ntmps16
    go_wp2_with (first | (go_at_call 52; refine (At_e HX.out W1 HU.out (by omega) (by have := HFU.out.1; omega)).mono ?_; rintro e1 wN ⟨A1, n1, c1, C1, m1, d1, rfl, -, -, -, -, hbel⟩; clear q1_4; replace HB := hide (HB.out.trans (hbel.mono HB.out.size)); replace R1 := hide (R1.out.on hbel); replace R2 := hide (R2.out.on hbel); replace HU := hide (HU.out.under hbel (by omega)); replace HL := hide (HL.out.under hbel (by omega)); have hsz2 := hbel.size; have q1_4 : wN.cell? ⟨w.heap.size, 4, none⟩ = some (.slice AU nU cU) := R1.out.cell 4; clear hbel) | (refine wpList_storeW rfl 71 (.tmp 3) (.tmp 6) rfl 13 nod_size (wN.heap.size) 71 rfl (nodC nod0 (.slice none 0 0) (.slice none 0 0)) (nodC x (.slice A1 n1 c1) (.slice C1 m1 d1)) rfl (RowL.new wN 71 (nodC nod0 (.slice none 0 0) (.slice none 0 0))) rfl rfl (nodC_one _ _ _ _ _ _ _) ?_; intro wS3 hr3 hg3 hs3; have hzb := below_stored' hg3; clear q1_4; replace HB := hide (HB.out.trans (hzb.mono HB.out.size)); replace R1 := hide (R1.out.on hzb); replace R2 := hide (R2.out.on hzb); replace HU := hide (HU.out.under hzb (by omega)); replace HL := hide (HL.out.under hzb (by omega)); have hsz4 := hzb.size; have q1_4 : wS3.cell? ⟨w.heap.size, 4, none⟩ = some (.slice AU nU cU) := R1.out.cell 4; have RN := hide hr3; have hlt3 := hr3.lt; have q3_0 : wS3.cell? ⟨wN.heap.size, 0, none⟩ = some (.int .i64 x.k) := RN.out.cell 0; clear hzb hr3; clear hg3 hs3) | (refine wpList_loadW rfl 29 (.tmp 1) rfl 6 stk_agg stk_size (w.heap.size) 29 rfl (stkC g (.slice AU nU cU) (.slice AL nL cL)) R1.out rfl ?_) | (go_at_call 57; refine (RRoots_f wS3 (und_up HL.out (by omega)) HF.out).mono ?_; rintro e5 wR ⟨A6, c6, rfl, h6, hbel⟩; clear q1_4 q3_0; replace HB := hide (HB.out.trans (hbel.mono HB.out.size)); replace R1 := hide (R1.out.on hbel); replace R2 := hide (R2.out.on hbel); replace HU := hide (HU.out.under hbel (by omega)); replace HL := hide (HL.out.under hbel (by omega)); replace RN := hide (RN.out.on hbel); have hsz6 := hbel.size; have q1_4 : wR.cell? ⟨w.heap.size, 4, none⟩ = some (.slice AU nU cU) := R1.out.cell 4; have q3_0 : wR.cell? ⟨wN.heap.size, 0, none⟩ = some (.int .i64 x.k) := RN.out.cell 0; have H6 := hide h6; clear h6; clear hbel) | (refine wpList_storeW rfl 32 (.tmp 2) (.tmp 12) rfl 2 viw_size (w.heap.size + 1) 32 rfl (viwC 0 (.slice none 0 0)) (viwC 0 (.slice A6 (rootsL ls 0).length c6)) rfl R2.out rfl rfl (viwC_one _ _ _ _) ?_; intro wS7 hr7 hg7 hs7; clear q1_4 q3_0; replace HB := hide (HB.out.grown hg7 (by omega) (fun k hk => by have := Option.some.inj hk; omega)); replace R1 := hide (R1.out.grown hg7 (fun e => by have := Option.some.inj e; omega)); replace HU := hide (und_grown HU.out hg7 (by omega) (by omega)); replace HL := hide (und_grown HL.out hg7 (by omega) (by omega)); replace RN := hide (RN.out.grown hg7 (fun e => by have := Option.some.inj e; omega)); replace H6 := hide (fr_grown H6.out hg7 (by omega)); have hsz8 := hg7.size; replace R2 := hide hr7; have q1_4 : wS7.cell? ⟨w.heap.size, 4, none⟩ = some (.slice AU nU cU) := R1.out.cell 4; have q3_0 : wS7.cell? ⟨wN.heap.size, 0, none⟩ = some (.int .i64 x.k) := RN.out.cell 0; clear hr7 hg7 hs7))
    exact bodyPost_ret (res_cell Tryz.results16 rfl viw_agg viw_size R2.out rfl) rfl ⟨A6, c6, by rw [HV.out], by rw [HV.out]; exact fr_low H6.out (by omega), HB.out⟩
end Go.Proofs.YtnehkgbdppbhiaaGreat

/- Contracts of strings.Cut and CutPrefix at a stroke. -/
namespace Go.Proofs.YtnehkgbdppbhiaaGreat
open Go.RowKit Plain

theorem index_no {l : List UInt8} (h : ∀ c ∈ l, c ≠ 47) : Lib.indexByte l 47 = -1 := by
  induction l with
  | nil => rfl
  | cons x r ih =>
    have hx : (x == 47) = false := by simpa using h x List.mem_cons_self
    have hr := ih (fun c hc => h c (List.mem_cons_of_mem _ hc))
    unfold Lib.indexByte
    rw [hx, hr]
    rfl
theorem index_yes {p q : List UInt8} (h : ∀ c ∈ p, c ≠ 47) : Lib.indexByte (p ++ 47 :: q) 47 = p.length := by
  induction p with
  | nil => rfl
  | cons x r ih =>
    have hx : (x == 47) = false := by simpa using h x List.mem_cons_self
    have hr := ih (fun c hc => h c (List.mem_cons_of_mem _ hc))
    rw [List.cons_append]
    unfold Lib.indexByte
    rw [hx, hr]
    have : (((r.length : Nat) : Int) == -1) = false := by simp
    rw [this]
    simp

/-- It returns what stands ahead, what stands behind, and whether there is a stroke; nothing has turned but draws. -/
def CutRet (w : World) (p q : List UInt8) (b : Bool) (x : Ending) (w' : World) : Prop := x = .returned (.tuple #[st p, st q, .bool b]) ∧ ∃ n, w' = w.drewN n

set_option maxHeartbeats 400000 in
theorem CutL_no {l : List UInt8} (h : ∀ c ∈ l, c ≠ 47) (w : World) :
    Calls Tryz.prog 157 #[st l, .string ⟨#[47]⟩] w (CutRet w l [] false) := by
  have hc := fun (w : World) => Tryz.stringslite_Index_one ⟨l.toArray⟩ 47 w
  simp only [index_no h] at hc
  have HC := hide hc
  clear hc h
  unfold st
  go_enter Tryz.func157, Tryz.ntmps157
  go_wp2_with fail
  refine (HC.out _).mono ?_
  rintro e w' ⟨rfl, rfl⟩
  go_wp2_with fail
  go_ret3
  exact ⟨rfl, 0, rfl⟩

set_option maxHeartbeats 400000 in
theorem CutL_yes {p q : List UInt8} (h : ∀ c ∈ p, c ≠ 47) (w : World) (hn : (p ++ 47 :: q).length ≤ 140737488355328) :
    Calls Tryz.prog 157 #[st (p ++ 47 :: q), .string ⟨#[47]⟩] w (CutRet w p q true) := by
  have hc := fun (w : World) => Tryz.stringslite_Index_one ⟨(p ++ 47 :: q).toArray⟩ 47 w
  simp only [index_yes h] at hc
  have HC := hide hc
  obtain ⟨l, hl⟩ : ∃ l, p ++ 47 :: q = l := ⟨_, rfl⟩
  rw [hl] at HC hn ⊢
  have hln : p.length + 1 ≤ l.length := by rw [← hl]; simp
  have HL := hide hl
  clear hc h hl
  unfold st
  have c1 : (0 : Int) ≤ (p.length : Int) := by omega
  have c2 : (p.length : Int) ≤ (l.length : Int) := by omega
  have c3 : (0 : Int) ≤ (p.length : Int) + 1 := by omega
  have c4 : (p.length : Int) + 1 ≤ (l.length : Int) := by omega
  have hw1 : IntKind.i64.wrap ((p.length : Int) + 1) = (p.length : Int) + 1 := IntWalk.i64_in _ (by omega)
  have hw2 : ((p.length : Int) + 1).toNat = p.length + 1 := by omega
  go_enter Tryz.func157, Tryz.ntmps157
  go_wp2_with fail
  refine (HC.out _).mono ?_
  rintro e w' ⟨rfl, rfl⟩
  go_wp2_with fail
  go_region
  go_wp2
  go_ret3
  have hl := HL.out
  have e1 : ({ data := l.toArray } : ByteArray).extract 0 p.length = ⟨p.toArray⟩ := by rw [Lib.extract_eq, ← hl]; simp
  have e2 : ({ data := l.toArray } : ByteArray).extract (p.length + 1) l.length = ⟨q.toArray⟩ := by
    rw [Lib.extract_eq, ← hl]
    simp
    exact List.take_of_length_le (by omega)
  refine ⟨?_, 1, rfl⟩
  show Ending.returned (.tuple #[.string (({ data := l.toArray } : ByteArray).extract 0 p.length), .string (({ data := l.toArray } : ByteArray).extract (p.length + 1) l.length), .bool true]) = _
  rw [e1, e2]
  rfl
theorem Cut_of {l p q : List UInt8} {b : Bool} (h : ∀ w : World, Calls Tryz.prog 157 #[st l, .string ⟨#[47]⟩] w (CutRet w p q b)) (w : World) :
    Calls Tryz.prog 138 #[st l, .string ⟨#[47]⟩] w (CutRet w p q b) := by
  have H := hide h
  clear h
  unfold st
  go_enter Tryz.func138, Tryz.ntmps138
  go_wp2_with fail
  refine (H.out _).mono ?_
  rintro e w' ⟨rfl, n, rfl⟩
  go_wp2_with fail
  go_ret3
  exact ⟨rfl, n, rfl⟩
theorem Cut_no {l : List UInt8} (h : ∀ c ∈ l, c ≠ 47) (w : World) : Calls Tryz.prog 138 #[st l, .string ⟨#[47]⟩] w (CutRet w l [] false) := Cut_of (fun w => CutL_no h w) w
theorem Cut_yes {p q : List UInt8} (h : ∀ c ∈ p, c ≠ 47) (w : World) (hn : (p ++ 47 :: q).length ≤ 140737488355328) : Calls Tryz.prog 138 #[st (p ++ 47 :: q), .string ⟨#[47]⟩] w (CutRet w p q true) := Cut_of (fun w => CutL_yes h w hn) w
end Go.Proofs.YtnehkgbdppbhiaaGreat

/- Contracts of the program's name.Right, of its closure, and of the library's searches that it calls. -/
namespace Go.Proofs.YtnehkgbdppbhiaaGreat
open Go.RowKit Plain

def lettersL : List UInt8 := [97, 98, 99, 100, 101, 102, 103, 104, 105, 106, 107, 108, 109, 110, 111, 112, 113, 114, 115, 116, 117, 118, 119, 120, 121, 122, 48, 49, 50, 51, 52, 53, 54, 55, 56, 57, 46, 95, 45]
theorem letters_fin : ∀ x : Fin 256, decide (Lib.indexByte lettersL x.val.toUInt8 < 0) = !letB x.val := by decide +kernel
theorem letters_any {x : Nat} (hx : x < 256) : decide (Lib.indexByte lettersL ((x : Int).toNat.toUInt8) < 0) = !letB x := by
  have := letters_fin ⟨x, hx⟩
  simpa using this

set_option maxHeartbeats 400000 in
theorem Strange_any {x : Nat} (hx : x < 256) (w : World) :
    Calls Tryz.prog 141 #[.int .u8 x] w fun e w' => e = .returned (.bool (!letB x)) ∧ w = w' := by
  obtain ⟨r, hr⟩ : ∃ r, Lib.indexByte lettersL ((x : Int).toNat.toUInt8) = r := ⟨_, rfl⟩
  have hl := letters_any hx
  rw [hr] at hl
  have HL := hide hl
  have hc := Tryz.strings_IndexByte ⟨lettersL.toArray⟩ x w
  rw [show (⟨lettersL.toArray⟩ : ByteArray).data.toList = lettersL from rfl, hr] at hc
  have HC := hide hc
  clear hl hr hc
  go_enter Tryz.func141, Tryz.ntmps141
  go_wp2_with fail
  refine HC.out.mono ?_
  rintro e w' ⟨rfl, rfl⟩
  go_wp2_with fail
  go_ret
  exact ⟨ret_bool HL.out, rfl⟩
/-- Go's function value of the closure. -/
abbrev strangeV : Value := .func (.func 141) #[] #[]
/-- It returns -1 exactly if all bytes are letters; else a place; the world stays. -/
def Found (w : World) (b : Bool) (e : Ending) (w' : World) : Prop := ∃ r : Int, e = .returned (.int .i64 r) ∧ decide (0 ≤ r) = !b ∧ w = w'

set_option maxHeartbeats 400000 in
theorem IndexFunc_b {A : Option Addr} {m c B : Nat} {l : List UInt8} {b : Bool} (w : World) (ha : Bs w B A m l) (hm : m ≤ 140737488355328) (h : (l.all fun x => letB x.toNat) = b) :
    Calls Tryz.prog 161 #[.slice A m c, strangeV] w (Found w b) := by
  have HB := hide h
  have HA := hide ha
  have hl := ha.len
  clear h ha
  go_enter Tryz.func161, Tryz.ntmps161
  go_wp2_with fail
  go_loop [8] (fun i => ∃ k : Nat, k ≤ m ∧ i = .int .i64 k ∧ ((l.take k).all fun x => letB x.toNat) = true) (fun i => m - (intOf i).toNat)
  case atStart => exact ⟨0, Nat.zero_le _, rfl, rfl⟩
  case round =>
    obtain ⟨k, hk, rfl, hall⟩ := hrel
    have HALL := hide hall
    clear hall
    by_cases hlt : k < m
    · obtain ⟨bb, o, rfl, _, hcell⟩ := HA.out.2 (by omega)
      have hkl : k < l.length := by omega
      have hx := hcell k l[k] (List.getElem?_eq_getElem hkl)
      have hb := l[k].toNat_lt
      clear hcell
      obtain ⟨x, hxe⟩ : ∃ x : Nat, l[k].toNat = x := ⟨_, rfl⟩
      simp only [bv, hxe] at hx
      rw [hxe] at hb
      have hts := all_take_succ (p := fun x => letB x.toNat) hkl
      have haf := all_false (p := fun x => letB x.toNat) hkl
      simp only [hxe] at hts haf
      have HTS := hide hts
      have HAF := hide haf
      clear hts haf hxe
      cases hb2 : letB x with
      | true =>
        have HB2 := hide hb2
        clear hb2 hkl hl
        go_wp2_with fail
        refine (Strange_any hb _).mono ?_
        rw [HB2.out]
        rintro e w' ⟨rfl, rfl⟩
        go_wp2_with fail
        go_round
        case rel => exact ⟨k + 1, by omega, by go_num, by rw [HTS.out, HALL.out, HB2.out]; rfl⟩
        case measure => simp [intOf]; omega
      | false =>
        have hbf : b = false := by rw [← HB.out]; exact HAF.out hb2
        have HB2 := hide hb2
        have HBF := hide hbf
        clear hb2 hbf hkl hl
        go_wp2_with fail
        refine (Strange_any hb _).mono ?_
        rw [HB2.out]
        rintro e w' ⟨rfl, rfl⟩
        go_wp2_with fail
        go_ret
        rw [HBF.out]
        exact ⟨_, rfl, by simp, rfl⟩
    · have hbt : b = true := by
        rw [← HB.out]
        have := HALL.out
        rwa [List.take_of_length_le (by omega)] at this
      have HBT := hide hbt
      clear hbt hl
      go_wp2_with fail
      go_ret
      rw [HBT.out]
      exact ⟨_, rfl, by simp, rfl⟩

set_option maxHeartbeats 400000 in
theorem ContainsFunc_b {A : Option Addr} {m c B : Nat} {l : List UInt8} {b : Bool} (w : World) (ha : Bs w B A m l) (hm : m ≤ 140737488355328) (h : (l.all fun x => letB x.toNat) = b) :
    Calls Tryz.prog 143 #[.slice A m c, strangeV] w fun e w' => e = .returned (.bool (!b)) ∧ w = w' := by
  have HB := hide h
  have HA := hide ha
  clear h ha
  go_enter Tryz.func143, Tryz.ntmps143
  go_wp2_with fail
  refine (IndexFunc_b _ HA.out hm HB.out).mono ?_
  rintro e w' ⟨r, rfl, hr, rfl⟩
  have HR := hide hr
  clear hr
  go_wp2_with fail
  go_ret
  exact ⟨ret_bool HR.out, rfl⟩
end Go.Proofs.YtnehkgbdppbhiaaGreat

/- Contracts of the program's name.Right and Pack. -/
namespace Go.Proofs.YtnehkgbdppbhiaaGreat
open Go.RowKit Plain

set_option maxHeartbeats 400000 in
theorem NRight_any (l : List UInt8) (w : World) (hl : l.length ≤ 140737488355328) :
    Calls Tryz.prog 124 #[st l] w (BoolB w (nameB l)) := by
  unfold st
  by_cases h1 : l = []
  · subst h1
    go_enter Tryz.func124, Tryz.ntmps124
    go_wp2_with fail
    go_ret
    exact BoolB.of (below_self w)
  by_cases h2 : 12 < l.length
  · have hr : nameB l = false := by
      have : decide (1 ≤ l.length ∧ l.length ≤ 12) = false := by simp; omega
      simp [nameB, this]
    rw [hr]
    clear hr
    have e1 : ¬ l = [] := h1
    have d1 : (l == []) = false := by simpa using h1
    have d2 : decide ((12 : Int) < (l.length : Int)) = true := by simp; omega
    clear h1
    go_enter Tryz.func124, Tryz.ntmps124
    go_wp2_with fail
    go_ret
    exact BoolB.of (below_self w)
  by_cases h3 : l = [46]
  · subst h3
    go_enter Tryz.func124, Tryz.ntmps124
    go_wp2_with fail
    go_ret
    exact BoolB.of (below_self w)
  by_cases h4 : l = [46, 46]
  · subst h4
    go_enter Tryz.func124, Tryz.ntmps124
    go_wp2_with fail
    go_ret
    exact BoolB.of (below_self w)
  have d2 : decide ((12 : Int) < (l.length : Int)) = false := by simp; omega
  have d1 : (l == []) = false := by simpa using h1
  have d3 : (l == [46]) = false := by simpa using h3
  have d4 : (l == [46, 46]) = false := by simpa using h4
  have hr : nameB l = l.all fun x => letB x.toNat := by
    have hpos : 0 < l.length := List.length_pos_iff.2 h1
    have : decide (1 ≤ l.length ∧ l.length ≤ 12) = true := by simp; omega
    simp [nameB, this, d3, d4]
  obtain ⟨b, hb⟩ : ∃ b, nameB l = b := ⟨_, rfl⟩
  rw [hb]
  rw [hr] at hb
  have HB := hide hb
  clear hr hb h1 h3 h4 h2
  have kc := Lib.run_convert_string_bytes (P := Tryz.prog) w 9 64 5 ⟨l.toArray⟩ Tryz.underlying9 Tryz.underlying64 Tryz.underlying5
  go_enter Tryz.func124, Tryz.ntmps124
  go_wp2_with fail
  clear kc
  refine (ContainsFunc_b _ (Bs.bytesWorld w 5 l) hl HB.out).mono ?_
  rintro e w' ⟨rfl, rfl⟩
  go_wp2_with fail
  go_ret
  exact BoolB.eq (by simp) (below_bytesWorld _ _ _)
theorem NRight_b {l : List UInt8} {b : Bool} (h : nameB l = b) (w : World) (hl : l.length ≤ 140737488355328) :
    Calls Tryz.prog 124 #[st l] w (BoolB w b) := by
  have := NRight_any l w hl; rw [h] at this; exact this
end Go.Proofs.YtnehkgbdppbhiaaGreat

/- Paths there and back (layer 4): what is split is joined again; what is clean is split, and is clean again. Nothing here speaks of a program. -/
namespace Go.Proofs.YtnehkgbdppbhiaaGreat.Plain
theorem snoc_ind {α : Type} {P : List α → Prop} (h0 : P []) (h1 : ∀ l x, P l → P (l ++ [x])) : ∀ l, P l := by
  intro l
  rw [← List.reverse_reverse l]
  generalize l.reverse = r
  induction r with
  | nil => exact h0
  | cons x r ih => rw [List.reverse_cons]; exact h1 _ _ ih
theorem joinS_nil : joinS [] = [47] := rfl
theorem joinS_head (l : List (List UInt8)) : ∃ b, joinS l = 47 :: b := by
  induction l using snoc_ind with
  | h0 => exact ⟨[], rfl⟩
  | h1 l x ih =>
    obtain ⟨b, hb⟩ := ih
    rw [joinS_snoc, hb]
    split
    · exact ⟨b ++ x, rfl⟩
    · exact ⟨b ++ [47] ++ x, rfl⟩
theorem fold_noslash (x : List UInt8) (hx : ∀ c ∈ x, c ≠ 47) : ∀ (o : List (List UInt8)) (y : List UInt8), x.foldl stepP (o ++ [y]) = o ++ [y ++ x] := by
  induction x with
  | nil => intro o y; simp
  | cons c r ih =>
    intro o y
    rw [List.foldl_cons]
    have hc : c ≠ 47 := hx c List.mem_cons_self
    have hs : stepP (o ++ [y]) c = o ++ [y ++ [c]] := by
      unfold stepP
      rw [if_neg hc]
      have hl : (o ++ [y]).length - 1 = o.length := by simp
      rw [hl, List.set_append_right _ _ (Nat.le_refl _), Nat.sub_self, List.set_cons_zero]
      have hg : (o ++ [y]).getD o.length [] = y := by simp [List.getD]
      rw [hg]
    rw [hs, ih (fun c hc => hx c (List.mem_cons_of_mem _ hc))]
    simp
theorem parts_join {l : List (List UInt8)} (h : ∀ x ∈ l, ∀ c ∈ x, c ≠ 47) : partsS (joinS l) = if l = [] then [[]] else l := by
  induction l using snoc_ind with
  | h0 => rfl
  | h1 l x ih =>
    have ih := ih (fun y hy => h y (List.mem_append_left _ hy))
    have hx := h x (List.mem_append_right _ (List.mem_singleton.2 rfl))
    rw [if_neg (by simp), joinS_snoc]
    by_cases hl : l = []
    · subst hl
      simp only [List.length_nil, if_true]
      show ((x.foldl stepP ([] ++ [[]])) : List (List UInt8)) = [] ++ [x]
      rw [fold_noslash x hx]
      rfl
    · have hll : ¬ l.length = 0 := by intro e; exact hl (List.eq_nil_of_length_eq_zero e)
      rw [if_neg hll]
      rw [if_neg hl] at ih
      obtain ⟨b, hb⟩ := joinS_head l
      rw [hb] at ih ⊢
      have ih2 : b.foldl stepP [[]] = l := ih
      show ((b ++ [47] ++ x).foldl stepP [[]]) = l ++ [x]
      rw [List.foldl_append, List.foldl_append, ih2]
      have h47 : List.foldl stepP l [47] = l ++ [[]] := rfl
      rw [h47, fold_noslash x hx]
      rfl
theorem join_parts {s : List UInt8} (h : headB s = true) : joinS (partsS s) = s := by
  obtain ⟨r, rfl⟩ : ∃ r, s = 47 :: r := by
    cases s with
    | nil => simp [headB] at h
    | cons c r => exact ⟨r, by have : c = 47 := by simpa [headB] using h
                               rw [this]⟩
  show joinS (r.foldl stepP [[]]) = 47 :: r
  suffices hh : (r.foldl stepP [[]]) ≠ [] ∧ joinS (r.foldl stepP [[]]) = 47 :: r from hh.2
  clear h
  induction r using snoc_ind with
  | h0 => exact ⟨by simp, rfl⟩
  | h1 r c ih =>
    obtain ⟨ih1, ih2⟩ := ih
    rw [List.foldl_append, List.foldl_cons, List.foldl_nil]
    generalize r.foldl stepP [[]] = P at ih1 ih2 ⊢
    by_cases hc : c = 47
    · subst hc
      have hs : stepP P 47 = P ++ [[]] := rfl
      rw [hs]
      refine ⟨by simp, ?_⟩
      rw [joinS_snoc, if_neg (by intro e; exact ih1 (List.eq_nil_of_length_eq_zero e)), ih2]
      simp
    · obtain ⟨Q, y, rfl⟩ : ∃ Q y, P = Q ++ [y] := ⟨P.dropLast, P.getLast ih1, (List.dropLast_concat_getLast ih1).symm⟩
      have hs : stepP (Q ++ [y]) c = Q ++ [y ++ [c]] := by
        have := fold_noslash [c] (by intro d hd; rw [List.mem_singleton] at hd; rw [hd]; exact hc) Q y
        simpa using this
      rw [hs]
      refine ⟨by simp, ?_⟩
      rw [joinS_snoc, ← List.append_assoc, ← joinS_snoc, ih2]
      rfl
theorem nameB_noslash {x : List UInt8} (h : nameB x = true) : ∀ c ∈ x, c ≠ 47 := by
  intro c hc e
  simp only [nameB, Bool.and_eq_true, List.all_eq_true] at h
  have := h.2 c hc
  subst e
  simp [letB] at this
theorem nameB_not {x : List UInt8} (h : nameB x = true) : ¬ (x = [] ∨ x = [46]) ∧ ¬ x = [46, 46] := by
  refine ⟨?_, ?_⟩
  · rintro (rfl | rfl) <;> simp [nameB] at h
  · rintro rfl; simp [nameB] at h
theorem left_names {l : List (List UInt8)} (h : l.all nameB = true) : leftS l = some l := by
  induction l using snoc_ind with
  | h0 => rfl
  | h1 l x ih =>
    rw [List.all_append, Bool.and_eq_true] at h
    have hx : nameB x = true := by simpa using h.2
    rw [leftS_snoc, ih h.1]
    obtain ⟨n1, n2⟩ := nameB_not hx
    simp only [stepC, if_neg n1, if_neg n2, hx, if_true]
theorem left_all {l o : List (List UInt8)} (h : leftS l = some o) : o.all nameB = true := by
  induction l using snoc_ind generalizing o with
  | h0 => cases h; rfl
  | h1 l x ih =>
    rw [leftS_snoc] at h
    cases hl : leftS l with
    | none => rw [hl] at h; cases h
    | some o1 =>
      rw [hl] at h
      have i1 := ih hl
      unfold stepC at h
      simp only at h
      split at h
      · cases h; exact i1
      · split at h
        · split at h
          · cases h
          · cases h
            rw [List.all_eq_true] at i1 ⊢
            exact fun y hy => i1 y (List.dropLast_subset _ hy)
        · split at h
          · rename_i hx
            cases h
            rw [List.all_append, i1]
            simpa using hx
          · cases h
theorem split_join {o : List (List UInt8)} (h : o.all nameB = true) : splitB (joinS o) = true ∧ splitS (joinS o) = o := by
  have hn : ∀ x ∈ o, ∀ c ∈ x, c ≠ 47 := fun x hx => nameB_noslash (List.all_eq_true.1 h x hx)
  have hp := parts_join hn
  by_cases ho : o = []
  · subst ho; exact ⟨rfl, rfl⟩
  · rw [if_neg ho] at hp
    obtain ⟨b, hb⟩ := joinS_head o
    have hh : headB (joinS o) = true := by rw [hb]; rfl
    have hne : joinS o ≠ [47] := by
      intro e
      rw [e] at hp
      have : partsS [47] = [[]] := rfl
      rw [this] at hp
      rw [← hp] at h
      simp [nameB] at h
    refine ⟨?_, ?_⟩
    · unfold splitB
      rw [hh, hp, h]
      simp
    · unfold splitS
      rw [if_neg hne, hh, hp, h]
      rfl
theorem clean_join {o : List (List UInt8)} (h : o.all nameB = true) : cleanB (joinS o) = true ∧ cleanS (joinS o) = joinS o := by
  have hn : ∀ x ∈ o, ∀ c ∈ x, c ≠ 47 := fun x hx => nameB_noslash (List.all_eq_true.1 h x hx)
  have hp := parts_join hn
  obtain ⟨b, hb⟩ := joinS_head o
  have hh : headB (joinS o) = true := by rw [hb]; rfl
  have hl : leftS (partsS (joinS o)) = some o := by
    rw [hp]
    by_cases ho : o = []
    · subst ho; rfl
    · rw [if_neg ho]; exact left_names h
  refine ⟨?_, ?_⟩
  · unfold cleanB; rw [hh, hl]; rfl
  · unfold cleanS; rw [if_pos hh, hl]
/-- What is split is joined again, and is clean. -/
theorem split_back {s : List UInt8} (h : splitB s = true) : joinS (splitS s) = s ∧ cleanB s = true ∧ cleanS s = s := by
  have key : (splitS s).all nameB = true ∧ joinS (splitS s) = s := by
    by_cases h1 : s = [47]
    · subst h1; exact ⟨rfl, rfl⟩
    · have h2 : (headB s && (partsS s).all nameB) = true := by
        unfold splitB at h
        rw [Bool.or_eq_true, beq_iff_eq] at h
        rcases h with h | h
        · exact absurd h h1
        · exact h
      unfold splitS
      rw [if_neg h1, if_pos h2]
      rw [Bool.and_eq_true] at h2
      exact ⟨h2.2, join_parts h2.1⟩
  obtain ⟨k1, k2⟩ := key
  have := clean_join k1
  rw [k2] at this
  exact ⟨k2, this⟩
/-- What is clean is split, and is clean again. -/
theorem clean_back {s : List UInt8} (h : cleanB s = true) : splitB (cleanS s) = true ∧ joinS (splitS (cleanS s)) = cleanS s ∧ cleanB (cleanS s) = true ∧ cleanS (cleanS s) = cleanS s := by
  unfold cleanB at h
  rw [Bool.and_eq_true, Option.isSome_iff_exists] at h
  obtain ⟨hh, o, ho⟩ := h
  have hc : cleanS s = joinS o := by unfold cleanS; rw [if_pos hh, ho]
  have ha := left_all ho
  obtain ⟨s1, s2⟩ := split_join ha
  obtain ⟨c1, c2⟩ := clean_join ha
  rw [hc]
  exact ⟨s1, by rw [s2], c1, c2⟩
theorem clean_none {s : List UInt8} (h : cleanB s = false) : cleanS s = [] := by
  unfold cleanB at h
  unfold cleanS
  by_cases hh : headB s = true
  · rw [if_pos hh]
    rw [hh] at h
    cases hl : leftS (partsS s) with
    | none => rfl
    | some o => rw [hl] at h; cases h
  · rw [if_neg hh]
end Go.Proofs.YtnehkgbdppbhiaaGreat.Plain

/- Contracts of the reference's Join and Begins (layer 4). -/
namespace Go.Proofs.YtnehkgbdppbhiaaGreat
open Go.RowKit Plain

/-- Are these the first ones of the others? -/
def beginsS (a b : List (List UInt8)) : Bool := decide (a.length ≤ b.length) && a == b.take a.length

end Go.Proofs.YtnehkgbdppbhiaaGreat

/- The contract of the reference's parts (layer 4). -/
namespace Go.Proofs.YtnehkgbdppbhiaaGreat
open Go.RowKit Plain
theorem ext_one {s : List UInt8} {j : Nat} (h : j < s.length) : ByteArray.extract ⟨s.toArray⟩ j (j + 1) = ⟨[s[j]].toArray⟩ := by
  apply ByteArray.ext
  simp only [ByteArray.data_extract]
  apply Array.toList_inj.1
  rw [Array.toList_extract]
  simp only [List.extract_eq_take_drop, Nat.add_sub_cancel_left, List.toList_toArray]
  rw [List.drop_eq_getElem_cons h]
  rfl

set_option maxRecDepth 100000 in
set_option maxHeartbeats 1600000 in
theorem Rparts_any {s : List UInt8} (w : World) (hm : s.length ≤ 1000000) :
    Calls Tryz.prog 121 #[st s] w (ORet st w 9 (partsS s).length (partsS s)) := by
  show Calls _ _ #[.string ⟨s.toArray⟩] _ _
  go_enter Tryz.func121, Tryz.ntmps121
  go_wp2_with fail
  go_loopw [3, 4] (fun v i wr => ∃ (j p : Nat) (o : List (List UInt8)), 1 ≤ j ∧ (j ≤ s.length ∨ j = 1) ∧ i = .int .i64 j ∧ o = partsTo s j ∧ (∃ A c, v = .slice A p c ∧ Ow st wr w.heap.size 9 A p c o) ∧ Below w.heap.size w wr) (fun _ i _ => s.length - (intOf i).toNat)
  case atStart => exact ⟨1, 1, [[]], by omega, .inr rfl, rfl, (partsTo_one s).symm, ⟨_, _, rfl, Ow.lit w _ (cs := [.string ⟨#[]⟩]) rfl rfl (by omega)⟩, below_new (below_self w) _⟩
  case round =>
    obtain ⟨j, p, o, hj1, hj2, rfl, hoe, ⟨A1, c1, rfl, hown⟩, hbel⟩ := hrel
    obtain ⟨hp1, hp2, hp3⟩ := partsTo_len s j
    rw [← hoe] at hp1 hp2 hp3
    have hop := hown.len
    rw [hop] at hp1 hp2
    have HO := hide hown
    have HB := hide hbel
    by_cases hlt : j < s.length
    · obtain ⟨x, hx⟩ : ∃ x, x = s[j] := ⟨_, rfl⟩
      have hjs : j < ByteArray.size ⟨s.toArray⟩ := hlt
      have hbj : (⟨s.toArray⟩ : ByteArray)[j]'hjs = x := hx.symm
      have hs := partsTo_succ hj1 hlt
      rw [← hoe, ← hx] at hs
      by_cases hc : x = 47
      · have hs2 : partsTo s (j + 1) = o ++ [[]] := by rw [hs]; simp [stepP, hc]
        have HS := hide hs2
        have htest : ((x.toNat : Int) == 47) = true := by rw [hc]; rfl
        clear hs hs2 hown hbel hoe hp3 hj2 hop hx hc
        go_wp2_with (at_builtin; refine wpList_append_Rd _ rfl (.tmp 16) (.tmp 17) 44 rfl w.heap.size 9 _ 16 Tryz.underlying44 info_st rfl st_one _ p _ o rfl (HO.out.alloc _) _ _ 1 1 _ rfl (Rd.one _ _ rfl) (p + 1) rfl (by omega) (by omega) (by have := HB.out.size; simp; omega) ?_; intro A2 c2 w1 hown1 hbel1; have HO1 := hide hown1; have HB1 := hide ((HB.out.alloc HB.out.size _).trans hbel1); clear hown1 hbel1)
        go_roundw
        case rel => exact ⟨j + 1, p + 1, _, by omega, by omega, by go_num, HS.out.symm, ⟨_, _, rfl, HO1.out⟩, HB1.out⟩
        case measure => simp [intOf]; omega
      · obtain ⟨g, rfl, hg, hgl, hcg, hfz⟩ := hown.at_ (by omega)
        obtain ⟨y, hy⟩ : ∃ y, y = o.getD (p - 1) [] := ⟨_, rfl⟩
        have hcell := hcg (p - 1) y (by rw [hy]; simp only [List.getD]; rw [List.getElem?_eq_getElem (by omega)]; rfl)
        have hyl : y.length ≤ j := by
          apply hp3
          rw [hy]
          simp only [List.getD]
          rw [List.getElem?_eq_getElem (by omega)]
          exact List.getElem_mem (by omega)
        obtain ⟨z, hz⟩ : ∃ z, y ++ [x] = z := ⟨_, rfl⟩
        have hs2 : partsTo s (j + 1) = o.set (p - 1) z := by rw [hs]; simp only [stepP, if_neg hc, hop, ← hy, hz]
        have hex := ext_one hlt
        rw [← hx] at hex
        have ad := add_lists (P := Tryz.prog) (x := y) (y := [x]) (by simp; omega) hz
        have hst := hown.drew.set_ (p := p - 1) (u := st z) (y := z) rfl
        have hbs := hbel.drew.setCell (p := ⟨g, p - 1, none⟩) hg (st z)
        have hf := hfz (p - 1)
        have htest : ((x.toNat : Int) == 47) = false := by
          simp only [beq_eq_false_iff_ne, ne_eq]
          intro e
          apply hc
          apply UInt8.toNat_inj.1
          have : x.toNat = 47 := by omega
          rw [this]
          rfl
        have HS := hide hs2
        have HST := hide hst
        have HBS := hide hbs
        unfold st at hcell
        clear hs hs2 hown hbel hoe hp3 hj2 hop hx hc hy hz hcg hfz hst hbs
        have hw1 : IntKind.i64.wrap ((p : Int) - 1) = (p : Int) - 1 := IntWalk.i64_in _ (by omega)
        have hw2 : ((p : Int) - 1).toNat = p - 1 := by omega
        have hw3 : (0 : Int) ≤ (p : Int) - 1 := by omega
        have hw4 : (p : Int) - 1 < (p : Int) := by omega
        have hw5 : IntKind.i64.wrap ((j : Int) + 1) = (j : Int) + 1 := IntWalk.i64_in _ (by omega)
        have hw6 : ((j : Int) + 1).toNat = j + 1 := by omega
        go_wp2
        have hw7 : (1 : Int) ≤ (p : Int) := by omega
        have hw8 : (0 : Int) ≤ (j : Int) + 1 := by omega
        have hw9 : (j : Int) + 1 ≤ (s.length : Int) := by omega
        have hw10 : (j : Int) ≤ (j : Int) + 1 := by omega
        go_still_tail 17, (by kernel_rfl)
        change wpList _ _ _ _ _ wr.drew
        clear hw1 hw2 hw3 hw4 hw5 hw6 hw7 hw8 hw9 hw10 ad hex hbj
        go_wp2
        go_roundw
        case rel => exact ⟨j + 1, p, _, by omega, by omega, by go_num, HS.out.symm, ⟨_, _, rfl, HST.out⟩, HBS.out⟩
        case measure => simp [intOf]; omega
    · have hpe : o = partsS s := by rw [hoe]; exact partsTo_all (by omega)
      have HPE := hide hpe
      have HOP := hide hop
      clear hown hbel hoe hp3 hop hpe
      go_wp2
      go_ret
      rw [← HPE.out, HOP.out]
      exact HO.out.ret HB.out
end Go.Proofs.YtnehkgbdppbhiaaGreat

/- The contract of the reference's Split (layer 4). -/
namespace Go.Proofs.YtnehkgbdppbhiaaGreat
open Go.RowKit Plain

/-- It returns a row of its own with the texts, and a bool; nothing that was there has turned. -/
def LRet (w : World) (e : Nat) (l : List (List UInt8)) (b : Bool) (x : Ending) (w' : World) : Prop :=
  ∃ A n c, x = .returned (.tuple #[.slice A n c, .bool b]) ∧ Ow st w' w.heap.size e A n c l ∧ Below w.heap.size w w'
theorem LRet.nil {w w' : World} {e : Nat} {b : Bool} (h : Below w.heap.size w w') : LRet w e [] b (.returned (.tuple #[.slice none 0 0, .bool b])) w' := ⟨none, 0, 0, rfl, Ow.nil_ _ _ _ _, h⟩

set_option maxHeartbeats 800000 in
theorem RSplit_one (w : World) : Calls Tryz.prog 86 #[st [47]] w (LRet w 9 [] true) := by
  show Calls _ _ #[.string ⟨#[47]⟩] _ _
  go_enter Tryz.func86, Tryz.ntmps86
  go_wp2
  go_ret2
  exact LRet.nil (below_self w)

set_option maxHeartbeats 800000 in
theorem RSplit_no {s : List UInt8} (w : World) (h1 : s ≠ [47]) (h : headB s = false) : Calls Tryz.prog 86 #[st s] w (LRet w 9 [] false) := by
  show Calls _ _ #[.string ⟨s.toArray⟩] _ _
  have hb : (s == [47]) = false := by simpa using h1
  cases s with
  | nil =>
    clear h h1
    go_enter Tryz.func86, Tryz.ntmps86
    go_wp2
    go_ret2
    exact LRet.nil (below_self w)
  | cons c r =>
    have hc : c ≠ 47 := by simpa [headB] using h
    have hj : 0 < ByteArray.size ⟨(c :: r).toArray⟩ := by simp [ByteArray.size]
    have hbj : (⟨(c :: r).toArray⟩ : ByteArray)[0]'hj = c := rfl
    have htest : ((c.toNat : Int) != 47) = true := by
      simp only [bne_iff_ne, ne_eq]
      intro e
      apply hc
      apply UInt8.toNat_inj.1
      have : c.toNat = 47 := by omega
      rw [this]
      rfl
    clear h h1 hc
    go_enter Tryz.func86, Tryz.ntmps86
    go_wp2
    go_ret2
    exact LRet.nil (below_self w)

theorem headB_get {s : List UInt8} (h : headB s = true) : ∃ hj : 0 < ByteArray.size ⟨s.toArray⟩, (⟨s.toArray⟩ : ByteArray)[0]'hj = 47 := by
  cases s with
  | nil => simp [headB] at h
  | cons c r =>
    have hc : c = 47 := by simpa [headB] using h
    exact ⟨by simp [ByteArray.size], hc⟩
theorem lall_take_succ {l : List (List UInt8)} {p : List UInt8 → Bool} {k : Nat} (h : k < l.length) : (l.take (k + 1)).all p = ((l.take k).all p && p l[k]) := by
  rw [List.take_succ_eq_append_getElem h, List.all_append]
  simp
theorem lall_false {l : List (List UInt8)} {p : List UInt8 → Bool} {k : Nat} (h : k < l.length) (hp : p l[k] = false) : l.all p = false := by
  rw [List.all_eq_false]
  exact ⟨l[k], List.getElem_mem h, by simp [hp]⟩

/-- The texts, or none. -/
def orNil (b : Bool) (l : List (List UInt8)) : List (List UInt8) := if b = true then l else []

set_option maxHeartbeats 1600000 in
theorem RSplit_in {s : List UInt8} (w : World) (hm : s.length ≤ 1000000) (h1 : s ≠ [47]) (h : headB s = true) :
    Calls Tryz.prog 86 #[st s] w (LRet w 9 (orNil ((partsS s).all nameB) (partsS s)) ((partsS s).all nameB)) := by
  show Calls _ _ #[.string ⟨s.toArray⟩] _ _
  obtain ⟨r, hr⟩ : ∃ r, (partsS s).all nameB = r := ⟨_, rfl⟩
  rw [hr]
  have HR := hide hr
  have hb : (s == [47]) = false := by simpa using h1
  obtain ⟨hj, hbj⟩ := headB_get h
  have hl0 : 0 < s.length := by cases s with | nil => simp [headB] at h | cons c r => simp
  have hl1 : ((s.length : Int) == 0) = false := by rw [beq_eq_false_iff_ne]; omega
  obtain ⟨hpl1, hpl2⟩ := partsS_len s
  have HPL := hide hpl2
  clear hr h1 h hpl2
  have HJ1 := hide hpl1
  clear hpl1
  go_enter Tryz.func86, Tryz.ntmps86
  go_wp2_with fail
  have hpl1 := HJ1.out
  refine (Rparts_any _ hm).mono ?_
  rintro e w1 ⟨A1, c1, rfl, hown, hbel⟩
  obtain ⟨P, hP⟩ : ∃ P, partsS s = P := ⟨_, rfl⟩
  rw [hP] at hown hpl1
  have HO := hide hown
  have HB := hide hbel
  have HP := hide hP
  rw [hP]
  clear hown hbel hP hb hbj hl1
  go_wp2_with fail
  go_loop [5] (fun i => ∃ k : Nat, k ≤ P.length ∧ i = .int .i64 k ∧ ((P.take k).all nameB) = true) (fun i => P.length - (intOf i).toNat)
  case atStart => exact ⟨0, Nat.zero_le _, rfl, rfl⟩
  case round =>
    obtain ⟨k, hk, rfl, hall⟩ := hrel
    have HALL := hide hall
    clear hall
    by_cases hlt : k < P.length
    · obtain ⟨g, rfl, hg, hgl, hcg, hfz⟩ := HO.out.at_ (by omega)
      obtain ⟨x, hx⟩ : ∃ x, x = P[k] := ⟨_, rfl⟩
      have hcell := hcg k x (by rw [hx]; exact List.getElem?_eq_getElem hlt)
      have hxl : x.length ≤ s.length := HPL.out x (by rw [HP.out, hx]; exact List.getElem_mem hlt)
      have HX := hide hx
      clear hcg hfz hx
      cases hb2 : nameB x with
      | true =>
        have HB2 := hide hb2
        clear hb2
        unfold st at hcell
        go_wp2_with fail
        refine (RNRight_b HB2.out _ (by omega)).mono ?_
        rintro e w' ⟨rfl, rfl⟩
        go_wp2_with fail
        go_round
        case rel => exact ⟨k + 1, by omega, by go_num, by rw [lall_take_succ hlt, HALL.out, ← HX.out, HB2.out]; rfl⟩
        case measure => simp [intOf]; omega
      | false =>
        have hrf : r = false := by rw [← HR.out, HP.out]; exact lall_false hlt (by rw [← HX.out]; exact hb2)
        have HRF := hide hrf
        have HB2 := hide hb2
        clear hb2 hrf
        unfold st at hcell
        go_wp2_with fail
        refine (RNRight_b HB2.out _ (by omega)).mono ?_
        rintro e w' ⟨rfl, rfl⟩
        go_wp2_with fail
        go_ret2
        rw [HRF.out]
        exact LRet.nil HB.out
    · have hrt : r = true := by
        rw [← HR.out, HP.out]
        have := HALL.out
        rwa [List.take_of_length_le (by omega)] at this
      have HRT := hide hrt
      clear hrt
      go_wp2
      go_ret2
      have ho := HO.out
      rw [HRT.out]
      exact ⟨_, _, _, rfl, by rw [show orNil true (partsS s) = P from HP.out]; exact ho, HB.out⟩

theorem RSplit_any {s : List UInt8} (w : World) (hm : s.length ≤ 1000000) : Calls Tryz.prog 86 #[st s] w (LRet w 9 (splitS s) (splitB s)) := by
  by_cases h1 : s = [47]
  · subst h1
    rw [show splitS [47] = [] from rfl, show splitB [47] = true from rfl]
    exact RSplit_one w
  cases h : headB s with
  | false =>
    rw [show splitS s = [] from by simp [splitS, h1, h], show splitB s = false from by simp [splitB, h1, h]]
    exact RSplit_no w h1 h
  | true =>
    rw [show splitS s = orNil ((partsS s).all nameB) (partsS s) from by unfold splitS; rw [if_neg h1, h]; rfl, show splitB s = (partsS s).all nameB from by unfold splitB; rw [h, show (s == [47]) = false from by simpa using h1]; rfl]
    exact RSplit_in w hm h1 h
end Go.Proofs.YtnehkgbdppbhiaaGreat

/- The contract of the program's path.names: what is left of the parts of a text. -/
namespace Go.Proofs.YtnehkgbdppbhiaaGreat
open Go.RowKit Plain

/-- The parts of what stands behind a stroke. -/
def partsF (r : List UInt8) : List (List UInt8) := r.foldl stepP [[]]
theorem stepP_pre (a b : List (List UInt8)) (c : UInt8) (hb : b ≠ []) : stepP (a ++ b) c = a ++ stepP b c := by
  have h1 : 0 < b.length := List.length_pos_iff.2 hb
  unfold stepP
  split
  · rw [List.append_assoc]
  · have e1 : (a ++ b).length - 1 = a.length + (b.length - 1) := by rw [List.length_append]; omega
    rw [e1, List.set_append_right _ _ (by omega), Nat.add_sub_cancel_left]
    congr 2
    simp only [List.getD]
    rw [List.getElem?_append_right (by omega), Nat.add_sub_cancel_left]
theorem fold_pre (q : List UInt8) : ∀ (a b : List (List UInt8)), b ≠ [] → q.foldl stepP (a ++ b) = a ++ q.foldl stepP b := by
  induction q with
  | nil => intro a b _; rfl
  | cons c r ih =>
    intro a b hb
    rw [List.foldl_cons, List.foldl_cons, stepP_pre a b c hb]
    refine ih a _ ?_
    intro e
    have := stepP_length b c
    rw [e] at this
    have h1 : 0 < b.length := List.length_pos_iff.2 hb
    split at this <;> simp at this
    omega
theorem partsF_one {p : List UInt8} (h : ∀ c ∈ p, c ≠ 47) : partsF p = [p] := fold_noslash p h [] []
theorem partsF_more {p q : List UInt8} (h : ∀ c ∈ p, c ≠ 47) : partsF (p ++ 47 :: q) = p :: partsF q := by
  have e := fold_noslash p h [] []
  simp only [List.nil_append] at e
  unfold partsF
  rw [List.foldl_append, e, List.foldl_cons]
  show q.foldl stepP ([p] ++ [[]]) = _
  rw [fold_pre q [p] [[]] (by simp)]
  rfl
theorem cut_at (r : List UInt8) : (∀ c ∈ r, c ≠ 47) ∨ ∃ p q, (∀ c ∈ p, c ≠ 47) ∧ r = p ++ 47 :: q := by
  induction r with
  | nil => exact .inl (by simp)
  | cons x r ih =>
    by_cases hx : x = 47
    · exact .inr ⟨[], r, by simp, by rw [hx]; rfl⟩
    · rcases ih with h | ⟨p, q, h, rfl⟩
      · refine .inl fun c hc => ?_
        rcases List.mem_cons.1 hc with e | e
        · rw [e]; exact hx
        · exact h c e
      · refine .inr ⟨x :: p, q, fun c hc => ?_, rfl⟩
        rcases List.mem_cons.1 hc with e | e
        · rw [e]; exact hx
        · exact h c e
def moreL (b : Bool) (p q : List UInt8) : List (List UInt8) := if b then p :: partsF q else [p]
def moreN (b : Bool) (p q : List UInt8) : Nat := if b then p.length + q.length + 1 else p.length
/-- strings.Cut at a stroke, whatever the text. -/
theorem Cut_any (r : List UInt8) (hr : r.length ≤ 140737488355328) : ∃ p q b, (∀ w : World, Calls Tryz.prog 138 #[.string ⟨r.toArray⟩, .string ⟨#[47]⟩] w (CutRet w p q b)) ∧ partsF r = moreL b p q ∧ r.length = moreN b p q := by
  rcases cut_at r with h | ⟨p, q, h, rfl⟩
  · exact ⟨r, [], false, fun w => Cut_no h w, partsF_one h, rfl⟩
  · refine ⟨p, q, true, fun w => Cut_yes h w hr, partsF_more h, ?_⟩
    show _ = p.length + q.length + 1
    rw [List.length_append, List.length_cons]
    omega
theorem head_cut {s : List UInt8} : (headB s = true ∧ ∃ r, s = 47 :: r) ∨ (headB s = false ∧ Lib.hasPrefix s [47] = false ∧ Lib.trimPrefix s [47] = s) := by
  cases s with
  | nil => exact .inr ⟨rfl, rfl, rfl⟩
  | cons c r =>
    by_cases hc : c = 47
    · subst hc; exact .inl ⟨rfl, r, rfl⟩
    · refine .inr ?_
      have h1 : headB (c :: r) = false := by simp [headB, hc]
      have h2 : Lib.hasPrefix (c :: r) [47] = false := by
        have : (47 == c) = false := by simpa using fun e => hc (Eq.symm e)
        simp [Lib.hasPrefix, List.isPrefixOf, this]
      exact ⟨h1, h2, by unfold Lib.trimPrefix; rw [h2]; rfl⟩
theorem trim_cons (r : List UInt8) : Lib.trimPrefix (47 :: r) [47] = r ∧ Lib.hasPrefix (47 :: r) [47] = true := by
  have h2 : Lib.hasPrefix (47 :: r) [47] = true := by simp [Lib.hasPrefix, List.isPrefixOf]
  exact ⟨by unfold Lib.trimPrefix; rw [h2]; rfl, h2⟩
/-- What names answers. -/
def namesPt (s : List UInt8) : List (List UInt8) := if headB s = true then (leftS (partsS s)).getD [] else []
theorem NRet.yes {s : List UInt8} {w w' : World} {o : List (List UInt8)} {A : Option Addr} {n c : Nat} (hh : headB s = true) (hl : leftS (partsS s) = some o) (hown : Ow st w' w.heap.size 9 A n c o) (hb : Below w.heap.size w w') :
    LRet w 9 (namesPt s) (cleanB s) (.returned (.tuple #[.slice A n c, .bool true])) w' := by
  have e1 : namesPt s = o := by simp [namesPt, hh, hl]
  have e2 : cleanB s = true := by simp [cleanB, hh, hl]
  rw [e1, e2]
  exact ⟨A, n, c, rfl, hown, hb⟩
theorem NRet.no {s : List UInt8} {w w' : World} (hc : cleanB s = false) (hb : Below w.heap.size w w') : LRet w 9 (namesPt s) (cleanB s) (.returned (.tuple #[.slice none 0 0, .bool false])) w' := by
  have e1 : namesPt s = [] := by
    unfold cleanB at hc
    unfold namesPt
    by_cases hh : headB s = true
    · rw [if_pos hh]
      rw [hh] at hc
      cases hl : leftS (partsS s) with
      | none => rfl
      | some o => rw [hl] at hc; cases hc
    · rw [if_neg hh]
  rw [e1, hc]
  exact LRet.nil hb
/-- What holds at each coming to the label. -/
def NInv (s : List UInt8) (w w' : World) (r : List UInt8) (o : List (List UInt8)) (A : Option Addr) (n c : Nat) : Prop :=
  Ow st w' w.heap.size 9 A n c o ∧ Below w.heap.size w w' ∧ (partsF r).foldl stepC (some o) = leftS (partsS s) ∧ o.length + r.length ≤ s.length
def strLen : Value → Nat | .string b => b.size | _ => 0
theorem fold_none (l : List (List UInt8)) : l.foldl stepC none = none := by
  induction l with
  | nil => rfl
  | cons y r ih => rw [List.foldl_cons]; exact ih
theorem more_stop {b : Bool} {p q : List UInt8} {o : List (List UInt8)} (h : stepC (some o) p = none) : (moreL b p q).foldl stepC (some o) = none := by
  unfold moreL
  split
  · rw [List.foldl_cons, h, fold_none]
  · rw [List.foldl_cons, h]; rfl
theorem wp_scope_once {P : Program} {a : Act} {w : World} {Q : Exit → Act → World → Prop} {c rest : Code} (l : Nat) (J : Act → World → Prop) (μ : Act → World → Nat) (hf : findLabel c l = some (Code.skip.seq rest))
    (pass : ∀ a w, J a w → rest.wp P (Exit.jump l (fun a' w' => J a' w' ∧ μ a' w' < μ a w) Q) a w)
    (first : (∀ a w, J a w → rest.wp P (Exit.jump l J Q) a w) → c.wp P (Exit.jump l J Q) a w) : (Code.scope c).wp P Q a w := by
  refine wp_scope_jumps l J μ hf (first fun a w h => Code.wp_mono (fun e a' w' hq => ?_) (pass a w h)) (fun a w h => wp_seq (wp_skip (pass a w h)))
  cases e with
  | goto l' => exact ⟨hq.1, hq.2.1⟩
  | normal => exact hq
  | exit id => exact hq
  | ret => exact hq
  | panic ch => exact hq
  | outgrown => exact hq

set_option maxHeartbeats 4000000 in
set_option maxRecDepth 100000 in
theorem names_any {s : List UInt8} (w : World) (hs : s.length ≤ 1000000) :
    Calls Tryz.prog 117 #[st s] w (LRet w 9 (namesPt s) (cleanB s)) := by
  unfold st
  rcases head_cut (s := s) with ⟨hh, r0, hr0⟩ | ⟨hh, hp, ht⟩
  case inr =>
    have hcp : ∀ w : World, Calls Tryz.prog 137 #[.string ⟨s.toArray⟩, .string ⟨#[47]⟩] w fun e w' => e = .returned (.tuple #[.string ⟨s.toArray⟩, .bool false]) ∧ w' = w := by
      intro w
      have h : Calls Tryz.prog 137 #[.string ⟨s.toArray⟩, .string ⟨#[47]⟩] w fun e w' => e = .returned (.tuple #[.string ⟨(Lib.trimPrefix s [47]).toArray⟩, .bool (Lib.hasPrefix s [47])]) ∧ w' = w := Tryz.strings_CutPrefix ⟨s.toArray⟩ ⟨#[47]⟩ w
      rwa [ht, hp] at h
    have HCP := hide hcp
    have hcl : cleanB s = false := by simp [cleanB, hh]
    have HCL := hide hcl
    clear hcp hp ht hh hcl
    go_enter Tryz.func117, Tryz.ntmps117
    go_wp2_with fail
    go_step3
    go_wp2_with fail
    refine (HCP.out _).mono ?_
    rintro e w' ⟨rfl, rfl⟩
    go_wp2_with fail
    (first | go_ret2 | (simp only [Exit.jump]; go_ret2) | (rw [Exit.noGoto_ret]; go_ret2))
    exact NRet.no HCL.out (below_self _)
  have hcp : ∀ w : World, Calls Tryz.prog 137 #[.string ⟨s.toArray⟩, .string ⟨#[47]⟩] w fun e w' => e = .returned (.tuple #[.string ⟨r0.toArray⟩, .bool true]) ∧ w' = w := by
    intro w
    have h : Calls Tryz.prog 137 #[.string ⟨s.toArray⟩, .string ⟨#[47]⟩] w fun e w' => e = .returned (.tuple #[.string ⟨(Lib.trimPrefix s [47]).toArray⟩, .bool (Lib.hasPrefix s [47])]) ∧ w' = w := Tryz.strings_CutPrefix ⟨s.toArray⟩ ⟨#[47]⟩ w
    rwa [hr0, (trim_cons r0).1, (trim_cons r0).2, ← hr0] at h
  have HCP := hide hcp
  have HH := hide hh
  have hpf : partsF r0 = partsS s := by rw [hr0]; rfl
  have HPF0 := hide hpf
  have hl0 : r0.length ≤ s.length := by rw [hr0]; simp
  have HL0 := hide hl0
  have HS := hide hs
  clear hcp hh hr0 hpf hl0 hs
  go_enter Tryz.func117, Tryz.ntmps117
  go_wp2_with fail
  refine wp_scope_once 0 (fun a' w' => ∃ (r : List UInt8) (o : List (List UInt8)) (A : Option Addr) (n c : Nat) (u0 u1 u2 u3 u5 u7 u8 u9 u10 u11 u12 u13 u14 u15 u16 u17 u18 u19 u20 u21 u22 u23 u24 u25 u26 u27 u28 u29 u30 u31 u32 u33 u34 u35 u36 u37 u38 u39 u40 u41 u42 u43 u44 u45 u46 u47 u48 u49 : Value), a' = { tmps := #[u0, u1, u2, u3, .string ⟨r.toArray⟩, u5, .slice A n c, u7, u8, u9, u10, u11, u12, u13, u14, u15, u16, u17, u18, u19, u20, u21, u22, u23, u24, u25, u26, u27, u28, u29, u30, u31, u32, u33, u34, u35, u36, u37, u38, u39, u40, u41, u42, u43, u44, u45, u46, u47, u48, u49], defers := [] } ∧ NInv s w w' r o A n c) (fun a' _ => strLen (a'.tmps.getD 4 undef)) rfl ?_ ?_
  case _ =>
    rintro a' w' ⟨r, o, A, n, c, u0, u1, u2, u3, u5, u7, u8, u9, u10, u11, u12, u13, u14, u15, u16, u17, u18, u19, u20, u21, u22, u23, u24, u25, u26, u27, u28, u29, u30, u31, u32, u33, u34, u35, u36, u37, u38, u39, u40, u41, u42, u43, u44, u45, u46, u47, u48, u49, rfl, hown, hbel, hfold, hlen⟩
    have hon := hown.len
    obtain ⟨p, q, b, hcut, hpf, hlr⟩ := Cut_any r (by have := HS.out; omega)
    have HCUT := hide hcut
    have HO := hide hown
    have HB := hide hbel
    have HF := hide hfold
    have HPF := hide hpf
    have HLR := hide hlr
    have HLEN := hide hlen
    have hn : n ≤ 1000000 := by have := HS.out; omega
    have HON := hide hon
    clear hcut hown hbel hfold hpf hlr hlen hon
    by_cases hp0 : p = []
    · subst hp0
      have hst : stepC (some o) [] = some o := by simp [stepC]
      have HST := hide hst
      clear hst
      go_wp2_with fail
      refine (HCUT.out _).mono ?_
      rintro e w1 ⟨rfl, nd, rfl⟩
      unfold st
      cases b with
      | true =>
        go_wp2_with fail
        go_step3
        refine ⟨rfl, ⟨q, o, A, n, c, _, _, _, _, _, _, _, _, _, _, _, _, _, _, _, _, _, _, _, _, _, _, _, _, _, _, _, _, _, _, _, _, _, _, _, _, _, _, _, _, _, _, _, _, _, _, _, _, rfl, (HO.out.drewN nd), (below_drewN HB.out nd), ?_, ?_⟩, ?_⟩
        · have e := HF.out
          rw [HPF.out] at e
          simp only [moreL, if_true] at e
          rw [List.foldl_cons, HST.out] at e
          exact e
        · have h1 := HLEN.out
          have h2 := HLR.out
          simp only [moreN, if_true] at h2
          omega
        · have h2 := HLR.out
          simp only [moreN, if_true] at h2
          simp only [strLen, ByteArray.size, Array.getD_eq_getD_getElem?]
          simp
          omega
      | false =>
        have hl : leftS (partsS s) = some o := by
          have e := HF.out
          rw [HPF.out] at e
          simp only [moreL, Bool.false_eq_true, if_false] at e
          rw [List.foldl_cons, HST.out] at e
          exact e.symm
        have HL := hide hl
        clear hl
        go_wp2_with fail
        (first | go_ret2 | (simp only [Exit.jump]; go_ret2) | (rw [Exit.noGoto_ret]; go_ret2))
        exact NRet.yes HH.out HL.out (HO.out.drewN nd) (below_drewN HB.out nd)
    by_cases hp1 : p = [46]
    · subst hp1
      have hst : stepC (some o) [46] = some o := by simp [stepC]
      have HST := hide hst
      clear hst
      go_wp2_with fail
      refine (HCUT.out _).mono ?_
      rintro e w1 ⟨rfl, nd, rfl⟩
      unfold st
      cases b with
      | true =>
        go_wp2_with fail
        go_step3
        refine ⟨rfl, ⟨q, o, A, n, c, _, _, _, _, _, _, _, _, _, _, _, _, _, _, _, _, _, _, _, _, _, _, _, _, _, _, _, _, _, _, _, _, _, _, _, _, _, _, _, _, _, _, _, _, _, _, _, _, rfl, (HO.out.drewN nd), (below_drewN HB.out nd), ?_, ?_⟩, ?_⟩
        · have e := HF.out
          rw [HPF.out] at e
          simp only [moreL, if_true] at e
          rw [List.foldl_cons, HST.out] at e
          exact e
        · have h1 := HLEN.out
          have h2 := HLR.out
          simp only [moreN, if_true] at h2
          omega
        · have h2 := HLR.out
          simp only [moreN, if_true] at h2
          simp only [strLen, ByteArray.size, Array.getD_eq_getD_getElem?]
          simp
          omega
      | false =>
        have hl : leftS (partsS s) = some o := by
          have e := HF.out
          rw [HPF.out] at e
          simp only [moreL, Bool.false_eq_true, if_false] at e
          rw [List.foldl_cons, HST.out] at e
          exact e.symm
        have HL := hide hl
        clear hl
        go_wp2_with fail
        (first | go_ret2 | (simp only [Exit.jump]; go_ret2) | (rw [Exit.noGoto_ret]; go_ret2))
        exact NRet.yes HH.out HL.out (HO.out.drewN nd) (below_drewN HB.out nd)
    have d0 : (p == []) = false := by simpa using hp0
    have d1 : (p == [46]) = false := by simpa using hp1
    have hx0 : ¬ (p = [] ∨ p = [46]) := by rintro (h | h) <;> contradiction
    by_cases hp2 : p = [46, 46]
    · subst hp2
      by_cases hn0 : n = 0
      · subst hn0
        have ho0 : o = [] := List.eq_nil_of_length_eq_zero HON.out
        have hcl : cleanB s = false := by
          have e := HF.out
          rw [HPF.out, more_stop (by rw [ho0]; rfl)] at e
          unfold cleanB
          rw [← e]
          simp
        have HCL := hide hcl
        clear ho0 hcl hx0 d0 d1 hp0 hp1
        go_wp2_with fail
        refine (HCUT.out _).mono ?_
        rintro e w1 ⟨rfl, nd, rfl⟩
        unfold st
        go_wp2_with fail
        refine (NRight_b (l := [46, 46]) (b := false) (by decide +kernel) _ (by decide)).mono ?_
        rintro e w2 ⟨rfl, hbel⟩
        have HB2 := hide (below_step (below_drewN HB.out nd) hbel)
        clear hbel
        go_wp2_with fail
        (first | go_ret2 | (simp only [Exit.jump]; go_ret2) | (rw [Exit.noGoto_ret]; go_ret2))
        exact NRet.no HCL.out HB2.out
      · obtain ⟨g2, rfl, hg2, hgl2, _, _⟩ := HO.out.at_ (by omega)
        have hcp := HO.out.cap
        have hst : stepC (some o) [46, 46] = some o.dropLast := by
          have hne : o ≠ [] := by intro e; have := HON.out; rw [e] at this; simp at this; omega
          simp [stepC, hne]
        have hcut := HO.out.cut (i := n - 1) (by omega) (by simp)
        have hdl : o.take (n - 1) = o.dropLast := by rw [List.dropLast_eq_take, HON.out]
        rw [hdl] at hcut
        have HST := hide hst
        have HC := hide hcut
        have HDL := hide (show o.dropLast.length = n - 1 by rw [List.length_dropLast, HON.out])
        have hp1' : 1 ≤ n := by omega
        have hn1 : 0 < n := by omega
        clear hst hcut hdl hx0 d0 d1 hp0 hp1 hn0
        go_wp2_with fail
        refine (HCUT.out _).mono ?_
        rintro e w1 ⟨rfl, nd, rfl⟩
        unfold st
        cases b with
        | true =>
          go_wp2_with fail
          go_step3
          refine ⟨rfl, ⟨q, o.dropLast, _, (n - 1), c, _, _, _, _, _, _, _, _, _, _, _, _, _, _, _, _, _, _, _, _, _, _, _, _, _, _, _, _, _, _, _, _, _, _, _, _, _, _, _, _, _, _, _, _, _, _, _, _, rfl, (HC.out.drewN nd), (below_drewN HB.out nd), ?_, ?_⟩, ?_⟩
          · have e := HF.out
            rw [HPF.out] at e
            simp only [moreL, if_true] at e
            rw [List.foldl_cons, HST.out] at e
            exact e
          · have h1 := HLEN.out
            have h2 := HLR.out
            simp only [moreN, if_true] at h2
            (have h3 := HDL.out; have h4 := HON.out; omega)
          · have h2 := HLR.out
            simp only [moreN, if_true] at h2
            simp only [strLen, ByteArray.size, Array.getD_eq_getD_getElem?]
            simp
            omega
        | false =>
          have hl : leftS (partsS s) = some o.dropLast := by
            have e := HF.out
            rw [HPF.out] at e
            simp only [moreL, Bool.false_eq_true, if_false] at e
            rw [List.foldl_cons, HST.out] at e
            exact e.symm
          have HL := hide hl
          clear hl
          go_wp2_with fail
          (first | go_ret2 | (simp only [Exit.jump]; go_ret2) | (rw [Exit.noGoto_ret]; go_ret2))
          exact NRet.yes HH.out HL.out (HC.out.drewN nd) (below_drewN HB.out nd)
    have d2 : (p == [46, 46]) = false := by simpa using hp2
    have hpl : p.length ≤ 140737488355328 := by
      have h1 := HLEN.out
      have h2 := HLR.out
      have h3 := HS.out
      unfold moreN at h2
      split at h2 <;> omega
    cases hb2 : nameB p with
    | false =>
      have hst : stepC (some o) p = none := by simp only [stepC, if_neg hx0, if_neg hp2, hb2]; rfl
      have hcl : cleanB s = false := by
        have e := HF.out
        rw [HPF.out, more_stop hst] at e
        unfold cleanB
        rw [← e]
        simp
      have HCL := hide hcl
      have HB2 := hide hb2
      clear hst hcl hb2 hx0 hp0 hp1 hp2
      go_wp2_with fail
      refine (HCUT.out _).mono ?_
      rintro e w1 ⟨rfl, nd, rfl⟩
      unfold st
      go_wp2_with fail
      refine (NRight_b HB2.out _ hpl).mono ?_
      rintro e w2 ⟨rfl, hbel⟩
      have HB3 := hide (below_step (below_drewN HB.out nd) hbel)
      clear hbel
      go_wp2_with fail
      (first | go_ret2 | (simp only [Exit.jump]; go_ret2) | (rw [Exit.noGoto_ret]; go_ret2))
      exact NRet.no HCL.out HB3.out
    | true =>
      have hst : stepC (some o) p = some (o ++ [p]) := by simp only [stepC, if_neg hx0, if_neg hp2, hb2, if_true]
      have HST := hide hst
      have HB2 := hide hb2
      clear hst hb2 hx0 hp0 hp1 hp2
      go_wp2_with fail
      refine (HCUT.out _).mono ?_
      rintro e w1 ⟨rfl, nd, rfl⟩
      unfold st
      go_wp2_with fail
      refine (NRight_b HB2.out _ hpl).mono ?_
      rintro e w2 ⟨rfl, hbel⟩
      have HB3 := hide (below_step (below_drewN HB.out nd) hbel)
      have HO3 := hide ((HO.out.drewN nd).below (hbel.mono (by simp)))
      clear hbel
      cases b with
      | true =>
        go_wp2_with (at_builtin; refine wpList_append_Rd _ rfl (.tmp 44) (.tmp 46) 44 rfl w.heap.size 9 _ 16 Tryz.underlying44 info_st rfl st_one _ n _ o rfl (HO3.out.alloc _) _ _ 1 1 _ rfl (Rd.one _ _ (show Value.string ⟨p.toArray⟩ = st p from rfl)) (n + 1) rfl (by omega) (by omega) (by have := HB3.out.size; simp; omega) ?_; intro A4 c4 w4 hown4 hbel4; have HO4 := hide hown4; have HB4 := hide ((HB3.out.alloc HB3.out.size _).trans hbel4); clear hown4 hbel4)
        go_step3
        refine ⟨rfl, ⟨q, (o ++ [p]), A4, (n + 1), c4, _, _, _, _, _, _, _, _, _, _, _, _, _, _, _, _, _, _, _, _, _, _, _, _, _, _, _, _, _, _, _, _, _, _, _, _, _, _, _, _, _, _, _, _, _, _, _, _, rfl, HO4.out, HB4.out, ?_, ?_⟩, ?_⟩
        · have e := HF.out
          rw [HPF.out] at e
          simp only [moreL, if_true] at e
          rw [List.foldl_cons, HST.out] at e
          exact e
        · have h1 := HLEN.out
          have h2 := HLR.out
          simp only [moreN, if_true] at h2
          (rw [List.length_append, List.length_singleton]; have := (nameB_len HB2.out).1; omega)
        · have h2 := HLR.out
          simp only [moreN, if_true] at h2
          simp only [strLen, ByteArray.size, Array.getD_eq_getD_getElem?]
          simp
          omega
      | false =>
        have hl : leftS (partsS s) = some (o ++ [p]) := by
          have e := HF.out
          rw [HPF.out] at e
          simp only [moreL, Bool.false_eq_true, if_false] at e
          rw [List.foldl_cons, HST.out] at e
          exact e.symm
        have HL := hide hl
        clear hl
        go_wp2_with (at_builtin; refine wpList_append_Rd _ rfl (.tmp 44) (.tmp 46) 44 rfl w.heap.size 9 _ 16 Tryz.underlying44 info_st rfl st_one _ n _ o rfl (HO3.out.alloc _) _ _ 1 1 _ rfl (Rd.one _ _ (show Value.string ⟨p.toArray⟩ = st p from rfl)) (n + 1) rfl (by omega) (by omega) (by have := HB3.out.size; simp; omega) ?_; intro A4 c4 w4 hown4 hbel4; have HO4 := hide hown4; have HB4 := hide ((HB3.out.alloc HB3.out.size _).trans hbel4); clear hown4 hbel4)
        (first | go_ret2 | (simp only [Exit.jump]; go_ret2) | (rw [Exit.noGoto_ret]; go_ret2))
        exact NRet.yes HH.out HL.out HO4.out HB4.out
  case _ =>
    intro hpass
    have HPASS := hide hpass
    clear hpass
    go_wp2_with fail
    refine (HCP.out _).mono ?_
    rintro e w' ⟨rfl, rfl⟩
    go_wp2_with fail
    go_step3
    rename_i hK
    refine hK _ _ (HPASS.out _ _ ⟨r0, [], none, 0, 0, _, _, _, _, _, _, _, _, _, _, _, _, _, _, _, _, _, _, _, _, _, _, _, _, _, _, _, _, _, _, _, _, _, _, _, _, _, _, _, _, _, _, _, _, _, _, _, _, rfl, Ow.nil_ _ _ _ _, below_self _, ?_, ?_⟩)
    · rw [HPF0.out]; rfl
    · have := HL0.out; simpa using this
end Go.Proofs.YtnehkgbdppbhiaaGreat

/- The contract of the reference's Pack (layer 3). -/
namespace Go.Proofs.YtnehkgbdppbhiaaGreat
open Go.RowKit Plain

theorem info8 : (Tryz.prog.info? 5).map (fun i => (i.zero, i.size, i.bytes)) = some (some (.int .u8 0), 1, 1) := by kernel_rfl

end Go.Proofs.YtnehkgbdppbhiaaGreat

/- The contract of the reference's Unpack (layer 3). -/
namespace Go.Proofs.YtnehkgbdppbhiaaGreat
open Go.RowKit Plain

/-- It returns a text and a bool, and nothing that was there has turned. -/
def StRet (w : World) (l : List UInt8) (b : Bool) (x : Ending) (w' : World) : Prop := x = .returned (.tuple #[st l, .bool b]) ∧ Below w.heap.size w w'
theorem StRet.of {w w' : World} {l : List UInt8} {b : Bool} (h : Below w.heap.size w w') : StRet w l b (.returned (.tuple #[.string ⟨l.toArray⟩, .bool b])) w' := ⟨rfl, h⟩

end Go.Proofs.YtnehkgbdppbhiaaGreat

/- The contract of the reference's Redirect (layer 4). -/
namespace Go.Proofs.YtnehkgbdppbhiaaGreat
open Go.RowKit Plain

/-- It returns a row of its own with the texts, and two bools; nothing that was there has turned. -/
def LRet2 (w : World) (e : Nat) (l : List (List UInt8)) (a b : Bool) (x : Ending) (w' : World) : Prop :=
  ∃ A n c, x = .returned (.tuple #[.slice A n c, .bool a, .bool b]) ∧ Ow st w' w.heap.size e A n c l ∧ Below w.heap.size w w'
theorem LRet2.nil {w w' : World} {e : Nat} {a b : Bool} (h : Below w.heap.size w w') : LRet2 w e [] a b (.returned (.tuple #[.slice none 0 0, .bool a, .bool b])) w' := ⟨none, 0, 0, rfl, Ow.nil_ _ _ _ _, h⟩

set_option maxHeartbeats 800000 in
theorem RRed_long {s : List UInt8} (w : World) (h : 24 < s.length) : Calls Tryz.prog 60 #[st s] w (LRet2 w 9 [] false false) := by
  show Calls _ _ #[.string ⟨s.toArray⟩] _ _
  go_enter Tryz.func60, Tryz.ntmps60
  go_wp2
  go_ret3
  exact LRet2.nil (below_self w)

set_option maxHeartbeats 800000 in
theorem RRed_abs {s : List UInt8} (w : World) (h : ¬ 24 < s.length) (hh : headB s = true) : Calls Tryz.prog 60 #[st s] w (LRet2 w 9 (splitS s) (splitB s) (splitB s)) := by
  show Calls _ _ #[.string ⟨s.toArray⟩] _ _
  obtain ⟨hj, hbj⟩ := headB_get hh
  have hl0 : 0 < s.length := by cases s with | nil => simp [headB] at hh | cons c r => simp
  have hl2 : s.length ≤ 24 := by omega
  obtain ⟨l, hl⟩ : ∃ l, splitS s = l := ⟨_, rfl⟩
  obtain ⟨b, hb⟩ : ∃ b, splitB s = b := ⟨_, rfl⟩
  rw [hl, hb]
  have HL := hide hl
  have HB := hide hb
  clear hh h hl hb
  go_enter Tryz.func60, Tryz.ntmps60
  go_wp2_with fail
  refine (RSplit_any _ (by omega)).mono ?_
  rw [HL.out, HB.out]
  rintro e w1 ⟨A1, n1, c1, rfl, hown, hbel⟩
  have HO := hide hown
  have HBE := hide hbel
  clear hown hbel
  go_wp2_with fail
  go_ret3
  exact ⟨_, _, _, rfl, HO.out, HBE.out⟩

set_option maxHeartbeats 800000 in
theorem RRed_one {s : List UInt8} (w : World) (h : ¬ 24 < s.length) (hh : headB s = false) : Calls Tryz.prog 60 #[st s] w (LRet2 w 9 (if nameB s = true then [s] else []) false (nameB s)) := by
  show Calls _ _ #[.string ⟨s.toArray⟩] _ _
  cases hn : nameB s with
  | true =>
    have hl := nameB_len hn
    have hl0 : 0 < s.length := by omega
    obtain ⟨c, r, hs⟩ : ∃ c r, s = c :: r := by cases s with | nil => simp at hl0 | cons c r => exact ⟨c, r, rfl⟩
    have hj : 0 < ByteArray.size ⟨s.toArray⟩ := hl0
    have hbj : (⟨s.toArray⟩ : ByteArray)[0]'hj = c := by subst hs; rfl
    have hc : c ≠ 47 := by subst hs; simpa [headB] using hh
    have htest : ((c.toNat : Int) == 47) = false := by
      simp only [beq_eq_false_iff_ne, ne_eq]
      intro e
      apply hc
      apply UInt8.toNat_inj.1
      have : c.toNat = 47 := by omega
      rw [this]
      rfl
    have hl2 : s.length ≤ 24 := by omega
    have HN := hide hn
    rw [if_pos rfl]
    clear hh h hn hl hs hc
    go_enter Tryz.func60, Tryz.ntmps60
    go_wp2_with fail
    refine (RNRight_b HN.out _ (by omega)).mono ?_
    rintro e w' ⟨rfl, rfl⟩
    go_wp2_with fail
    go_ret3
    exact ⟨_, _, _, rfl, Ow.lit w 9 (cs := [.string ⟨s.toArray⟩]) rfl rfl (by omega), below_new (below_self w) _⟩
  | false =>
    have hl2 : s.length ≤ 24 := by omega
    have HN := hide hn
    rw [if_neg (by simp)]
    cases s with
    | nil =>
      clear hh h hn
      go_enter Tryz.func60, Tryz.ntmps60
      go_wp2_with fail
      refine (RNRight_b (l := []) HN.out _ (by simp)).mono ?_
      rintro e w' ⟨rfl, rfl⟩
      go_wp2_with fail
      go_ret3
      exact LRet2.nil (below_self w)
    | cons c r =>
      have hj : 0 < ByteArray.size ⟨(c :: r).toArray⟩ := by simp [ByteArray.size]
      have hbj : (⟨(c :: r).toArray⟩ : ByteArray)[0]'hj = c := rfl
      have hc : c ≠ 47 := by simpa [headB] using hh
      have htest : ((c.toNat : Int) == 47) = false := by
        simp only [beq_eq_false_iff_ne, ne_eq]
        intro e
        apply hc
        apply UInt8.toNat_inj.1
        have : c.toNat = 47 := by omega
        rw [this]
        rfl
      obtain ⟨s, hs⟩ : ∃ s, s = c :: r := ⟨_, rfl⟩
      rw [← hs] at hl2 HN hj ⊢
      have hbj2 : (⟨s.toArray⟩ : ByteArray)[0]'hj = c := by subst hs; rfl
      have hl0 : 0 < s.length := by rw [hs]; simp
      clear hh h hn hc hs hbj
      go_enter Tryz.func60, Tryz.ntmps60
      go_wp2_with fail
      refine (RNRight_b HN.out _ (by omega)).mono ?_
      rintro e w' ⟨rfl, rfl⟩
      go_wp2_with fail
      go_ret3
      exact LRet2.nil (below_self w)

theorem RRed_any {s : List UInt8} (w : World) : Calls Tryz.prog 60 #[st s] w (LRet2 w 9 (redL s) (redA s) (redB s)) := by
  by_cases h : 24 < s.length
  · rw [show redL s = [] from by simp [redL, h], show redA s = false from by simp [redA, h], show redB s = false from by simp [redB, h]]
    exact RRed_long w h
  · cases hh : headB s with
    | true =>
      rw [show redL s = splitS s from by simp [redL, h, hh], show redA s = splitB s from by simp [redA, h, hh], show redB s = splitB s from by simp [redB, h, hh]]
      exact RRed_abs w h hh
    | false =>
      rw [show redL s = (if nameB s = true then [s] else []) from by simp [redL, h, hh], show redA s = false from by simp [redA, hh], show redB s = nameB s from by simp [redB, h, hh]]
      exact RRed_one w h hh
end Go.Proofs.YtnehkgbdppbhiaaGreat

/- Contracts of the program's path.Join, Split, Clean, Redirect, Begins. -/
namespace Go.Proofs.YtnehkgbdppbhiaaGreat
open Go.RowKit Plain

theorem joinS_lib (l : List (List UInt8)) : joinS l = 47 :: Lib.join l [47] := by
  induction l using snoc_ind with
  | h0 => rfl
  | h1 l x ih =>
    rw [joinS_snoc, ih]
    by_cases hl : l = []
    · subst hl
      simp [Lib.join, List.intercalate]
    · rw [if_neg (by intro e; exact hl (List.eq_nil_of_length_eq_zero e))]
      obtain ⟨y, r, rfl⟩ : ∃ y r, l = y :: r := by cases l with | nil => exact absurd rfl hl | cons y r => exact ⟨y, r, rfl⟩
      rw [Lib.join_cons, show (y :: r) ++ [x] = y :: (r ++ [x]) from rfl, Lib.join_cons]
      simp [Lib.joinTail]

set_option maxHeartbeats 400000 in
theorem PJoin_any {A : Option Addr} {m c : Nat} {l : List (List UInt8)} (w : World) (ha : Rd st w w.heap.size A m l) (hm : m ≤ 1000000) (hmc : m ≤ c) (ht : totL l ≤ 140737488355327) :
    Calls Tryz.prog 43 #[.slice A m c] w fun e w' => e = .returned (st (joinS l)) ∧ Below w.heap.size w w' := by
  have hjl := joinS_length l
  rw [joinS_lib, List.length_cons] at hjl
  have hcon : ∀ w : World, Rd st w w.heap.size A m l → Calls Tryz.prog 85 #[.slice A m c, .string ⟨#[47]⟩] w fun e w' => e = .returned (.string ⟨(Lib.join l [47]).toArray⟩) ∧ Below w.heap.size w w' := by
    intro w ha
    by_cases h0 : m = 0
    · subst h0
      obtain rfl : l = [] := List.eq_nil_of_length_eq_zero ha.len
      refine (Tryz.strings_Join_none A c ⟨#[47]⟩ w).mono ?_
      rintro e w' ⟨rfl, rfl⟩
      exact ⟨rfl, below_self _⟩
    · obtain ⟨b, o, rfl, hb, hc⟩ := ha.2 (by omega)
      have hl := ha.len
      have e1 : (l.map fun x => (⟨x.toArray⟩ : ByteArray)).map (·.data.toList) = l := by rw [List.map_map]; exact List.map_id l
      have hlen : (l.map fun x => (⟨x.toArray⟩ : ByteArray)).length = m := by simp [hl]
      have h := Tryz.strings_Join b o c (l.map fun x => ⟨x.toArray⟩) ⟨#[47]⟩ w (fun j x hx => by
        rw [List.getElem?_map, Option.map_eq_some_iff] at hx
        obtain ⟨y, hy, rfl⟩ := hx
        exact hc j y hy) hb (by omega) (by omega) (by rw [e1]; show (Lib.join l [47]).length ≤ _; omega)
      rw [e1, hlen] at h
      exact h
  have HC := hide hcon
  have HA := hide ha
  have hadd := fun W => add_lists (P := Tryz.prog) (x := [47]) (y := Lib.join l [47]) (z := joinS l) (by simp; omega) (by rw [joinS_lib]; rfl) W
  clear hcon ha hjl
  go_enter Tryz.func43, Tryz.ntmps43
  go_wp2_with fail
  refine (HC.out _ HA.out).mono ?_
  rintro e w1 ⟨rfl, hbel⟩
  have HB := hide hbel
  clear hbel
  go_wp2_with fail
  go_ret
  exact ⟨rfl, HB.out⟩
/-- What names answers joins to what is clean. -/
theorem names_clean {s : List UInt8} (h : cleanB s = true) : joinS (namesPt s) = cleanS s ∧ (namesPt s).all nameB = true ∧ (namesPt s).length ≤ 1 + s.length ∧ totL (namesPt s) ≤ (1 + s.length) * (s.length + 1) := by
  unfold cleanB at h
  rw [Bool.and_eq_true, Option.isSome_iff_exists] at h
  obtain ⟨hh, o, ho⟩ := h
  have e1 : namesPt s = o := by simp [namesPt, hh, ho]
  have e2 : cleanS s = joinS o := by unfold cleanS; rw [if_pos hh, ho]
  have hp := partsS_len s
  have hl := leftS_len _ _ ho
  have ht := totL_le hp.2
  have hm : (partsS s).length * (s.length + 1) ≤ (1 + s.length) * (s.length + 1) := Nat.mul_le_mul_right _ hp.1
  rw [e1, e2]
  exact ⟨rfl, left_all ho, by omega, by omega⟩
theorem split_iff (s : List UInt8) : splitB s = (cleanB s && (joinS (namesPt s) == s)) ∧ splitS s = if splitB s = true then namesPt s else [] := by
  cases hc : cleanB s with
  | false =>
    have hs : splitB s = false := by
      cases h : splitB s with
      | false => rfl
      | true => rw [(split_back h).2.1] at hc; cases hc
    refine ⟨by rw [hs]; rfl, ?_⟩
    rw [hs]
    unfold splitB at hs
    rw [Bool.or_eq_false_iff] at hs
    unfold splitS
    rw [if_neg (by simpa using hs.1), hs.2]
    rfl
  | true =>
    obtain ⟨hj, ha, _, _⟩ := names_clean hc
    by_cases he : joinS (namesPt s) = s
    · obtain ⟨h1, h2⟩ := split_join ha
      rw [he] at h1 h2
      refine ⟨by rw [h1, he]; simp, by rw [h1, if_pos rfl, h2]⟩
    · have hs : splitB s = false := by
        cases h : splitB s with
        | false => rfl
        | true => rw [hj] at he; exact absurd (split_back h).2.2 he
      have he2 : (joinS (namesPt s) == s) = false := by simpa using he
      refine ⟨by rw [hs, he2]; rfl, ?_⟩
      rw [hs]
      unfold splitB at hs
      rw [Bool.or_eq_false_iff] at hs
      unfold splitS
      rw [if_neg (by simpa using hs.1), hs.2]
      rfl

theorem mul_small {n : Nat} (h : n ≤ 100000) : (1 + n) * (n + 1) ≤ 10000200001 := by
  have : (1 + n) * (n + 1) ≤ 100001 * 100001 := Nat.mul_le_mul (by omega) (by omega)
  omega

set_option maxHeartbeats 800000 in
theorem PSplit_any {s : List UInt8} (w : World) (hs : s.length ≤ 100000) : Calls Tryz.prog 84 #[st s] w (LRet w 9 (splitS s) (splitB s)) := by
  unfold st
  obtain ⟨q1, q2⟩ := split_iff s
  rw [q2]
  cases hc : cleanB s with
  | false =>
    rw [hc] at q1
    have hb : splitB s = false := q1
    rw [hb]
    have HC := hide hc
    clear q1 q2 hb hc
    go_enter Tryz.func84, Tryz.ntmps84
    go_wp2_with fail
    refine (names_any _ (by omega)).mono ?_
    rw [HC.out]
    rintro e w1 ⟨A1, n1, c1, rfl, hown, hbel⟩
    have HB := hide hbel
    clear hown hbel
    go_wp2_with fail
    go_ret2
    exact LRet.nil HB.out
  | true =>
    obtain ⟨_, _, hn, ht⟩ := names_clean hc
    have hms := mul_small hs
    rw [hc, Bool.true_and] at q1
    rw [q1]
    obtain ⟨l, hl⟩ : ∃ l, namesPt s = l := ⟨_, rfl⟩
    rw [hl] at hn ht ⊢
    obtain ⟨j, hj⟩ : ∃ j, joinS l = j := ⟨_, rfl⟩
    rw [hj]
    have HC := hide hc
    have HL := hide hl
    have HJ := hide hj
    have HN := hide hn
    have HT := hide (Nat.le_trans ht hms)
    clear hc hl hj hn ht q1 q2 hms
    by_cases hjs : j = s
    · have d1 : (j != s) = false := by simp [hjs]
      have d2 : (j == s) = true := by simp [hjs]
      rw [d2]
      clear hjs
      go_enter Tryz.func84, Tryz.ntmps84
      go_wp2_with fail
      refine (names_any _ (by omega)).mono ?_
      rw [HC.out, HL.out]
      rintro e w1 ⟨A1, n1, c1, rfl, hown, hbel⟩
      have HO := hide hown
      have HB := hide hbel
      have hnn := hown.len
      have hcap := hown.cap
      have HNN := hide hnn
      clear hown hbel hnn
      go_wp2_with fail
      refine (PJoin_any _ HO.out.rd (by have := HN.out; have := HNN.out; omega) hcap (by have := HT.out; omega)).mono ?_
      rw [HJ.out]
      unfold st
      rintro e w2 ⟨rfl, hbel⟩
      have HB2 := hide (below_step HB.out hbel)
      have HO2 := hide (HO.out.below hbel)
      clear hbel
      go_wp2_with fail
      go_ret2
      exact ⟨_, _, _, rfl, HO2.out, HB2.out⟩
    · have d1 : (j != s) = true := by simpa using hjs
      have d2 : (j == s) = false := by simpa using hjs
      rw [d2]
      have d3 : ¬ j = s := hjs
      clear hjs
      go_enter Tryz.func84, Tryz.ntmps84
      go_wp2_with fail
      refine (names_any _ (by omega)).mono ?_
      rw [HC.out, HL.out]
      rintro e w1 ⟨A1, n1, c1, rfl, hown, hbel⟩
      have HO := hide hown
      have HB := hide hbel
      have hnn := hown.len
      have hcap := hown.cap
      have HNN := hide hnn
      clear hown hbel hnn
      go_wp2_with fail
      refine (PJoin_any _ HO.out.rd (by have := HN.out; have := HNN.out; omega) hcap (by have := HT.out; omega)).mono ?_
      rw [HJ.out]
      unfold st
      rintro e w2 ⟨rfl, hbel⟩
      have HB2 := hide (below_step HB.out hbel)
      clear hbel
      go_wp2_with fail
      go_ret2
      exact LRet.nil HB2.out

end Go.Proofs.YtnehkgbdppbhiaaGreat

/- Contracts of the program's name.Pack. -/
namespace Go.Proofs.YtnehkgbdppbhiaaGreat
open Go.RowKit Plain

theorem packed_size : (Tryz.prog.info? 5).map (·.size) = some 1 := by kernel_rfl
theorem pack_splice {l : List UInt8} (h : nameB l = true) : splice [Value.int .u8 (l.length : Int), .int .u8 0, .int .u8 0, .int .u8 0, .int .u8 0, .int .u8 0, .int .u8 0, .int .u8 0, .int .u8 0, .int .u8 0, .int .u8 0, .int .u8 0, .int .u8 0, .int .u8 0] 1 (bvs l) = bvs (packS l) := by
  obtain ⟨h1, h2⟩ := nameB_len h
  have e1 : ([Value.int .u8 0, .int .u8 0, .int .u8 0, .int .u8 0, .int .u8 0, .int .u8 0, .int .u8 0, .int .u8 0, .int .u8 0, .int .u8 0, .int .u8 0, .int .u8 0, .int .u8 0] : List Value) = bvs (zeros 13) := by simp [bvs, zeros, bv]
  have e2 : Value.int .u8 (l.length : Int) = bv (UInt8.ofNat l.length) := by
    simp only [bv]
    congr 1
    simp
    omega
  rw [packS_yes h, e1]
  unfold splice
  rw [bvs_length, List.take_succ_cons, List.take_zero, Nat.add_comm 1, List.drop_succ_cons, e2]
  simp only [bvs, zeros, List.map_cons, List.map_append, List.map_replicate, List.drop_replicate, List.cons_append, List.nil_append]

end Go.Proofs.YtnehkgbdppbhiaaGreat

/- The contract of bytes.Equal. -/
namespace Go.Proofs.YtnehkgbdppbhiaaGreat
open Go.RowKit

set_option maxHeartbeats 400000 in
theorem BEqual_any {A B : Option Addr} {n m c d : Nat} {l k : List UInt8} {W1 W2 : Nat} (w : World) (ha : Bs w W1 A n l) (hb : Bs w W2 B m k) :
    Calls Tryz.prog 39 #[.slice A n c, .slice B m d] w fun e w' => e = .returned (.bool (l == k)) ∧ w = w' := by
  have ra := run_string_Bs (P := Tryz.prog) w 64 5 9 Tryz.underlying64 Tryz.underlying5 Tryz.underlying9 (c := c) ha
  have rb := run_string_Bs (P := Tryz.prog) w 64 5 9 Tryz.underlying64 Tryz.underlying5 Tryz.underlying9 (c := d) hb
  clear ha hb
  go_enter Tryz.func39, Tryz.ntmps39
  go_wp2
  go_ret
  exact ⟨rfl, rfl⟩
theorem BEqual_b {A B : Option Addr} {n m c d : Nat} {l k : List UInt8} {b : Bool} {W1 W2 : Nat} (w : World) (ha : Bs w W1 A n l) (hb : Bs w W2 B m k) (h : (l == k) = b) :
    Calls Tryz.prog 39 #[.slice A n c, .slice B m d] w fun e w' => e = .returned (.bool b) ∧ w = w' := by
  have := BEqual_any (c := c) (d := d) w ha hb; rw [h] at this; exact this
end Go.Proofs.YtnehkgbdppbhiaaGreat

/- The contract of the program's name.Unpack. -/
namespace Go.Proofs.YtnehkgbdppbhiaaGreat
open Go.RowKit Plain

theorem list14 {b : List UInt8} (h : b.length = 14) : ∃ b0 b1 b2 b3 b4 b5 b6 b7 b8 b9 b10 b11 b12 b13 : UInt8, b = [b0, b1, b2, b3, b4, b5, b6, b7, b8, b9, b10, b11, b12, b13] := by
  match b, h with
  | [b0, b1, b2, b3, b4, b5, b6, b7, b8, b9, b10, b11, b12, b13], _ => exact ⟨b0, b1, b2, b3, b4, b5, b6, b7, b8, b9, b10, b11, b12, b13, rfl⟩

end Go.Proofs.YtnehkgbdppbhiaaGreat

/- The walk of awake of layer 3's laws: it is true. -/
namespace Go.Proofs.YtnehkgbdppbhiaaGreat
open Go.RowKit Plain

theorem isPackB_of (l : List UInt8) : isPackB (packS l) = nameB l ∧ unpackS (packS l) = if nameB l then l else [] := by
  cases h : nameB l with
  | true =>
    obtain ⟨h1, h2⟩ := isPackB_packS h
    exact ⟨h1, by simp [unpackS, h1, h2]⟩
  | false =>
    rw [packS_no h]
    exact ⟨by decide, (by decide : unpackS [] = [])⟩
theorem sort_bab : sortS [[98], [97], [98]] = [[97], [98]] := by decide +kernel
theorem EqualS_b {A B : Option Addr} {n m c d : Nat} {l k : List (List UInt8)} {W1 W2 : Nat} {b : Bool} (h : (l == k) = b) (w : World) (ha : Rd st w W1 A n l) (hb : Rd st w W2 B m k) (hn : n ≤ 140737488355328) :
    Calls Tryz.prog 20 #[.slice A n c, .slice B m d] w (BRt w b) := by
  have := EqualS_any (c := c) (d := d) w ha hb hn; rw [h] at this; exact this

end Go.Proofs.YtnehkgbdppbhiaaGreat

/- Contracts of the program's path.Redirect and Begins; the walk of awake of layer 4's laws. -/
namespace Go.Proofs.YtnehkgbdppbhiaaGreat
open Go.RowKit Plain

theorem name_head {s : List UInt8} (h : nameB s = true) : headB s = false := by
  cases s with
  | nil => rfl
  | cons c r =>
    have := nameB_noslash h c List.mem_cons_self
    simpa [headB] using this
theorem red_no {s : List UInt8} (h1 : headB s = false) : splitB s = false ∧ splitS s = [] := by
  have hne : s ≠ [47] := by rintro rfl; simp [headB] at h1
  have hne2 : (s == [47]) = false := by simpa using hne
  refine ⟨by unfold splitB; rw [hne2, h1]; rfl, by unfold splitS; rw [if_neg hne, h1]; rfl⟩
theorem red_split {s : List UInt8} (h : ¬ 24 < s.length) (hn : nameB s = false) : redL s = splitS s ∧ redA s = splitB s ∧ redB s = splitB s := by
  unfold redL redA redB
  rw [if_neg h, if_neg h, if_neg h]
  cases hh : headB s with
  | true => exact ⟨rfl, rfl, rfl⟩
  | false => obtain ⟨a, b⟩ := red_no hh; rw [a, b, hn]; exact ⟨rfl, rfl, rfl⟩
theorem red_name {s : List UInt8} (h : ¬ 24 < s.length) (hn : nameB s = true) : redL s = [s] ∧ redA s = false ∧ redB s = true := by
  unfold redL redA redB
  rw [if_neg h, if_neg h, if_neg h, name_head hn, hn]
  exact ⟨rfl, rfl, rfl⟩

set_option maxHeartbeats 400000 in
theorem PRed_any {s : List UInt8} (w : World) (hs : s.length ≤ 100000) : Calls Tryz.prog 102 #[st s] w (LRet2 w 9 (redL s) (redA s) (redB s)) := by
  unfold st
  by_cases h : 24 < s.length
  · rw [show redL s = [] from by simp [redL, h], show redA s = false from by simp [redA, h], show redB s = false from by simp [redB, h]]
    have hd : decide ((24 : Int) < (s.length : Int)) = true := by simp; omega
    go_enter Tryz.func102, Tryz.ntmps102
    go_wp2_with fail
    go_ret3
    exact LRet2.nil (below_self w)
  have hd : decide ((24 : Int) < (s.length : Int)) = false := by simp; omega
  cases hn : nameB s with
  | true =>
    obtain ⟨e1, e2, e3⟩ := red_name h hn
    rw [e1, e2, e3]
    have HN := hide hn
    clear e1 e2 e3 hn h
    go_enter Tryz.func102, Tryz.ntmps102
    go_wp2_with fail
    refine (NRight_b HN.out _ (by omega)).mono ?_
    rintro e w1 ⟨rfl, hbel⟩
    have HB := hide hbel
    clear hbel
    go_wp2_with fail
    go_ret3
    exact ⟨_, _, _, rfl, (Ow.lit w1 9 (f := st) (cs := [.string ⟨s.toArray⟩]) (l := [s]) (n := 1) rfl rfl (by decide)).rebase HB.out.size, below_new HB.out _⟩
  | false =>
    obtain ⟨e1, e2, e3⟩ := red_split h hn
    rw [e1, e2, e3]
    obtain ⟨l, hl⟩ : ∃ l, splitS s = l := ⟨_, rfl⟩
    obtain ⟨b, hb⟩ : ∃ b, splitB s = b := ⟨_, rfl⟩
    rw [hl, hb]
    have HN := hide hn
    have HL := hide hl
    have HBB := hide hb
    clear e1 e2 e3 hn h hl hb
    go_enter Tryz.func102, Tryz.ntmps102
    go_wp2_with fail
    refine (NRight_b HN.out _ (by omega)).mono ?_
    rintro e w1 ⟨rfl, hbel⟩
    have HB := hide hbel
    clear hbel
    go_wp2_with fail
    refine (PSplit_any _ hs).mono ?_
    rw [HL.out, HBB.out]
    rintro e w2 ⟨A2, n2, c2, rfl, hown, hbel⟩
    have HO := hide (hown.rebase HB.out.size)
    have HB2 := hide (below_step HB.out hbel)
    clear hown hbel
    go_wp2_with fail
    go_ret3
    exact ⟨_, _, _, rfl, HO.out, HB2.out⟩

theorem PSplit_of {s : List UInt8} {l : List (List UInt8)} {b : Bool} (h1 : splitS s = l) (h2 : splitB s = b) (w : World) (hs : s.length ≤ 100000) : Calls Tryz.prog 84 #[st s] w (LRet w 9 l b) := by
  have := PSplit_any w hs; rw [h1, h2] at this; exact this
theorem PRed_of {s : List UInt8} {l : List (List UInt8)} {a b : Bool} (h1 : redL s = l) (h2 : redA s = a) (h3 : redB s = b) (w : World) (hs : s.length ≤ 100000) : Calls Tryz.prog 102 #[st s] w (LRet2 w 9 l a b) := by
  have := PRed_any w hs; rw [h1, h2, h3] at this; exact this

end Go.Proofs.YtnehkgbdppbhiaaGreat

/- The lower part of a directory of the upper layer (layer 17). -/
namespace Go.Proofs.YtnehkgbdppbhiaaGreat
open Go.RowKit Go.Shelf Plain

theorem PRed_e {s : List UInt8} {l : List (List UInt8)} {a b : Bool} (hl : redL s = l) (ha : redA s = a) (hb : redB s = b) (w : World) (hs : s.length ≤ 100000) : Calls Tryz.prog 102 #[.string ⟨s.toArray⟩] w (LRet2 w 9 l a b) := by
  subst hl ha hb
  exact PRed_any w hs
theorem bit_two {x : NodV} (h0 : 0 ≤ x.att.h) (h1 : x.att.h ≤ 31) : (bits .and .i64 x.att.h 2 == 2) = hasR x := bit_is2' h0 h1
theorem roots_few {ls : List (List NodV)} (h : FewL ls) : (rootsL ls 0).length ≤ 1000 := by have := rootsL_len ls 0; have := h.1; omega
set_option maxRecDepth 100000 in
set_option maxHeartbeats 4000000 in
theorem VBen_any {g : GeoQ} {AU AL : Option Addr} {nU cU nL cL B : Nat} {up : List NodV} {ls : List (List NodV)} {u : Int} {AV : Option Addr} {nV cV BV : Nat} {vl : List (Int × Int)} {nm : List UInt8} (w : World) (hu : RdE nodEn w (Under B) AU nU up) (h : RdE layEn w (Under B) AL nL ls) (hB : B ≤ w.heap.size) (hF : FewL ls) (hup : FewU up) (hv : RdE prEn w (Under BV) AV nV vl) (hBV : BV ≤ w.heap.size) (hnV : nV ≤ 1000) : Calls Tryz.prog 101 #[.agg (vwdC g (.slice AU nU cU) (.slice AL nL cL) u (.slice AV nV cV)).toArray, .string ⟨nm.toArray⟩] w (PlcsF w (benV ls vl nm)) := by
  obtain ⟨W1, hW1⟩ : ∃ W1, (w.alloc (.cells (vwdC g (.slice AU nU cU) (.slice AL nL cL) u (.slice AV nV cV)).toArray 95)) = W1 := ⟨_, rfl⟩
  obtain ⟨r0, hb1, hs1⟩ := rowA1 w _ _ hW1
  have hW1' : (w.alloc (.cells #[.int .i64 g.a, .int .i64 g.b, .int .i64 g.c, .int .i64 g.d, .slice AU nU cU, .slice AL nL cL, .int .i64 u, .slice AV nV cV] 95)) = W1 := hW1
  have R2 := hide r0
  have HB := hide hb1
  have hsz0 := hb1.size
  have HU := hide (hu.under hb1 hB)
  have HL := hide (h.under hb1 hB)
  have HF := hide hF
  have HFU := hide hup
  have HV := hide (hv.under hb1 hBV)
  obtain ⟨R, hR⟩ : ∃ R, findL ls nm vl [] = R := ⟨_, rfl⟩
  have HR := hide hR
  have q2_7 : W1.cell? ⟨w.heap.size, 7, none⟩ = some (.slice AV nV cV) := R2.out.cell 7
  unfold benV
  rw [hR]
  unfold vwdC
  obtain ⟨K, L⟩ := R
  clear r0 hb1 hW1 hu h hF hup hv hR
  by_cases hk : K = 1
  · have hk1 : (K != 1) = false := by simpa using hk
    rw [if_pos hk]
    clear hk
    go_enter Tryz.func101, Tryz.ntmps101
    go_wp2_with (first | (refine wpList_loadC rfl 29 (.tmp 8) rfl 6 stk_agg stk_size (w.heap.size) 0 95 rfl (vwdC g (.slice AU nU cU) (.slice AL nL cL) u (.slice AV nV cV)) (stkC g (.slice AU nU cU) (.slice AL nL cL)) R2.out rfl rfl ?_) | (go_at_call 25; refine (Find_e HR.out W1 HL.out (und_up HV.out (by omega)) (by omega) HF.out hnV).mono ?_; rintro e1 wF ⟨A3, c3, rfl, -, h3, hbel⟩; clear q2_7; replace HB := hide (HB.out.trans (hbel.mono HB.out.size)); replace R2 := hide (R2.out.on hbel); replace HU := hide (HU.out.under hbel (by omega)); replace HL := hide (HL.out.under hbel (by omega)); replace HV := hide (HV.out.under hbel (by omega)); have hsz2 := hbel.size; have q2_7 : wF.cell? ⟨w.heap.size, 7, none⟩ = some (.slice AV nV cV) := R2.out.cell 7; have H3 := hide h3; clear h3; clear hbel))
    go_ret
    exact ⟨A3, c3, rfl, fr_low H3.out (by omega), HB.out⟩
  · have hk1 : (K != 1) = true := by simpa using hk
    rw [if_neg hk]
    clear hk
    go_enter Tryz.func101, Tryz.ntmps101
    go_wp2_with (first | (refine wpList_loadC rfl 29 (.tmp 8) rfl 6 stk_agg stk_size (w.heap.size) 0 95 rfl (vwdC g (.slice AU nU cU) (.slice AL nL cL) u (.slice AV nV cV)) (stkC g (.slice AU nU cU) (.slice AL nL cL)) R2.out rfl rfl ?_) | (go_at_call 25; refine (Find_e HR.out W1 HL.out (und_up HV.out (by omega)) (by omega) HF.out hnV).mono ?_; rintro e1 wF ⟨A3, c3, rfl, -, h3, hbel⟩; clear q2_7; replace HB := hide (HB.out.trans (hbel.mono HB.out.size)); replace R2 := hide (R2.out.on hbel); replace HU := hide (HU.out.under hbel (by omega)); replace HL := hide (HL.out.under hbel (by omega)); replace HV := hide (HV.out.under hbel (by omega)); have hsz2 := hbel.size; have q2_7 : wF.cell? ⟨w.heap.size, 7, none⟩ = some (.slice AV nV cV) := R2.out.cell 7; have H3 := hide h3; clear h3; clear hbel))
    go_ret
    exact ⟨none, 0, rfl, RdE.none_ _ _ _ _, HB.out⟩
theorem VBen_e {g : GeoQ} {AU AL : Option Addr} {nU cU nL cL B : Nat} {up : List NodV} {ls : List (List NodV)} {u : Int} {AV : Option Addr} {nV cV BV : Nat} {vl : List (Int × Int)} {nm : List UInt8} {P : List (Int × Int)} (hP : benV ls vl nm = P) (w : World) (hu : RdE nodEn w (Under B) AU nU up) (h : RdE layEn w (Under B) AL nL ls) (hB : B ≤ w.heap.size) (hF : FewL ls) (hup : FewU up) (hv : RdE prEn w (Under BV) AV nV vl) (hBV : BV ≤ w.heap.size) (hnV : nV ≤ 1000) : Calls Tryz.prog 101 #[.agg (vwdC g (.slice AU nU cU) (.slice AL nL cL) u (.slice AV nV cV)).toArray, .string ⟨nm.toArray⟩] w (PlcsF w P) := by rw [← hP]; exact VBen_any w hu h hB hF hup hv hBV hnV
set_option maxRecDepth 100000 in
set_option maxHeartbeats 16000000 in
theorem VPartI_any {g : GeoQ} {AU AL : Option Addr} {nU cU nL cL B : Nat} {up : List NodV} {ls : List (List NodV)} {u : Int} {AV : Option Addr} {nV cV BV : Nat} {vl : List (Int × Int)} {i : Int} {nm : List UInt8} (w : World) (hu : RdE nodEn w (Under B) AU nU up) (h : RdE layEn w (Under B) AL nL ls) (hB : B ≤ w.heap.size) (hF : FewL ls) (hup : FewU up) (hv : RdE prEn w (Under BV) AV nV vl) (hBV : BV ≤ w.heap.size) (hnV : nV ≤ 1000) : Calls Tryz.prog 58 #[.agg (vwdC g (.slice AU nU cU) (.slice AL nL cL) u (.slice AV nV cV)).toArray, .int .i64 i, .string ⟨nm.toArray⟩] w (PlcsF w (partV up ls vl i nm)) := by
  obtain ⟨W1, hW1⟩ : ∃ W1, (w.alloc (.cells (vwdC g (.slice AU nU cU) (.slice AL nL cL) u (.slice AV nV cV)).toArray 95)) = W1 := ⟨_, rfl⟩
  obtain ⟨r0, hb1, hs1⟩ := rowA1 w _ _ hW1
  have hW1' : (w.alloc (.cells #[.int .i64 g.a, .int .i64 g.b, .int .i64 g.c, .int .i64 g.d, .slice AU nU cU, .slice AL nL cL, .int .i64 u, .slice AV nV cV] 95)) = W1 := hW1
  have R3 := hide r0
  have HB := hide hb1
  have hsz0 := hb1.size
  have HU := hide (hu.under hb1 hB)
  have HL := hide (h.under hb1 hB)
  have HF := hide hF
  have HFU := hide hup
  have HV := hide (hv.under hb1 hBV)
  obtain ⟨x, hx⟩ : ∃ x, nodAt up i = x := ⟨_, rfl⟩
  have HX := hide hx
  have hpx : PlainN x := by rw [← hx]; exact nodAt_plain hup.2 i
  have hatt := hpx.2.2.1
  have hrl : x.att.r.length ≤ 40 := hpx.2.2.2.2.2.1
  have q3_4 : W1.cell? ⟨w.heap.size, 4, none⟩ = some (.slice AU nU cU) := R3.out.cell 4
  unfold partV
  rw [hx]
  unfold vwdC
  clear r0 hb1 hW1 hu h hF hup hv hx hpx
  by_cases hk : x.k = 1
  rotate_left
  · have hk1 : (x.k != 1) = true := by simpa using hk
    have HOP := hide (show opqD x = false from by unfold opqD; simp [hk])
    rw [if_neg hk]
    clear hk
    go_enter Tryz.func58, Tryz.ntmps58
    go_wp2_with (first | (go_at_call 55; refine (Of_e HX.out W1 HU.out (by omega) (by have := HFU.out.1; omega)).mono ?_; rintro e1 wN ⟨A1, n1, c1, C1, m1, d1, rfl, -, -, -, -, hbel⟩; clear q3_4; replace HB := hide (HB.out.trans (hbel.mono HB.out.size)); replace R3 := hide (R3.out.on hbel); replace HU := hide (HU.out.under hbel (by omega)); replace HL := hide (HL.out.under hbel (by omega)); replace HV := hide (HV.out.under hbel (by omega)); have hsz2 := hbel.size; have q3_4 : wN.cell? ⟨w.heap.size, 4, none⟩ = some (.slice AU nU cU) := R3.out.cell 4; clear hbel) | (refine wpList_storeW rfl 71 (.tmp 7) (.tmp 17) rfl 13 nod_size (wN.heap.size) 71 rfl (nodC nod0 (.slice none 0 0) (.slice none 0 0)) (nodC x (.slice A1 n1 c1) (.slice C1 m1 d1)) rfl (RowL.new wN 71 (nodC nod0 (.slice none 0 0) (.slice none 0 0))) rfl rfl (nodC_one _ _ _ _ _ _ _) ?_; intro wS3 hr3 hg3 hs3; have hzb := below_stored' hg3; clear q3_4; replace HB := hide (HB.out.trans (hzb.mono HB.out.size)); replace R3 := hide (R3.out.on hzb); replace HU := hide (HU.out.under hzb (by omega)); replace HL := hide (HL.out.under hzb (by omega)); replace HV := hide (HV.out.under hzb (by omega)); have hsz4 := hzb.size; have q3_4 : wS3.cell? ⟨w.heap.size, 4, none⟩ = some (.slice AU nU cU) := R3.out.cell 4; have RN := hide hr3; have hlt3 := hr3.lt; have q7_0 : wS3.cell? ⟨wN.heap.size, 0, none⟩ = some (.int .i64 x.k) := RN.out.cell 0; have q7_1 : wS3.cell? ⟨wN.heap.size, 1, none⟩ = some (.int .i64 x.p) := RN.out.cell 1; have q7_2 : wS3.cell? ⟨wN.heap.size, 2, none⟩ = some (.int .i64 x.n) := RN.out.cell 2; have q7_3 : wS3.cell? ⟨wN.heap.size, 3, none⟩ = some (.int .i64 x.g) := RN.out.cell 3; have q7_4 : wS3.cell? ⟨wN.heap.size, 4, none⟩ = some (.slice A1 n1 c1) := RN.out.cell 4; have q7_5 : wS3.cell? ⟨wN.heap.size, 5, none⟩ = some (.slice C1 m1 d1) := RN.out.cell 5; have q7_6 : wS3.cell? ⟨wN.heap.size, 6, none⟩ = some (.int .i64 x.att.h) := RN.out.cell 6; have q7_7 : wS3.cell? ⟨wN.heap.size, 7, none⟩ = some (.int .i64 x.att.o) := RN.out.cell 7; have q7_8 : wS3.cell? ⟨wN.heap.size, 8, none⟩ = some (.string ⟨x.att.r.toArray⟩) := RN.out.cell 8; have q7_9 : wS3.cell? ⟨wN.heap.size, 9, none⟩ = some (.int .i64 x.att.l) := RN.out.cell 9; have q7_10 : wS3.cell? ⟨wN.heap.size, 10, none⟩ = some (.int .i64 x.att.i) := RN.out.cell 10; have q7_11 : wS3.cell? ⟨wN.heap.size, 11, none⟩ = some (.int .i64 x.att.g) := RN.out.cell 11; have q7_12 : wS3.cell? ⟨wN.heap.size, 12, none⟩ = some (.int .i64 x.att.s) := RN.out.cell 12; clear hzb hr3; clear hg3 hs3) | (go_at_call 31; refine (VOpq_b HOP.out hatt.1 hatt.2 wS3).mono ?_; rintro e5 wO ⟨rfl, hbel⟩; clear q3_4 q7_0 q7_1 q7_2 q7_3 q7_4 q7_5 q7_6 q7_7 q7_8 q7_9 q7_10 q7_11 q7_12; replace HB := hide (HB.out.trans (hbel.mono HB.out.size)); replace R3 := hide (R3.out.on hbel); replace HU := hide (HU.out.under hbel (by omega)); replace HL := hide (HL.out.under hbel (by omega)); replace HV := hide (HV.out.under hbel (by omega)); replace RN := hide (RN.out.on hbel); have hsz6 := hbel.size; have q3_4 : wO.cell? ⟨w.heap.size, 4, none⟩ = some (.slice AU nU cU) := R3.out.cell 4; have q7_0 : wO.cell? ⟨wN.heap.size, 0, none⟩ = some (.int .i64 x.k) := RN.out.cell 0; have q7_1 : wO.cell? ⟨wN.heap.size, 1, none⟩ = some (.int .i64 x.p) := RN.out.cell 1; have q7_2 : wO.cell? ⟨wN.heap.size, 2, none⟩ = some (.int .i64 x.n) := RN.out.cell 2; have q7_3 : wO.cell? ⟨wN.heap.size, 3, none⟩ = some (.int .i64 x.g) := RN.out.cell 3; have q7_4 : wO.cell? ⟨wN.heap.size, 4, none⟩ = some (.slice A1 n1 c1) := RN.out.cell 4; have q7_5 : wO.cell? ⟨wN.heap.size, 5, none⟩ = some (.slice C1 m1 d1) := RN.out.cell 5; have q7_6 : wO.cell? ⟨wN.heap.size, 6, none⟩ = some (.int .i64 x.att.h) := RN.out.cell 6; have q7_7 : wO.cell? ⟨wN.heap.size, 7, none⟩ = some (.int .i64 x.att.o) := RN.out.cell 7; have q7_8 : wO.cell? ⟨wN.heap.size, 8, none⟩ = some (.string ⟨x.att.r.toArray⟩) := RN.out.cell 8; have q7_9 : wO.cell? ⟨wN.heap.size, 9, none⟩ = some (.int .i64 x.att.l) := RN.out.cell 9; have q7_10 : wO.cell? ⟨wN.heap.size, 10, none⟩ = some (.int .i64 x.att.i) := RN.out.cell 10; have q7_11 : wO.cell? ⟨wN.heap.size, 11, none⟩ = some (.int .i64 x.att.g) := RN.out.cell 11; have q7_12 : wO.cell? ⟨wN.heap.size, 12, none⟩ = some (.int .i64 x.att.s) := RN.out.cell 12; clear hbel))
    go_ret
    exact ⟨none, 0, rfl, RdE.none_ _ _ _ _, HB.out⟩
  have hk1 : (x.k != 1) = false := by simpa using hk
  have hop : opqD x = opq x := by unfold opqD; simp [hk]
  rw [if_pos hk]
  clear hk
  cases ho : opq x
  rotate_left
  · have HOP := hide (hop.trans ho)
    rw [if_pos rfl]
    clear hop ho
    go_enter Tryz.func58, Tryz.ntmps58
    go_wp2_with (first | (go_at_call 55; refine (Of_e HX.out W1 HU.out (by omega) (by have := HFU.out.1; omega)).mono ?_; rintro e1 wN ⟨A1, n1, c1, C1, m1, d1, rfl, -, -, -, -, hbel⟩; clear q3_4; replace HB := hide (HB.out.trans (hbel.mono HB.out.size)); replace R3 := hide (R3.out.on hbel); replace HU := hide (HU.out.under hbel (by omega)); replace HL := hide (HL.out.under hbel (by omega)); replace HV := hide (HV.out.under hbel (by omega)); have hsz2 := hbel.size; have q3_4 : wN.cell? ⟨w.heap.size, 4, none⟩ = some (.slice AU nU cU) := R3.out.cell 4; clear hbel) | (refine wpList_storeW rfl 71 (.tmp 7) (.tmp 17) rfl 13 nod_size (wN.heap.size) 71 rfl (nodC nod0 (.slice none 0 0) (.slice none 0 0)) (nodC x (.slice A1 n1 c1) (.slice C1 m1 d1)) rfl (RowL.new wN 71 (nodC nod0 (.slice none 0 0) (.slice none 0 0))) rfl rfl (nodC_one _ _ _ _ _ _ _) ?_; intro wS3 hr3 hg3 hs3; have hzb := below_stored' hg3; clear q3_4; replace HB := hide (HB.out.trans (hzb.mono HB.out.size)); replace R3 := hide (R3.out.on hzb); replace HU := hide (HU.out.under hzb (by omega)); replace HL := hide (HL.out.under hzb (by omega)); replace HV := hide (HV.out.under hzb (by omega)); have hsz4 := hzb.size; have q3_4 : wS3.cell? ⟨w.heap.size, 4, none⟩ = some (.slice AU nU cU) := R3.out.cell 4; have RN := hide hr3; have hlt3 := hr3.lt; have q7_0 : wS3.cell? ⟨wN.heap.size, 0, none⟩ = some (.int .i64 x.k) := RN.out.cell 0; have q7_1 : wS3.cell? ⟨wN.heap.size, 1, none⟩ = some (.int .i64 x.p) := RN.out.cell 1; have q7_2 : wS3.cell? ⟨wN.heap.size, 2, none⟩ = some (.int .i64 x.n) := RN.out.cell 2; have q7_3 : wS3.cell? ⟨wN.heap.size, 3, none⟩ = some (.int .i64 x.g) := RN.out.cell 3; have q7_4 : wS3.cell? ⟨wN.heap.size, 4, none⟩ = some (.slice A1 n1 c1) := RN.out.cell 4; have q7_5 : wS3.cell? ⟨wN.heap.size, 5, none⟩ = some (.slice C1 m1 d1) := RN.out.cell 5; have q7_6 : wS3.cell? ⟨wN.heap.size, 6, none⟩ = some (.int .i64 x.att.h) := RN.out.cell 6; have q7_7 : wS3.cell? ⟨wN.heap.size, 7, none⟩ = some (.int .i64 x.att.o) := RN.out.cell 7; have q7_8 : wS3.cell? ⟨wN.heap.size, 8, none⟩ = some (.string ⟨x.att.r.toArray⟩) := RN.out.cell 8; have q7_9 : wS3.cell? ⟨wN.heap.size, 9, none⟩ = some (.int .i64 x.att.l) := RN.out.cell 9; have q7_10 : wS3.cell? ⟨wN.heap.size, 10, none⟩ = some (.int .i64 x.att.i) := RN.out.cell 10; have q7_11 : wS3.cell? ⟨wN.heap.size, 11, none⟩ = some (.int .i64 x.att.g) := RN.out.cell 11; have q7_12 : wS3.cell? ⟨wN.heap.size, 12, none⟩ = some (.int .i64 x.att.s) := RN.out.cell 12; clear hzb hr3; clear hg3 hs3) | (go_at_call 31; refine (VOpq_b HOP.out hatt.1 hatt.2 wS3).mono ?_; rintro e5 wO ⟨rfl, hbel⟩; clear q3_4 q7_0 q7_1 q7_2 q7_3 q7_4 q7_5 q7_6 q7_7 q7_8 q7_9 q7_10 q7_11 q7_12; replace HB := hide (HB.out.trans (hbel.mono HB.out.size)); replace R3 := hide (R3.out.on hbel); replace HU := hide (HU.out.under hbel (by omega)); replace HL := hide (HL.out.under hbel (by omega)); replace HV := hide (HV.out.under hbel (by omega)); replace RN := hide (RN.out.on hbel); have hsz6 := hbel.size; have q3_4 : wO.cell? ⟨w.heap.size, 4, none⟩ = some (.slice AU nU cU) := R3.out.cell 4; have q7_0 : wO.cell? ⟨wN.heap.size, 0, none⟩ = some (.int .i64 x.k) := RN.out.cell 0; have q7_1 : wO.cell? ⟨wN.heap.size, 1, none⟩ = some (.int .i64 x.p) := RN.out.cell 1; have q7_2 : wO.cell? ⟨wN.heap.size, 2, none⟩ = some (.int .i64 x.n) := RN.out.cell 2; have q7_3 : wO.cell? ⟨wN.heap.size, 3, none⟩ = some (.int .i64 x.g) := RN.out.cell 3; have q7_4 : wO.cell? ⟨wN.heap.size, 4, none⟩ = some (.slice A1 n1 c1) := RN.out.cell 4; have q7_5 : wO.cell? ⟨wN.heap.size, 5, none⟩ = some (.slice C1 m1 d1) := RN.out.cell 5; have q7_6 : wO.cell? ⟨wN.heap.size, 6, none⟩ = some (.int .i64 x.att.h) := RN.out.cell 6; have q7_7 : wO.cell? ⟨wN.heap.size, 7, none⟩ = some (.int .i64 x.att.o) := RN.out.cell 7; have q7_8 : wO.cell? ⟨wN.heap.size, 8, none⟩ = some (.string ⟨x.att.r.toArray⟩) := RN.out.cell 8; have q7_9 : wO.cell? ⟨wN.heap.size, 9, none⟩ = some (.int .i64 x.att.l) := RN.out.cell 9; have q7_10 : wO.cell? ⟨wN.heap.size, 10, none⟩ = some (.int .i64 x.att.i) := RN.out.cell 10; have q7_11 : wO.cell? ⟨wN.heap.size, 11, none⟩ = some (.int .i64 x.att.g) := RN.out.cell 11; have q7_12 : wO.cell? ⟨wN.heap.size, 12, none⟩ = some (.int .i64 x.att.s) := RN.out.cell 12; clear hbel))
    go_ret
    exact ⟨none, 0, rfl, RdE.none_ _ _ _ _, HB.out⟩
  have HOP := hide (hop.trans ho)
  rw [if_neg (by simp)]
  clear hop ho
  cases hr : hasR x
  · have HHR := hide ((bit_two hatt.1 hatt.2).trans hr)
    rw [if_neg (by simp)]
    obtain ⟨P, hP⟩ : ∃ P, benV ls vl nm = P := ⟨_, rfl⟩
    rw [hP]
    have HP := hide hP
    clear hr hP
    go_enter Tryz.func58, Tryz.ntmps58
    go_wp2_with (first | (go_at_call 55; refine (Of_e HX.out W1 HU.out (by omega) (by have := HFU.out.1; omega)).mono ?_; rintro e1 wN ⟨A1, n1, c1, C1, m1, d1, rfl, -, -, -, -, hbel⟩; clear q3_4; replace HB := hide (HB.out.trans (hbel.mono HB.out.size)); replace R3 := hide (R3.out.on hbel); replace HU := hide (HU.out.under hbel (by omega)); replace HL := hide (HL.out.under hbel (by omega)); replace HV := hide (HV.out.under hbel (by omega)); have hsz2 := hbel.size; have q3_4 : wN.cell? ⟨w.heap.size, 4, none⟩ = some (.slice AU nU cU) := R3.out.cell 4; clear hbel) | (refine wpList_storeW rfl 71 (.tmp 7) (.tmp 17) rfl 13 nod_size (wN.heap.size) 71 rfl (nodC nod0 (.slice none 0 0) (.slice none 0 0)) (nodC x (.slice A1 n1 c1) (.slice C1 m1 d1)) rfl (RowL.new wN 71 (nodC nod0 (.slice none 0 0) (.slice none 0 0))) rfl rfl (nodC_one _ _ _ _ _ _ _) ?_; intro wS3 hr3 hg3 hs3; have hzb := below_stored' hg3; clear q3_4; replace HB := hide (HB.out.trans (hzb.mono HB.out.size)); replace R3 := hide (R3.out.on hzb); replace HU := hide (HU.out.under hzb (by omega)); replace HL := hide (HL.out.under hzb (by omega)); replace HV := hide (HV.out.under hzb (by omega)); have hsz4 := hzb.size; have q3_4 : wS3.cell? ⟨w.heap.size, 4, none⟩ = some (.slice AU nU cU) := R3.out.cell 4; have RN := hide hr3; have hlt3 := hr3.lt; have q7_0 : wS3.cell? ⟨wN.heap.size, 0, none⟩ = some (.int .i64 x.k) := RN.out.cell 0; have q7_1 : wS3.cell? ⟨wN.heap.size, 1, none⟩ = some (.int .i64 x.p) := RN.out.cell 1; have q7_2 : wS3.cell? ⟨wN.heap.size, 2, none⟩ = some (.int .i64 x.n) := RN.out.cell 2; have q7_3 : wS3.cell? ⟨wN.heap.size, 3, none⟩ = some (.int .i64 x.g) := RN.out.cell 3; have q7_4 : wS3.cell? ⟨wN.heap.size, 4, none⟩ = some (.slice A1 n1 c1) := RN.out.cell 4; have q7_5 : wS3.cell? ⟨wN.heap.size, 5, none⟩ = some (.slice C1 m1 d1) := RN.out.cell 5; have q7_6 : wS3.cell? ⟨wN.heap.size, 6, none⟩ = some (.int .i64 x.att.h) := RN.out.cell 6; have q7_7 : wS3.cell? ⟨wN.heap.size, 7, none⟩ = some (.int .i64 x.att.o) := RN.out.cell 7; have q7_8 : wS3.cell? ⟨wN.heap.size, 8, none⟩ = some (.string ⟨x.att.r.toArray⟩) := RN.out.cell 8; have q7_9 : wS3.cell? ⟨wN.heap.size, 9, none⟩ = some (.int .i64 x.att.l) := RN.out.cell 9; have q7_10 : wS3.cell? ⟨wN.heap.size, 10, none⟩ = some (.int .i64 x.att.i) := RN.out.cell 10; have q7_11 : wS3.cell? ⟨wN.heap.size, 11, none⟩ = some (.int .i64 x.att.g) := RN.out.cell 11; have q7_12 : wS3.cell? ⟨wN.heap.size, 12, none⟩ = some (.int .i64 x.att.s) := RN.out.cell 12; clear hzb hr3; clear hg3 hs3) | (go_at_call 31; refine (VOpq_b HOP.out hatt.1 hatt.2 wS3).mono ?_; rintro e5 wO ⟨rfl, hbel⟩; clear q3_4 q7_0 q7_1 q7_2 q7_3 q7_4 q7_5 q7_6 q7_7 q7_8 q7_9 q7_10 q7_11 q7_12; replace HB := hide (HB.out.trans (hbel.mono HB.out.size)); replace R3 := hide (R3.out.on hbel); replace HU := hide (HU.out.under hbel (by omega)); replace HL := hide (HL.out.under hbel (by omega)); replace HV := hide (HV.out.under hbel (by omega)); replace RN := hide (RN.out.on hbel); have hsz6 := hbel.size; have q3_4 : wO.cell? ⟨w.heap.size, 4, none⟩ = some (.slice AU nU cU) := R3.out.cell 4; have q7_0 : wO.cell? ⟨wN.heap.size, 0, none⟩ = some (.int .i64 x.k) := RN.out.cell 0; have q7_1 : wO.cell? ⟨wN.heap.size, 1, none⟩ = some (.int .i64 x.p) := RN.out.cell 1; have q7_2 : wO.cell? ⟨wN.heap.size, 2, none⟩ = some (.int .i64 x.n) := RN.out.cell 2; have q7_3 : wO.cell? ⟨wN.heap.size, 3, none⟩ = some (.int .i64 x.g) := RN.out.cell 3; have q7_4 : wO.cell? ⟨wN.heap.size, 4, none⟩ = some (.slice A1 n1 c1) := RN.out.cell 4; have q7_5 : wO.cell? ⟨wN.heap.size, 5, none⟩ = some (.slice C1 m1 d1) := RN.out.cell 5; have q7_6 : wO.cell? ⟨wN.heap.size, 6, none⟩ = some (.int .i64 x.att.h) := RN.out.cell 6; have q7_7 : wO.cell? ⟨wN.heap.size, 7, none⟩ = some (.int .i64 x.att.o) := RN.out.cell 7; have q7_8 : wO.cell? ⟨wN.heap.size, 8, none⟩ = some (.string ⟨x.att.r.toArray⟩) := RN.out.cell 8; have q7_9 : wO.cell? ⟨wN.heap.size, 9, none⟩ = some (.int .i64 x.att.l) := RN.out.cell 9; have q7_10 : wO.cell? ⟨wN.heap.size, 10, none⟩ = some (.int .i64 x.att.i) := RN.out.cell 10; have q7_11 : wO.cell? ⟨wN.heap.size, 11, none⟩ = some (.int .i64 x.att.g) := RN.out.cell 11; have q7_12 : wO.cell? ⟨wN.heap.size, 12, none⟩ = some (.int .i64 x.att.s) := RN.out.cell 12; clear hbel) | (refine wpList_loadW rfl 71 (.tmp 7) rfl 13 nod_agg nod_size (wN.heap.size) 71 rfl (nodC x (.slice A1 n1 c1) (.slice C1 m1 d1)) RN.out rfl ?_) | (go_at_call 100; refine (NHas_b HHR.out wO).mono ?_; rintro e7 wH ⟨rfl, hbel⟩; clear q3_4 q7_0 q7_1 q7_2 q7_3 q7_4 q7_5 q7_6 q7_7 q7_8 q7_9 q7_10 q7_11 q7_12; replace HB := hide (HB.out.trans (hbel.mono HB.out.size)); replace R3 := hide (R3.out.on hbel); replace HU := hide (HU.out.under hbel (by omega)); replace HL := hide (HL.out.under hbel (by omega)); replace HV := hide (HV.out.under hbel (by omega)); replace RN := hide (RN.out.on hbel); have hsz8 := hbel.size; have q3_4 : wH.cell? ⟨w.heap.size, 4, none⟩ = some (.slice AU nU cU) := R3.out.cell 4; have q7_0 : wH.cell? ⟨wN.heap.size, 0, none⟩ = some (.int .i64 x.k) := RN.out.cell 0; have q7_1 : wH.cell? ⟨wN.heap.size, 1, none⟩ = some (.int .i64 x.p) := RN.out.cell 1; have q7_2 : wH.cell? ⟨wN.heap.size, 2, none⟩ = some (.int .i64 x.n) := RN.out.cell 2; have q7_3 : wH.cell? ⟨wN.heap.size, 3, none⟩ = some (.int .i64 x.g) := RN.out.cell 3; have q7_4 : wH.cell? ⟨wN.heap.size, 4, none⟩ = some (.slice A1 n1 c1) := RN.out.cell 4; have q7_5 : wH.cell? ⟨wN.heap.size, 5, none⟩ = some (.slice C1 m1 d1) := RN.out.cell 5; have q7_6 : wH.cell? ⟨wN.heap.size, 6, none⟩ = some (.int .i64 x.att.h) := RN.out.cell 6; have q7_7 : wH.cell? ⟨wN.heap.size, 7, none⟩ = some (.int .i64 x.att.o) := RN.out.cell 7; have q7_8 : wH.cell? ⟨wN.heap.size, 8, none⟩ = some (.string ⟨x.att.r.toArray⟩) := RN.out.cell 8; have q7_9 : wH.cell? ⟨wN.heap.size, 9, none⟩ = some (.int .i64 x.att.l) := RN.out.cell 9; have q7_10 : wH.cell? ⟨wN.heap.size, 10, none⟩ = some (.int .i64 x.att.i) := RN.out.cell 10; have q7_11 : wH.cell? ⟨wN.heap.size, 11, none⟩ = some (.int .i64 x.att.g) := RN.out.cell 11; have q7_12 : wH.cell? ⟨wN.heap.size, 12, none⟩ = some (.int .i64 x.att.s) := RN.out.cell 12; clear hbel) | (refine wpList_loadW rfl 95 (.tmp 3) rfl 8 vwd_agg vwd_size (w.heap.size) 95 rfl (vwdC g (.slice AU nU cU) (.slice AL nL cL) u (.slice AV nV cV)) R3.out rfl ?_) | (go_at_call 101; refine (VBen_e HP.out wH HU.out HL.out (by omega) HF.out HFU.out HV.out (by omega) hnV).mono ?_; rintro e9 wB ⟨A3, c3, rfl, h3, hbel⟩; clear q3_4 q7_0 q7_1 q7_2 q7_3 q7_4 q7_5 q7_6 q7_7 q7_8 q7_9 q7_10 q7_11 q7_12; replace HB := hide (HB.out.trans (hbel.mono HB.out.size)); replace R3 := hide (R3.out.on hbel); replace HU := hide (HU.out.under hbel (by omega)); replace HL := hide (HL.out.under hbel (by omega)); replace HV := hide (HV.out.under hbel (by omega)); replace RN := hide (RN.out.on hbel); have hsz10 := hbel.size; have q3_4 : wB.cell? ⟨w.heap.size, 4, none⟩ = some (.slice AU nU cU) := R3.out.cell 4; have q7_0 : wB.cell? ⟨wN.heap.size, 0, none⟩ = some (.int .i64 x.k) := RN.out.cell 0; have q7_1 : wB.cell? ⟨wN.heap.size, 1, none⟩ = some (.int .i64 x.p) := RN.out.cell 1; have q7_2 : wB.cell? ⟨wN.heap.size, 2, none⟩ = some (.int .i64 x.n) := RN.out.cell 2; have q7_3 : wB.cell? ⟨wN.heap.size, 3, none⟩ = some (.int .i64 x.g) := RN.out.cell 3; have q7_4 : wB.cell? ⟨wN.heap.size, 4, none⟩ = some (.slice A1 n1 c1) := RN.out.cell 4; have q7_5 : wB.cell? ⟨wN.heap.size, 5, none⟩ = some (.slice C1 m1 d1) := RN.out.cell 5; have q7_6 : wB.cell? ⟨wN.heap.size, 6, none⟩ = some (.int .i64 x.att.h) := RN.out.cell 6; have q7_7 : wB.cell? ⟨wN.heap.size, 7, none⟩ = some (.int .i64 x.att.o) := RN.out.cell 7; have q7_8 : wB.cell? ⟨wN.heap.size, 8, none⟩ = some (.string ⟨x.att.r.toArray⟩) := RN.out.cell 8; have q7_9 : wB.cell? ⟨wN.heap.size, 9, none⟩ = some (.int .i64 x.att.l) := RN.out.cell 9; have q7_10 : wB.cell? ⟨wN.heap.size, 10, none⟩ = some (.int .i64 x.att.i) := RN.out.cell 10; have q7_11 : wB.cell? ⟨wN.heap.size, 11, none⟩ = some (.int .i64 x.att.g) := RN.out.cell 11; have q7_12 : wB.cell? ⟨wN.heap.size, 12, none⟩ = some (.int .i64 x.att.s) := RN.out.cell 12; have H3 := hide h3; clear h3; clear hbel))
    go_ret
    exact ⟨A3, c3, rfl, fr_low H3.out (by omega), HB.out⟩
  · have HHR := hide ((bit_two hatt.1 hatt.2).trans hr)
    rw [if_pos rfl]
    unfold redV
    obtain ⟨rl, hrl2⟩ : ∃ rl, redL x.att.r = rl := ⟨_, rfl⟩
    have hrl25 : rl.length ≤ 25 := by rw [← hrl2]; exact redL_len _
    have HRL := hide hrl2
    clear hr
    cases hb : redB x.att.r
    · have HRB := hide hb
      obtain ⟨ra, hra⟩ : ∃ ra, redA x.att.r = ra := ⟨_, rfl⟩
      have HRA := hide hra
      rw [if_neg (by simp)]
      clear hb hra hrl2
      go_enter Tryz.func58, Tryz.ntmps58
      go_wp2_with (first | (go_at_call 55; refine (Of_e HX.out W1 HU.out (by omega) (by have := HFU.out.1; omega)).mono ?_; rintro e1 wN ⟨A1, n1, c1, C1, m1, d1, rfl, -, -, -, -, hbel⟩; clear q3_4; replace HB := hide (HB.out.trans (hbel.mono HB.out.size)); replace R3 := hide (R3.out.on hbel); replace HU := hide (HU.out.under hbel (by omega)); replace HL := hide (HL.out.under hbel (by omega)); replace HV := hide (HV.out.under hbel (by omega)); have hsz2 := hbel.size; have q3_4 : wN.cell? ⟨w.heap.size, 4, none⟩ = some (.slice AU nU cU) := R3.out.cell 4; clear hbel) | (refine wpList_storeW rfl 71 (.tmp 7) (.tmp 17) rfl 13 nod_size (wN.heap.size) 71 rfl (nodC nod0 (.slice none 0 0) (.slice none 0 0)) (nodC x (.slice A1 n1 c1) (.slice C1 m1 d1)) rfl (RowL.new wN 71 (nodC nod0 (.slice none 0 0) (.slice none 0 0))) rfl rfl (nodC_one _ _ _ _ _ _ _) ?_; intro wS3 hr3 hg3 hs3; have hzb := below_stored' hg3; clear q3_4; replace HB := hide (HB.out.trans (hzb.mono HB.out.size)); replace R3 := hide (R3.out.on hzb); replace HU := hide (HU.out.under hzb (by omega)); replace HL := hide (HL.out.under hzb (by omega)); replace HV := hide (HV.out.under hzb (by omega)); have hsz4 := hzb.size; have q3_4 : wS3.cell? ⟨w.heap.size, 4, none⟩ = some (.slice AU nU cU) := R3.out.cell 4; have RN := hide hr3; have hlt3 := hr3.lt; have q7_0 : wS3.cell? ⟨wN.heap.size, 0, none⟩ = some (.int .i64 x.k) := RN.out.cell 0; have q7_1 : wS3.cell? ⟨wN.heap.size, 1, none⟩ = some (.int .i64 x.p) := RN.out.cell 1; have q7_2 : wS3.cell? ⟨wN.heap.size, 2, none⟩ = some (.int .i64 x.n) := RN.out.cell 2; have q7_3 : wS3.cell? ⟨wN.heap.size, 3, none⟩ = some (.int .i64 x.g) := RN.out.cell 3; have q7_4 : wS3.cell? ⟨wN.heap.size, 4, none⟩ = some (.slice A1 n1 c1) := RN.out.cell 4; have q7_5 : wS3.cell? ⟨wN.heap.size, 5, none⟩ = some (.slice C1 m1 d1) := RN.out.cell 5; have q7_6 : wS3.cell? ⟨wN.heap.size, 6, none⟩ = some (.int .i64 x.att.h) := RN.out.cell 6; have q7_7 : wS3.cell? ⟨wN.heap.size, 7, none⟩ = some (.int .i64 x.att.o) := RN.out.cell 7; have q7_8 : wS3.cell? ⟨wN.heap.size, 8, none⟩ = some (.string ⟨x.att.r.toArray⟩) := RN.out.cell 8; have q7_9 : wS3.cell? ⟨wN.heap.size, 9, none⟩ = some (.int .i64 x.att.l) := RN.out.cell 9; have q7_10 : wS3.cell? ⟨wN.heap.size, 10, none⟩ = some (.int .i64 x.att.i) := RN.out.cell 10; have q7_11 : wS3.cell? ⟨wN.heap.size, 11, none⟩ = some (.int .i64 x.att.g) := RN.out.cell 11; have q7_12 : wS3.cell? ⟨wN.heap.size, 12, none⟩ = some (.int .i64 x.att.s) := RN.out.cell 12; clear hzb hr3; clear hg3 hs3) | (go_at_call 31; refine (VOpq_b HOP.out hatt.1 hatt.2 wS3).mono ?_; rintro e5 wO ⟨rfl, hbel⟩; clear q3_4 q7_0 q7_1 q7_2 q7_3 q7_4 q7_5 q7_6 q7_7 q7_8 q7_9 q7_10 q7_11 q7_12; replace HB := hide (HB.out.trans (hbel.mono HB.out.size)); replace R3 := hide (R3.out.on hbel); replace HU := hide (HU.out.under hbel (by omega)); replace HL := hide (HL.out.under hbel (by omega)); replace HV := hide (HV.out.under hbel (by omega)); replace RN := hide (RN.out.on hbel); have hsz6 := hbel.size; have q3_4 : wO.cell? ⟨w.heap.size, 4, none⟩ = some (.slice AU nU cU) := R3.out.cell 4; have q7_0 : wO.cell? ⟨wN.heap.size, 0, none⟩ = some (.int .i64 x.k) := RN.out.cell 0; have q7_1 : wO.cell? ⟨wN.heap.size, 1, none⟩ = some (.int .i64 x.p) := RN.out.cell 1; have q7_2 : wO.cell? ⟨wN.heap.size, 2, none⟩ = some (.int .i64 x.n) := RN.out.cell 2; have q7_3 : wO.cell? ⟨wN.heap.size, 3, none⟩ = some (.int .i64 x.g) := RN.out.cell 3; have q7_4 : wO.cell? ⟨wN.heap.size, 4, none⟩ = some (.slice A1 n1 c1) := RN.out.cell 4; have q7_5 : wO.cell? ⟨wN.heap.size, 5, none⟩ = some (.slice C1 m1 d1) := RN.out.cell 5; have q7_6 : wO.cell? ⟨wN.heap.size, 6, none⟩ = some (.int .i64 x.att.h) := RN.out.cell 6; have q7_7 : wO.cell? ⟨wN.heap.size, 7, none⟩ = some (.int .i64 x.att.o) := RN.out.cell 7; have q7_8 : wO.cell? ⟨wN.heap.size, 8, none⟩ = some (.string ⟨x.att.r.toArray⟩) := RN.out.cell 8; have q7_9 : wO.cell? ⟨wN.heap.size, 9, none⟩ = some (.int .i64 x.att.l) := RN.out.cell 9; have q7_10 : wO.cell? ⟨wN.heap.size, 10, none⟩ = some (.int .i64 x.att.i) := RN.out.cell 10; have q7_11 : wO.cell? ⟨wN.heap.size, 11, none⟩ = some (.int .i64 x.att.g) := RN.out.cell 11; have q7_12 : wO.cell? ⟨wN.heap.size, 12, none⟩ = some (.int .i64 x.att.s) := RN.out.cell 12; clear hbel) | (refine wpList_loadW rfl 71 (.tmp 7) rfl 13 nod_agg nod_size (wN.heap.size) 71 rfl (nodC x (.slice A1 n1 c1) (.slice C1 m1 d1)) RN.out rfl ?_) | (go_at_call 100; refine (NHas_b HHR.out wO).mono ?_; rintro e7 wH ⟨rfl, hbel⟩; clear q3_4 q7_0 q7_1 q7_2 q7_3 q7_4 q7_5 q7_6 q7_7 q7_8 q7_9 q7_10 q7_11 q7_12; replace HB := hide (HB.out.trans (hbel.mono HB.out.size)); replace R3 := hide (R3.out.on hbel); replace HU := hide (HU.out.under hbel (by omega)); replace HL := hide (HL.out.under hbel (by omega)); replace HV := hide (HV.out.under hbel (by omega)); replace RN := hide (RN.out.on hbel); have hsz8 := hbel.size; have q3_4 : wH.cell? ⟨w.heap.size, 4, none⟩ = some (.slice AU nU cU) := R3.out.cell 4; have q7_0 : wH.cell? ⟨wN.heap.size, 0, none⟩ = some (.int .i64 x.k) := RN.out.cell 0; have q7_1 : wH.cell? ⟨wN.heap.size, 1, none⟩ = some (.int .i64 x.p) := RN.out.cell 1; have q7_2 : wH.cell? ⟨wN.heap.size, 2, none⟩ = some (.int .i64 x.n) := RN.out.cell 2; have q7_3 : wH.cell? ⟨wN.heap.size, 3, none⟩ = some (.int .i64 x.g) := RN.out.cell 3; have q7_4 : wH.cell? ⟨wN.heap.size, 4, none⟩ = some (.slice A1 n1 c1) := RN.out.cell 4; have q7_5 : wH.cell? ⟨wN.heap.size, 5, none⟩ = some (.slice C1 m1 d1) := RN.out.cell 5; have q7_6 : wH.cell? ⟨wN.heap.size, 6, none⟩ = some (.int .i64 x.att.h) := RN.out.cell 6; have q7_7 : wH.cell? ⟨wN.heap.size, 7, none⟩ = some (.int .i64 x.att.o) := RN.out.cell 7; have q7_8 : wH.cell? ⟨wN.heap.size, 8, none⟩ = some (.string ⟨x.att.r.toArray⟩) := RN.out.cell 8; have q7_9 : wH.cell? ⟨wN.heap.size, 9, none⟩ = some (.int .i64 x.att.l) := RN.out.cell 9; have q7_10 : wH.cell? ⟨wN.heap.size, 10, none⟩ = some (.int .i64 x.att.i) := RN.out.cell 10; have q7_11 : wH.cell? ⟨wN.heap.size, 11, none⟩ = some (.int .i64 x.att.g) := RN.out.cell 11; have q7_12 : wH.cell? ⟨wN.heap.size, 12, none⟩ = some (.int .i64 x.att.s) := RN.out.cell 12; clear hbel) | (go_at_call 102; refine (PRed_e HRL.out HRA.out HRB.out wH (by omega)).mono ?_; rintro e9 wP ⟨A6, n6, c6, rfl, h6, hbel⟩; replace h6 := h6.rd; clear q3_4 q7_0 q7_1 q7_2 q7_3 q7_4 q7_5 q7_6 q7_7 q7_8 q7_9 q7_10 q7_11 q7_12; replace HB := hide (HB.out.trans (hbel.mono HB.out.size)); replace R3 := hide (R3.out.on hbel); replace HU := hide (HU.out.under hbel (by omega)); replace HL := hide (HL.out.under hbel (by omega)); replace HV := hide (HV.out.under hbel (by omega)); replace RN := hide (RN.out.on hbel); have hsz10 := hbel.size; have q3_4 : wP.cell? ⟨w.heap.size, 4, none⟩ = some (.slice AU nU cU) := R3.out.cell 4; have q7_0 : wP.cell? ⟨wN.heap.size, 0, none⟩ = some (.int .i64 x.k) := RN.out.cell 0; have q7_1 : wP.cell? ⟨wN.heap.size, 1, none⟩ = some (.int .i64 x.p) := RN.out.cell 1; have q7_2 : wP.cell? ⟨wN.heap.size, 2, none⟩ = some (.int .i64 x.n) := RN.out.cell 2; have q7_3 : wP.cell? ⟨wN.heap.size, 3, none⟩ = some (.int .i64 x.g) := RN.out.cell 3; have q7_4 : wP.cell? ⟨wN.heap.size, 4, none⟩ = some (.slice A1 n1 c1) := RN.out.cell 4; have q7_5 : wP.cell? ⟨wN.heap.size, 5, none⟩ = some (.slice C1 m1 d1) := RN.out.cell 5; have q7_6 : wP.cell? ⟨wN.heap.size, 6, none⟩ = some (.int .i64 x.att.h) := RN.out.cell 6; have q7_7 : wP.cell? ⟨wN.heap.size, 7, none⟩ = some (.int .i64 x.att.o) := RN.out.cell 7; have q7_8 : wP.cell? ⟨wN.heap.size, 8, none⟩ = some (.string ⟨x.att.r.toArray⟩) := RN.out.cell 8; have q7_9 : wP.cell? ⟨wN.heap.size, 9, none⟩ = some (.int .i64 x.att.l) := RN.out.cell 9; have q7_10 : wP.cell? ⟨wN.heap.size, 10, none⟩ = some (.int .i64 x.att.i) := RN.out.cell 10; have q7_11 : wP.cell? ⟨wN.heap.size, 11, none⟩ = some (.int .i64 x.att.g) := RN.out.cell 11; have q7_12 : wP.cell? ⟨wN.heap.size, 12, none⟩ = some (.int .i64 x.att.s) := RN.out.cell 12; have HN := hide h6; clear h6; clear hbel))
      go_ret
      exact ⟨none, 0, rfl, RdE.none_ _ _ _ _, HB.out⟩
    · have HRB := hide hb
      rw [if_pos rfl]
      cases ha : redA x.att.r
      · have HRA := hide ha
        rw [if_neg (by simp), hrl2]
        have hone := (red_one hb ha).symm.trans hrl2
        subst hone
        obtain ⟨P, hP⟩ : ∃ P, benV ls vl ([x.att.r].headD []) = P := ⟨_, rfl⟩
        rw [hP]
        have HP := hide (show benV ls vl x.att.r = P from hP)
        clear hb ha hrl2 hP
        go_enter Tryz.func58, Tryz.ntmps58
        go_wp2_with (first | (go_at_call 55; refine (Of_e HX.out W1 HU.out (by omega) (by have := HFU.out.1; omega)).mono ?_; rintro e1 wN ⟨A1, n1, c1, C1, m1, d1, rfl, -, -, -, -, hbel⟩; clear q3_4; replace HB := hide (HB.out.trans (hbel.mono HB.out.size)); replace R3 := hide (R3.out.on hbel); replace HU := hide (HU.out.under hbel (by omega)); replace HL := hide (HL.out.under hbel (by omega)); replace HV := hide (HV.out.under hbel (by omega)); have hsz2 := hbel.size; have q3_4 : wN.cell? ⟨w.heap.size, 4, none⟩ = some (.slice AU nU cU) := R3.out.cell 4; clear hbel) | (refine wpList_storeW rfl 71 (.tmp 7) (.tmp 17) rfl 13 nod_size (wN.heap.size) 71 rfl (nodC nod0 (.slice none 0 0) (.slice none 0 0)) (nodC x (.slice A1 n1 c1) (.slice C1 m1 d1)) rfl (RowL.new wN 71 (nodC nod0 (.slice none 0 0) (.slice none 0 0))) rfl rfl (nodC_one _ _ _ _ _ _ _) ?_; intro wS3 hr3 hg3 hs3; have hzb := below_stored' hg3; clear q3_4; replace HB := hide (HB.out.trans (hzb.mono HB.out.size)); replace R3 := hide (R3.out.on hzb); replace HU := hide (HU.out.under hzb (by omega)); replace HL := hide (HL.out.under hzb (by omega)); replace HV := hide (HV.out.under hzb (by omega)); have hsz4 := hzb.size; have q3_4 : wS3.cell? ⟨w.heap.size, 4, none⟩ = some (.slice AU nU cU) := R3.out.cell 4; have RN := hide hr3; have hlt3 := hr3.lt; have q7_0 : wS3.cell? ⟨wN.heap.size, 0, none⟩ = some (.int .i64 x.k) := RN.out.cell 0; have q7_1 : wS3.cell? ⟨wN.heap.size, 1, none⟩ = some (.int .i64 x.p) := RN.out.cell 1; have q7_2 : wS3.cell? ⟨wN.heap.size, 2, none⟩ = some (.int .i64 x.n) := RN.out.cell 2; have q7_3 : wS3.cell? ⟨wN.heap.size, 3, none⟩ = some (.int .i64 x.g) := RN.out.cell 3; have q7_4 : wS3.cell? ⟨wN.heap.size, 4, none⟩ = some (.slice A1 n1 c1) := RN.out.cell 4; have q7_5 : wS3.cell? ⟨wN.heap.size, 5, none⟩ = some (.slice C1 m1 d1) := RN.out.cell 5; have q7_6 : wS3.cell? ⟨wN.heap.size, 6, none⟩ = some (.int .i64 x.att.h) := RN.out.cell 6; have q7_7 : wS3.cell? ⟨wN.heap.size, 7, none⟩ = some (.int .i64 x.att.o) := RN.out.cell 7; have q7_8 : wS3.cell? ⟨wN.heap.size, 8, none⟩ = some (.string ⟨x.att.r.toArray⟩) := RN.out.cell 8; have q7_9 : wS3.cell? ⟨wN.heap.size, 9, none⟩ = some (.int .i64 x.att.l) := RN.out.cell 9; have q7_10 : wS3.cell? ⟨wN.heap.size, 10, none⟩ = some (.int .i64 x.att.i) := RN.out.cell 10; have q7_11 : wS3.cell? ⟨wN.heap.size, 11, none⟩ = some (.int .i64 x.att.g) := RN.out.cell 11; have q7_12 : wS3.cell? ⟨wN.heap.size, 12, none⟩ = some (.int .i64 x.att.s) := RN.out.cell 12; clear hzb hr3; clear hg3 hs3) | (go_at_call 31; refine (VOpq_b HOP.out hatt.1 hatt.2 wS3).mono ?_; rintro e5 wO ⟨rfl, hbel⟩; clear q3_4 q7_0 q7_1 q7_2 q7_3 q7_4 q7_5 q7_6 q7_7 q7_8 q7_9 q7_10 q7_11 q7_12; replace HB := hide (HB.out.trans (hbel.mono HB.out.size)); replace R3 := hide (R3.out.on hbel); replace HU := hide (HU.out.under hbel (by omega)); replace HL := hide (HL.out.under hbel (by omega)); replace HV := hide (HV.out.under hbel (by omega)); replace RN := hide (RN.out.on hbel); have hsz6 := hbel.size; have q3_4 : wO.cell? ⟨w.heap.size, 4, none⟩ = some (.slice AU nU cU) := R3.out.cell 4; have q7_0 : wO.cell? ⟨wN.heap.size, 0, none⟩ = some (.int .i64 x.k) := RN.out.cell 0; have q7_1 : wO.cell? ⟨wN.heap.size, 1, none⟩ = some (.int .i64 x.p) := RN.out.cell 1; have q7_2 : wO.cell? ⟨wN.heap.size, 2, none⟩ = some (.int .i64 x.n) := RN.out.cell 2; have q7_3 : wO.cell? ⟨wN.heap.size, 3, none⟩ = some (.int .i64 x.g) := RN.out.cell 3; have q7_4 : wO.cell? ⟨wN.heap.size, 4, none⟩ = some (.slice A1 n1 c1) := RN.out.cell 4; have q7_5 : wO.cell? ⟨wN.heap.size, 5, none⟩ = some (.slice C1 m1 d1) := RN.out.cell 5; have q7_6 : wO.cell? ⟨wN.heap.size, 6, none⟩ = some (.int .i64 x.att.h) := RN.out.cell 6; have q7_7 : wO.cell? ⟨wN.heap.size, 7, none⟩ = some (.int .i64 x.att.o) := RN.out.cell 7; have q7_8 : wO.cell? ⟨wN.heap.size, 8, none⟩ = some (.string ⟨x.att.r.toArray⟩) := RN.out.cell 8; have q7_9 : wO.cell? ⟨wN.heap.size, 9, none⟩ = some (.int .i64 x.att.l) := RN.out.cell 9; have q7_10 : wO.cell? ⟨wN.heap.size, 10, none⟩ = some (.int .i64 x.att.i) := RN.out.cell 10; have q7_11 : wO.cell? ⟨wN.heap.size, 11, none⟩ = some (.int .i64 x.att.g) := RN.out.cell 11; have q7_12 : wO.cell? ⟨wN.heap.size, 12, none⟩ = some (.int .i64 x.att.s) := RN.out.cell 12; clear hbel) | (refine wpList_loadW rfl 71 (.tmp 7) rfl 13 nod_agg nod_size (wN.heap.size) 71 rfl (nodC x (.slice A1 n1 c1) (.slice C1 m1 d1)) RN.out rfl ?_) | (go_at_call 100; refine (NHas_b HHR.out wO).mono ?_; rintro e7 wH ⟨rfl, hbel⟩; clear q3_4 q7_0 q7_1 q7_2 q7_3 q7_4 q7_5 q7_6 q7_7 q7_8 q7_9 q7_10 q7_11 q7_12; replace HB := hide (HB.out.trans (hbel.mono HB.out.size)); replace R3 := hide (R3.out.on hbel); replace HU := hide (HU.out.under hbel (by omega)); replace HL := hide (HL.out.under hbel (by omega)); replace HV := hide (HV.out.under hbel (by omega)); replace RN := hide (RN.out.on hbel); have hsz8 := hbel.size; have q3_4 : wH.cell? ⟨w.heap.size, 4, none⟩ = some (.slice AU nU cU) := R3.out.cell 4; have q7_0 : wH.cell? ⟨wN.heap.size, 0, none⟩ = some (.int .i64 x.k) := RN.out.cell 0; have q7_1 : wH.cell? ⟨wN.heap.size, 1, none⟩ = some (.int .i64 x.p) := RN.out.cell 1; have q7_2 : wH.cell? ⟨wN.heap.size, 2, none⟩ = some (.int .i64 x.n) := RN.out.cell 2; have q7_3 : wH.cell? ⟨wN.heap.size, 3, none⟩ = some (.int .i64 x.g) := RN.out.cell 3; have q7_4 : wH.cell? ⟨wN.heap.size, 4, none⟩ = some (.slice A1 n1 c1) := RN.out.cell 4; have q7_5 : wH.cell? ⟨wN.heap.size, 5, none⟩ = some (.slice C1 m1 d1) := RN.out.cell 5; have q7_6 : wH.cell? ⟨wN.heap.size, 6, none⟩ = some (.int .i64 x.att.h) := RN.out.cell 6; have q7_7 : wH.cell? ⟨wN.heap.size, 7, none⟩ = some (.int .i64 x.att.o) := RN.out.cell 7; have q7_8 : wH.cell? ⟨wN.heap.size, 8, none⟩ = some (.string ⟨x.att.r.toArray⟩) := RN.out.cell 8; have q7_9 : wH.cell? ⟨wN.heap.size, 9, none⟩ = some (.int .i64 x.att.l) := RN.out.cell 9; have q7_10 : wH.cell? ⟨wN.heap.size, 10, none⟩ = some (.int .i64 x.att.i) := RN.out.cell 10; have q7_11 : wH.cell? ⟨wN.heap.size, 11, none⟩ = some (.int .i64 x.att.g) := RN.out.cell 11; have q7_12 : wH.cell? ⟨wN.heap.size, 12, none⟩ = some (.int .i64 x.att.s) := RN.out.cell 12; clear hbel) | (go_at_call 102; refine (PRed_e HRL.out HRA.out HRB.out wH (by omega)).mono ?_; rintro e9 wP ⟨A6, n6, c6, rfl, h6, hbel⟩; replace h6 := h6.rd; clear q3_4 q7_0 q7_1 q7_2 q7_3 q7_4 q7_5 q7_6 q7_7 q7_8 q7_9 q7_10 q7_11 q7_12; replace HB := hide (HB.out.trans (hbel.mono HB.out.size)); replace R3 := hide (R3.out.on hbel); replace HU := hide (HU.out.under hbel (by omega)); replace HL := hide (HL.out.under hbel (by omega)); replace HV := hide (HV.out.under hbel (by omega)); replace RN := hide (RN.out.on hbel); have hsz10 := hbel.size; have q3_4 : wP.cell? ⟨w.heap.size, 4, none⟩ = some (.slice AU nU cU) := R3.out.cell 4; have q7_0 : wP.cell? ⟨wN.heap.size, 0, none⟩ = some (.int .i64 x.k) := RN.out.cell 0; have q7_1 : wP.cell? ⟨wN.heap.size, 1, none⟩ = some (.int .i64 x.p) := RN.out.cell 1; have q7_2 : wP.cell? ⟨wN.heap.size, 2, none⟩ = some (.int .i64 x.n) := RN.out.cell 2; have q7_3 : wP.cell? ⟨wN.heap.size, 3, none⟩ = some (.int .i64 x.g) := RN.out.cell 3; have q7_4 : wP.cell? ⟨wN.heap.size, 4, none⟩ = some (.slice A1 n1 c1) := RN.out.cell 4; have q7_5 : wP.cell? ⟨wN.heap.size, 5, none⟩ = some (.slice C1 m1 d1) := RN.out.cell 5; have q7_6 : wP.cell? ⟨wN.heap.size, 6, none⟩ = some (.int .i64 x.att.h) := RN.out.cell 6; have q7_7 : wP.cell? ⟨wN.heap.size, 7, none⟩ = some (.int .i64 x.att.o) := RN.out.cell 7; have q7_8 : wP.cell? ⟨wN.heap.size, 8, none⟩ = some (.string ⟨x.att.r.toArray⟩) := RN.out.cell 8; have q7_9 : wP.cell? ⟨wN.heap.size, 9, none⟩ = some (.int .i64 x.att.l) := RN.out.cell 9; have q7_10 : wP.cell? ⟨wN.heap.size, 10, none⟩ = some (.int .i64 x.att.i) := RN.out.cell 10; have q7_11 : wP.cell? ⟨wN.heap.size, 11, none⟩ = some (.int .i64 x.att.g) := RN.out.cell 11; have q7_12 : wP.cell? ⟨wN.heap.size, 12, none⟩ = some (.int .i64 x.att.s) := RN.out.cell 12; have HN := hide h6; clear h6; clear hbel))
        obtain ⟨bS, oS, rfl, hbS, hcS⟩ := HN.out.2 (by have := HN.out.len; simp at this; omega)
        have hqS := hcS 0 _ rfl
        have hn6 : 0 < n6 := by have := HN.out.len; simp at this; omega
        have HQ0 := hide (fun W (hb : Below wP.heap.size wP W) => show W.cell? ⟨bS, oS, none⟩ = some (.string ⟨x.att.r.toArray⟩) from (hb.cell (p := ⟨bS, oS, none⟩) hbS).trans hqS)
        clear hcS hqS
        refine wp_region_planN (fun w' => Below wP.heap.size wP w') [(0, true), (1, true), (2, true), (3, true), (4, false), (5, true)] (by kernel_rfl) (by kernel_rfl) (by kernel_rfl) (by kernel_rfl) rfl (fun _ _ _ _ _ h => h) (below_drew (below_self wP)) (fun hHeld => ?_)
        simp only [planOps, List.filterMap_cons, List.filterMap_nil, List.getElem?_toArray, List.getElem?_cons_succ, List.getElem?_cons_zero, Option.map_some]
        refine wpPlan_take (v := ?_) (by kernel_rfl) (fun wS hSw => ?_) ?_
        rotate_left
        · refine execOp_load (x := .tmp 3) (k := 8) (g := w.heap.size) (off := 0) (cs := (vwdC g (.slice AU nU cU) (.slice AL nL cL) u (.slice AV nV cV))) ?_ vwd_agg vwd_size ?_ (fun j v hv => by rw [Nat.zero_add]; exact ((R3.out.on hSw).cell j).trans hv) rfl <;> rfl
        (try simp only [Act.put, List.setIfInBounds_toArray, List.set_cons_zero, List.set_cons_succ])
        refine wpPlan_take (v := ?_) (by kernel_rfl) (fun wS hSw => ?_) ?_
        rotate_left
        · (try dsimp only at hSw); go_simp; (try with_reducible rfl)
        (try simp only [Act.put, List.setIfInBounds_toArray, List.set_cons_zero, List.set_cons_succ])
        refine wpPlan_take (v := ?_) (by kernel_rfl) (fun wS hSw => ?_) ?_
        rotate_left
        · (try dsimp only at hSw); go_simp; (try with_reducible rfl)
        (try simp only [Act.put, List.setIfInBounds_toArray, List.set_cons_zero, List.set_cons_succ])
        refine wpPlan_take (v := ?_) (by kernel_rfl) (fun wS hSw => ?_) ?_
        rotate_left
        · have qx := HQ0.out wS hSw; go_simp; (try with_reducible rfl)
        (try simp only [Act.put, List.setIfInBounds_toArray, List.set_cons_zero, List.set_cons_succ])
        refine wpPlan_call (by kernel_rfl) (fun K hK => ?_)
        have hOld := hide hHeld
        clear hHeld
        go_simp
        go_at_call 101
        refine (VBen_e HP.out _ (HU.out.under hOld.out (by omega)) (HL.out.under hOld.out (by omega)) (by have := hOld.out.size; omega) HF.out HFU.out (HV.out.under hOld.out (by omega)) (by have := hOld.out.size; omega) hnV).mono ?_
        rintro e w' ⟨A9, c9, rfl, h9, hbel⟩
        have H9 := hide (fr_low h9 (lo' := w.heap.size) (by have := hOld.out.size; omega))
        clear h9
        refine hK.out _ _ (hOld.out.trans (hbel.mono hOld.out.size)) (fun hHeld => ?_)
        clear hK K
        (try simp only [Act.put, List.setIfInBounds_toArray, List.set_cons_zero, List.set_cons_succ])
        refine wpPlan_take (v := ?_) (by kernel_rfl) (fun wS hSw => ?_) ?_
        rotate_left
        · (try dsimp only at hSw); go_simp; (try with_reducible rfl)
        (try simp only [Act.put, List.setIfInBounds_toArray, List.set_cons_zero, List.set_cons_succ])
        refine wpPlan_end ?_
        have HBX := hide (HB.out.trans (hHeld.mono HB.out.size))
        clear hHeld
        go_wp2_with fail
        go_ret
        exact ⟨A9, c9, rfl, H9.out, HBX.out⟩
      · have HRA := hide ha
        rw [if_pos rfl, hrl2]
        clear hb ha hrl2
        go_enter Tryz.func58, Tryz.ntmps58
        go_wp2_with (first | (go_at_call 55; refine (Of_e HX.out W1 HU.out (by omega) (by have := HFU.out.1; omega)).mono ?_; rintro e1 wN ⟨A1, n1, c1, C1, m1, d1, rfl, -, -, -, -, hbel⟩; clear q3_4; replace HB := hide (HB.out.trans (hbel.mono HB.out.size)); replace R3 := hide (R3.out.on hbel); replace HU := hide (HU.out.under hbel (by omega)); replace HL := hide (HL.out.under hbel (by omega)); replace HV := hide (HV.out.under hbel (by omega)); have hsz2 := hbel.size; have q3_4 : wN.cell? ⟨w.heap.size, 4, none⟩ = some (.slice AU nU cU) := R3.out.cell 4; clear hbel) | (refine wpList_storeW rfl 71 (.tmp 7) (.tmp 17) rfl 13 nod_size (wN.heap.size) 71 rfl (nodC nod0 (.slice none 0 0) (.slice none 0 0)) (nodC x (.slice A1 n1 c1) (.slice C1 m1 d1)) rfl (RowL.new wN 71 (nodC nod0 (.slice none 0 0) (.slice none 0 0))) rfl rfl (nodC_one _ _ _ _ _ _ _) ?_; intro wS3 hr3 hg3 hs3; have hzb := below_stored' hg3; clear q3_4; replace HB := hide (HB.out.trans (hzb.mono HB.out.size)); replace R3 := hide (R3.out.on hzb); replace HU := hide (HU.out.under hzb (by omega)); replace HL := hide (HL.out.under hzb (by omega)); replace HV := hide (HV.out.under hzb (by omega)); have hsz4 := hzb.size; have q3_4 : wS3.cell? ⟨w.heap.size, 4, none⟩ = some (.slice AU nU cU) := R3.out.cell 4; have RN := hide hr3; have hlt3 := hr3.lt; have q7_0 : wS3.cell? ⟨wN.heap.size, 0, none⟩ = some (.int .i64 x.k) := RN.out.cell 0; have q7_1 : wS3.cell? ⟨wN.heap.size, 1, none⟩ = some (.int .i64 x.p) := RN.out.cell 1; have q7_2 : wS3.cell? ⟨wN.heap.size, 2, none⟩ = some (.int .i64 x.n) := RN.out.cell 2; have q7_3 : wS3.cell? ⟨wN.heap.size, 3, none⟩ = some (.int .i64 x.g) := RN.out.cell 3; have q7_4 : wS3.cell? ⟨wN.heap.size, 4, none⟩ = some (.slice A1 n1 c1) := RN.out.cell 4; have q7_5 : wS3.cell? ⟨wN.heap.size, 5, none⟩ = some (.slice C1 m1 d1) := RN.out.cell 5; have q7_6 : wS3.cell? ⟨wN.heap.size, 6, none⟩ = some (.int .i64 x.att.h) := RN.out.cell 6; have q7_7 : wS3.cell? ⟨wN.heap.size, 7, none⟩ = some (.int .i64 x.att.o) := RN.out.cell 7; have q7_8 : wS3.cell? ⟨wN.heap.size, 8, none⟩ = some (.string ⟨x.att.r.toArray⟩) := RN.out.cell 8; have q7_9 : wS3.cell? ⟨wN.heap.size, 9, none⟩ = some (.int .i64 x.att.l) := RN.out.cell 9; have q7_10 : wS3.cell? ⟨wN.heap.size, 10, none⟩ = some (.int .i64 x.att.i) := RN.out.cell 10; have q7_11 : wS3.cell? ⟨wN.heap.size, 11, none⟩ = some (.int .i64 x.att.g) := RN.out.cell 11; have q7_12 : wS3.cell? ⟨wN.heap.size, 12, none⟩ = some (.int .i64 x.att.s) := RN.out.cell 12; clear hzb hr3; clear hg3 hs3) | (go_at_call 31; refine (VOpq_b HOP.out hatt.1 hatt.2 wS3).mono ?_; rintro e5 wO ⟨rfl, hbel⟩; clear q3_4 q7_0 q7_1 q7_2 q7_3 q7_4 q7_5 q7_6 q7_7 q7_8 q7_9 q7_10 q7_11 q7_12; replace HB := hide (HB.out.trans (hbel.mono HB.out.size)); replace R3 := hide (R3.out.on hbel); replace HU := hide (HU.out.under hbel (by omega)); replace HL := hide (HL.out.under hbel (by omega)); replace HV := hide (HV.out.under hbel (by omega)); replace RN := hide (RN.out.on hbel); have hsz6 := hbel.size; have q3_4 : wO.cell? ⟨w.heap.size, 4, none⟩ = some (.slice AU nU cU) := R3.out.cell 4; have q7_0 : wO.cell? ⟨wN.heap.size, 0, none⟩ = some (.int .i64 x.k) := RN.out.cell 0; have q7_1 : wO.cell? ⟨wN.heap.size, 1, none⟩ = some (.int .i64 x.p) := RN.out.cell 1; have q7_2 : wO.cell? ⟨wN.heap.size, 2, none⟩ = some (.int .i64 x.n) := RN.out.cell 2; have q7_3 : wO.cell? ⟨wN.heap.size, 3, none⟩ = some (.int .i64 x.g) := RN.out.cell 3; have q7_4 : wO.cell? ⟨wN.heap.size, 4, none⟩ = some (.slice A1 n1 c1) := RN.out.cell 4; have q7_5 : wO.cell? ⟨wN.heap.size, 5, none⟩ = some (.slice C1 m1 d1) := RN.out.cell 5; have q7_6 : wO.cell? ⟨wN.heap.size, 6, none⟩ = some (.int .i64 x.att.h) := RN.out.cell 6; have q7_7 : wO.cell? ⟨wN.heap.size, 7, none⟩ = some (.int .i64 x.att.o) := RN.out.cell 7; have q7_8 : wO.cell? ⟨wN.heap.size, 8, none⟩ = some (.string ⟨x.att.r.toArray⟩) := RN.out.cell 8; have q7_9 : wO.cell? ⟨wN.heap.size, 9, none⟩ = some (.int .i64 x.att.l) := RN.out.cell 9; have q7_10 : wO.cell? ⟨wN.heap.size, 10, none⟩ = some (.int .i64 x.att.i) := RN.out.cell 10; have q7_11 : wO.cell? ⟨wN.heap.size, 11, none⟩ = some (.int .i64 x.att.g) := RN.out.cell 11; have q7_12 : wO.cell? ⟨wN.heap.size, 12, none⟩ = some (.int .i64 x.att.s) := RN.out.cell 12; clear hbel) | (refine wpList_loadW rfl 71 (.tmp 7) rfl 13 nod_agg nod_size (wN.heap.size) 71 rfl (nodC x (.slice A1 n1 c1) (.slice C1 m1 d1)) RN.out rfl ?_) | (go_at_call 100; refine (NHas_b HHR.out wO).mono ?_; rintro e7 wH ⟨rfl, hbel⟩; clear q3_4 q7_0 q7_1 q7_2 q7_3 q7_4 q7_5 q7_6 q7_7 q7_8 q7_9 q7_10 q7_11 q7_12; replace HB := hide (HB.out.trans (hbel.mono HB.out.size)); replace R3 := hide (R3.out.on hbel); replace HU := hide (HU.out.under hbel (by omega)); replace HL := hide (HL.out.under hbel (by omega)); replace HV := hide (HV.out.under hbel (by omega)); replace RN := hide (RN.out.on hbel); have hsz8 := hbel.size; have q3_4 : wH.cell? ⟨w.heap.size, 4, none⟩ = some (.slice AU nU cU) := R3.out.cell 4; have q7_0 : wH.cell? ⟨wN.heap.size, 0, none⟩ = some (.int .i64 x.k) := RN.out.cell 0; have q7_1 : wH.cell? ⟨wN.heap.size, 1, none⟩ = some (.int .i64 x.p) := RN.out.cell 1; have q7_2 : wH.cell? ⟨wN.heap.size, 2, none⟩ = some (.int .i64 x.n) := RN.out.cell 2; have q7_3 : wH.cell? ⟨wN.heap.size, 3, none⟩ = some (.int .i64 x.g) := RN.out.cell 3; have q7_4 : wH.cell? ⟨wN.heap.size, 4, none⟩ = some (.slice A1 n1 c1) := RN.out.cell 4; have q7_5 : wH.cell? ⟨wN.heap.size, 5, none⟩ = some (.slice C1 m1 d1) := RN.out.cell 5; have q7_6 : wH.cell? ⟨wN.heap.size, 6, none⟩ = some (.int .i64 x.att.h) := RN.out.cell 6; have q7_7 : wH.cell? ⟨wN.heap.size, 7, none⟩ = some (.int .i64 x.att.o) := RN.out.cell 7; have q7_8 : wH.cell? ⟨wN.heap.size, 8, none⟩ = some (.string ⟨x.att.r.toArray⟩) := RN.out.cell 8; have q7_9 : wH.cell? ⟨wN.heap.size, 9, none⟩ = some (.int .i64 x.att.l) := RN.out.cell 9; have q7_10 : wH.cell? ⟨wN.heap.size, 10, none⟩ = some (.int .i64 x.att.i) := RN.out.cell 10; have q7_11 : wH.cell? ⟨wN.heap.size, 11, none⟩ = some (.int .i64 x.att.g) := RN.out.cell 11; have q7_12 : wH.cell? ⟨wN.heap.size, 12, none⟩ = some (.int .i64 x.att.s) := RN.out.cell 12; clear hbel) | (go_at_call 102; refine (PRed_e HRL.out HRA.out HRB.out wH (by omega)).mono ?_; rintro e9 wP ⟨A6, n6, c6, rfl, h6, hbel⟩; replace h6 := h6.rd; clear q3_4 q7_0 q7_1 q7_2 q7_3 q7_4 q7_5 q7_6 q7_7 q7_8 q7_9 q7_10 q7_11 q7_12; replace HB := hide (HB.out.trans (hbel.mono HB.out.size)); replace R3 := hide (R3.out.on hbel); replace HU := hide (HU.out.under hbel (by omega)); replace HL := hide (HL.out.under hbel (by omega)); replace HV := hide (HV.out.under hbel (by omega)); replace RN := hide (RN.out.on hbel); have hsz10 := hbel.size; have q3_4 : wP.cell? ⟨w.heap.size, 4, none⟩ = some (.slice AU nU cU) := R3.out.cell 4; have q7_0 : wP.cell? ⟨wN.heap.size, 0, none⟩ = some (.int .i64 x.k) := RN.out.cell 0; have q7_1 : wP.cell? ⟨wN.heap.size, 1, none⟩ = some (.int .i64 x.p) := RN.out.cell 1; have q7_2 : wP.cell? ⟨wN.heap.size, 2, none⟩ = some (.int .i64 x.n) := RN.out.cell 2; have q7_3 : wP.cell? ⟨wN.heap.size, 3, none⟩ = some (.int .i64 x.g) := RN.out.cell 3; have q7_4 : wP.cell? ⟨wN.heap.size, 4, none⟩ = some (.slice A1 n1 c1) := RN.out.cell 4; have q7_5 : wP.cell? ⟨wN.heap.size, 5, none⟩ = some (.slice C1 m1 d1) := RN.out.cell 5; have q7_6 : wP.cell? ⟨wN.heap.size, 6, none⟩ = some (.int .i64 x.att.h) := RN.out.cell 6; have q7_7 : wP.cell? ⟨wN.heap.size, 7, none⟩ = some (.int .i64 x.att.o) := RN.out.cell 7; have q7_8 : wP.cell? ⟨wN.heap.size, 8, none⟩ = some (.string ⟨x.att.r.toArray⟩) := RN.out.cell 8; have q7_9 : wP.cell? ⟨wN.heap.size, 9, none⟩ = some (.int .i64 x.att.l) := RN.out.cell 9; have q7_10 : wP.cell? ⟨wN.heap.size, 10, none⟩ = some (.int .i64 x.att.i) := RN.out.cell 10; have q7_11 : wP.cell? ⟨wN.heap.size, 11, none⟩ = some (.int .i64 x.att.g) := RN.out.cell 11; have q7_12 : wP.cell? ⟨wN.heap.size, 12, none⟩ = some (.int .i64 x.att.s) := RN.out.cell 12; have HN := hide h6; clear h6; clear hbel))
        refine wp_region_planN (fun w' => Below wP.heap.size wP w') [(0, true), (1, true), (2, true), (3, true), (5, true), (4, false), (6, false), (7, true), (8, true), (9, true), (10, true), (11, true)] (by kernel_rfl) (by kernel_rfl) (by kernel_rfl) (by kernel_rfl) rfl (fun _ _ _ _ _ h => h) (below_drew (below_self wP)) (fun hHeld => ?_)
        simp only [planOps, List.filterMap_cons, List.filterMap_nil, List.getElem?_toArray, List.getElem?_cons_succ, List.getElem?_cons_zero, Option.map_some]
        refine wpPlan_take (v := ?_) (by kernel_rfl) (fun wS hSw => ?_) ?_
        rotate_left
        · (try dsimp only at hSw); go_simp; (try with_reducible rfl)
        (try simp only [Act.put, List.setIfInBounds_toArray, List.set_cons_zero, List.set_cons_succ])
        refine wpPlan_take (v := ?_) (by kernel_rfl) (fun wS hSw => ?_) ?_
        rotate_left
        · refine execOp_load (x := .tmp 45) (k := 6) (g := w.heap.size) (off := 0) (cs := (stkC g (.slice AU nU cU) (.slice AL nL cL))) ?_ stk_agg stk_size ?_ (fun j v hv => ((R3.out.on hSw).cell (0 + j)).trans (sub_cell (cur := (vwdC g (.slice AU nU cU) (.slice AL nL cL) u (.slice AV nV cV))) (k := 6) rfl hv)) rfl <;> rfl
        (try simp only [Act.put, List.setIfInBounds_toArray, List.set_cons_zero, List.set_cons_succ])
        refine wpPlan_take (v := ?_) (by kernel_rfl) (fun wS hSw => ?_) ?_
        rotate_left
        · (try dsimp only at hSw); go_simp; (try with_reducible rfl)
        (try simp only [Act.put, List.setIfInBounds_toArray, List.set_cons_zero, List.set_cons_succ])
        refine wpPlan_take (v := ?_) (by kernel_rfl) (fun wS hSw => ?_) ?_
        rotate_left
        · refine execOp_load (x := .tmp 47) (k := 6) (g := w.heap.size) (off := 0) (cs := (stkC g (.slice AU nU cU) (.slice AL nL cL))) ?_ stk_agg stk_size ?_ (fun j v hv => ((R3.out.on hSw).cell (0 + j)).trans (sub_cell (cur := (vwdC g (.slice AU nU cU) (.slice AL nL cL) u (.slice AV nV cV))) (k := 6) rfl hv)) rfl <;> rfl
        (try simp only [Act.put, List.setIfInBounds_toArray, List.set_cons_zero, List.set_cons_succ])
        refine wpPlan_take (v := ?_) (by kernel_rfl) (fun wS hSw => ?_) ?_
        rotate_left
        · (try dsimp only at hSw); go_simp; (try with_reducible rfl)
        (try simp only [Act.put, List.setIfInBounds_toArray, List.set_cons_zero, List.set_cons_succ])
        refine wpPlan_call (by kernel_rfl) (fun K hK => ?_)
        have hOld := hide hHeld
        clear hHeld
        go_simp
        go_at_call 56
        refine (Roots_f _ (und_up (HL.out.under hOld.out (by omega)) (by have := hOld.out.size; omega)) HF.out).mono ?_
        rintro e w' ⟨A8, c8, rfl, h8, hbel⟩
        have H8 := hide (fr_under h8)
        clear h8
        refine hK.out _ _ (hOld.out.trans (hbel.mono hOld.out.size)) (fun hHeld => ?_)
        clear hK K
        (try simp only [Act.put, List.setIfInBounds_toArray, List.set_cons_zero, List.set_cons_succ])
        refine wpPlan_call (by kernel_rfl) (fun K hK => ?_)
        have hOld := hide hHeld
        clear hHeld
        go_simp
        go_at_call 103
        refine (Look_f (B := B) _ (HL.out.under hOld.out (by omega)) H8.out (HN.out.on hOld.out) (by have := hOld.out.size; omega) HF.out (roots_few HF.out) (by have := HN.out.len; omega)).mono ?_
        rintro e w' ⟨A9, n9, c9, rfl, h9, hbel⟩
        obtain rfl : n9 = _ := h9.1.symm
        have H9 := hide (fr_low h9 (lo' := w.heap.size) (by have := hOld.out.size; omega))
        clear h9
        refine hK.out _ _ (hOld.out.trans (hbel.mono hOld.out.size)) (fun hHeld => ?_)
        clear hK K
        (try simp only [Act.put, List.setIfInBounds_toArray, List.set_cons_zero, List.set_cons_succ])
        refine wpPlan_take (v := ?_) (by kernel_rfl) (fun wS hSw => ?_) ?_
        rotate_left
        · (try dsimp only at hSw); go_simp; (try with_reducible rfl)
        (try simp only [Act.put, List.setIfInBounds_toArray, List.set_cons_zero, List.set_cons_succ])
        refine wpPlan_take (v := ?_) (by kernel_rfl) (fun wS hSw => ?_) ?_
        rotate_left
        · (try dsimp only at hSw); go_simp; (try with_reducible rfl)
        (try simp only [Act.put, List.setIfInBounds_toArray, List.set_cons_zero, List.set_cons_succ])
        refine wpPlan_take (v := ?_) (by kernel_rfl) (fun wS hSw => ?_) ?_
        rotate_left
        · (try dsimp only at hSw); go_simp; (try with_reducible rfl)
        (try simp only [Act.put, List.setIfInBounds_toArray, List.set_cons_zero, List.set_cons_succ])
        refine wpPlan_take (v := ?_) (by kernel_rfl) (fun wS hSw => ?_) ?_
        rotate_left
        · (try dsimp only at hSw); go_simp; (try with_reducible rfl)
        (try simp only [Act.put, List.setIfInBounds_toArray, List.set_cons_zero, List.set_cons_succ])
        refine wpPlan_take (v := ?_) (by kernel_rfl) (fun wS hSw => ?_) ?_
        rotate_left
        · (try dsimp only at hSw); go_simp; (try with_reducible rfl)
        (try simp only [Act.put, List.setIfInBounds_toArray, List.set_cons_zero, List.set_cons_succ])
        refine wpPlan_end ?_
        have HBX := hide (HB.out.trans (hHeld.mono HB.out.size))
        clear hHeld
        go_wp2_with fail
        go_ret
        exact ⟨A9, c9, rfl, H9.out, HBX.out⟩
theorem VPartI_e {g : GeoQ} {AU AL : Option Addr} {nU cU nL cL B : Nat} {up : List NodV} {ls : List (List NodV)} {u : Int} {AV : Option Addr} {nV cV BV : Nat} {vl : List (Int × Int)} {i : Int} {nm : List UInt8} {P : List (Int × Int)} (hP : partV up ls vl i nm = P) (w : World) (hu : RdE nodEn w (Under B) AU nU up) (h : RdE layEn w (Under B) AL nL ls) (hB : B ≤ w.heap.size) (hF : FewL ls) (hup : FewU up) (hv : RdE prEn w (Under BV) AV nV vl) (hBV : BV ≤ w.heap.size) (hnV : nV ≤ 1000) : Calls Tryz.prog 58 #[.agg (vwdC g (.slice AU nU cU) (.slice AL nL cL) u (.slice AV nV cV)).toArray, .int .i64 i, .string ⟨nm.toArray⟩] w (PlcsF w P) := by rw [← hP]; exact VPartI_any w hu h hB hF hup hv hBV hnV
set_option maxRecDepth 100000 in
set_option maxHeartbeats 4000000 in
theorem VAbove_any {g : GeoQ} {AU AL : Option Addr} {nU cU nL cL B : Nat} {up : List NodV} {ls : List (List NodV)} {u : Int} {AV : Option Addr} {nV cV BV : Nat} {vl : List (Int × Int)} {i : Int} {nm : List UInt8} {P : List (Int × Int)} (hP : partV up ls vl i nm = P) (w : World) (hu : RdE nodEn w (Under B) AU nU up) (h : RdE layEn w (Under B) AL nL ls) (hB : B ≤ w.heap.size) (hF : FewL ls) (hup : FewU up) (hv : RdE prEn w (Under BV) AV nV vl) (hBV : BV ≤ w.heap.size) (hnV : nV ≤ 1000) : Calls Tryz.prog 72 #[.agg (vwdC g (.slice AU nU cU) (.slice AL nL cL) u (.slice AV nV cV)).toArray, .int .i64 i, .string ⟨nm.toArray⟩] w (ViewF w.heap.size w (i, P)) := by
  obtain ⟨W1, hW1⟩ : ∃ W1, ((w.alloc (.cells (vwdC g (.slice AU nU cU) (.slice AL nL cL) u (.slice AV nV cV)).toArray 95)).alloc (.cells (viwC 0 (.slice none 0 0)).toArray 32)) = W1 := ⟨_, rfl⟩
  obtain ⟨r0, r1, hb1, hs1⟩ := rowA2 w _ _ _ _ hW1
  have hW1' : ((w.alloc (.cells #[.int .i64 g.a, .int .i64 g.b, .int .i64 g.c, .int .i64 g.d, .slice AU nU cU, .slice AL nL cL, .int .i64 u, .slice AV nV cV] 95)).alloc (.cells #[.int .i64 0, .slice none 0 0] 32)) = W1 := hW1
  have R3 := hide r0
  have R6 := hide r1
  have HB := hide hb1
  have hsz0 := hb1.size
  have HU := hide (hu.under hb1 hB)
  have HL := hide (h.under hb1 hB)
  have HF := hide hF
  have HFU := hide hup
  have HV := hide (hv.under hb1 hBV)
  have HP := hide hP
  unfold vwdC
  clear r0 r1 hb1 hW1 hu h hF hup hv hP
  go_enter Tryz.func72, Tryz.ntmps72
  go_wp2_with (first | (refine wpList_loadW rfl 95 (.tmp 3) rfl 8 vwd_agg vwd_size (w.heap.size) 95 rfl (vwdC g (.slice AU nU cU) (.slice AL nL cL) u (.slice AV nV cV)) R3.out rfl ?_) | (go_at_call 58; refine (VPartI_e HP.out W1 HU.out HL.out (by omega) HF.out HFU.out HV.out (by omega) hnV).mono ?_; rintro e1 wB ⟨A3, c3, rfl, h3, hbel⟩; replace HB := hide (HB.out.trans (hbel.mono HB.out.size)); replace R3 := hide (R3.out.on hbel); replace R6 := hide (R6.out.on hbel); replace HU := hide (HU.out.under hbel (by omega)); replace HL := hide (HL.out.under hbel (by omega)); replace HV := hide (HV.out.under hbel (by omega)); have hsz2 := hbel.size; have H3 := hide h3; clear h3; clear hbel) | (refine wpList_storeW rfl 32 (.tmp 6) (.tmp 12) rfl 2 viw_size (w.heap.size + 1) 32 rfl (viwC 0 (.slice none 0 0)) (viwC i (.slice A3 P.length c3)) rfl R6.out rfl rfl (viwC_one _ _ _ _) ?_; intro wS3 hr3 hg3 hs3; replace HB := hide (HB.out.grown hg3 (by omega) (fun k hk => by have := Option.some.inj hk; omega)); replace R3 := hide (R3.out.grown hg3 (fun e => by have := Option.some.inj e; omega)); replace HU := hide (und_grown HU.out hg3 (by omega) (by omega)); replace HL := hide (und_grown HL.out hg3 (by omega) (by omega)); replace HV := hide (und_grown HV.out hg3 (by omega) (by omega)); replace H3 := hide (fr_grown H3.out hg3 (by omega)); have hsz4 := hg3.size; replace R6 := hide hr3; clear hr3 hg3 hs3))
  exact bodyPost_ret (res_cell Tryz.results72 rfl viw_agg viw_size R6.out rfl) rfl ⟨A3, c3, rfl, fr_low H3.out (by omega), HB.out⟩
set_option maxRecDepth 100000 in
set_option maxHeartbeats 4000000 in
theorem VPart_any {g : GeoQ} {AU AL : Option Addr} {nU cU nL cL B : Nat} {up : List NodV} {ls : List (List NodV)} {u : Int} {AV : Option Addr} {nV cV BV : Nat} {vl : List (Int × Int)} {i : Int} {nm : List UInt8} {P : List (Int × Int)} (hP : partV up ls vl i nm = P) (w : World) (hu : RdE nodEn w (Under B) AU nU up) (h : RdE layEn w (Under B) AL nL ls) (hB : B ≤ w.heap.size) (hF : FewL ls) (hup : FewU up) (hv : RdE prEn w (Under BV) AV nV vl) (hBV : BV ≤ w.heap.size) (hnV : nV ≤ 1000) : Calls Tryz.prog 18 #[.agg (stkC g (.slice AU nU cU) (.slice AL nL cL)).toArray, .agg (viwC u (.slice AV nV cV)).toArray, .int .i64 i, .string ⟨nm.toArray⟩] w (PlcsF w P) := by
  obtain ⟨W1, hW1⟩ : ∃ W1, ((w.alloc (.cells (stkC g (.slice AU nU cU) (.slice AL nL cL)).toArray 29)).alloc (.cells (viwC u (.slice AV nV cV)).toArray 32)) = W1 := ⟨_, rfl⟩
  obtain ⟨r0, r1, hb1, hs1⟩ := rowA2 w _ _ _ _ hW1
  have hW1' : ((w.alloc (.cells #[.int .i64 g.a, .int .i64 g.b, .int .i64 g.c, .int .i64 g.d, .slice AU nU cU, .slice AL nL cL] 29)).alloc (.cells #[.int .i64 u, .slice AV nV cV] 32)) = W1 := hW1
  have R4 := hide r0
  have R5 := hide r1
  have HB := hide hb1
  have hsz0 := hb1.size
  have HU := hide (hu.under hb1 hB)
  have HL := hide (h.under hb1 hB)
  have HF := hide hF
  have HFU := hide hup
  have HV := hide (hv.under hb1 hBV)
  have HP := hide hP
  unfold stkC viwC
  clear r0 r1 hb1 hW1 hu h hF hup hv hP
  go_enter Tryz.func18, Tryz.ntmps18
  go_wp2_with (first | (refine wpList_loadW rfl 29 (.tmp 4) rfl 6 stk_agg stk_size (w.heap.size) 29 rfl [.int .i64 g.a, .int .i64 g.b, .int .i64 g.c, .int .i64 g.d, .slice AU nU cU, .slice AL nL cL] R4.out rfl ?_) | (refine wpList_loadW rfl 32 (.tmp 5) rfl 2 viw_agg viw_size (w.heap.size + 1) 32 rfl [.int .i64 u, .slice AV nV cV] R5.out rfl ?_) | (go_at_call 58; refine (VPartI_e (u := u) (cV := cV) HP.out W1 HU.out HL.out (by omega) HF.out HFU.out HV.out (by omega) hnV).mono ?_; rintro e1 wB ⟨A3, c3, rfl, h3, hbel⟩; replace HB := hide (HB.out.trans (hbel.mono HB.out.size)); replace R4 := hide (R4.out.on hbel); replace R5 := hide (R5.out.on hbel); replace HU := hide (HU.out.under hbel (by omega)); replace HL := hide (HL.out.under hbel (by omega)); replace HV := hide (HV.out.under hbel (by omega)); have hsz2 := hbel.size; have H3 := hide h3; clear h3; clear hbel))
  go_ret
  exact ⟨A3, c3, rfl, fr_low H3.out (by omega), HB.out⟩
end Go.Proofs.YtnehkgbdppbhiaaGreat

