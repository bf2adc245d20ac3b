/- The contract of the reference's parts (layer 4). -/
import Derived.Test.YtbdakjepdkmcdaaRefPathA
import Derived.Test.YtbdakjepdkmcdaaRefNameD
import Derived.StillTailTactics
import Derived.IntWalk
namespace Go.Proofs.Ytbdakjepdkmcdaa
open Go.RowKit Plain
theorem ext_one {s : List UInt8} {j : Nat} (h : j < s.length) : ByteArray.extract ⟨s.toArray⟩ j (j + 1) = ⟨[s[j]].toArray⟩ := by
  apply ByteArray.ext
  simp only [ByteArray.data_extract]
  apply Array.toList_inj.1
  rw [Array.toList_extract]
  simp only [List.extract_eq_take_drop, Nat.add_sub_cancel_left, List.toList_toArray]
  rw [List.drop_eq_getElem_cons h]
  rfl

set_option maxHeartbeats 1600000 in
theorem Rparts_any {s : List UInt8} (w : World) (hm : s.length ≤ 1000000) :
    Calls Try.prog 41 #[st s] w (ORet st w 9 (partsS s).length (partsS s)) := by
  show Calls _ _ #[.string ⟨s.toArray⟩] _ _
  go_enter Try.func41, Try.ntmps41
  go_wp2_with fail
  go_loopw [3, 4] (fun v i wr => ∃ (j p : Nat) (o : List (List UInt8)), 1 ≤ j ∧ (j ≤ s.length ∨ j = 1) ∧ i = .int .i64 j ∧ o = partsTo s j ∧ (∃ A c, v = .slice A p c ∧ Ow st wr w.heap.size 9 A p c o) ∧ Below w.heap.size w wr) (fun _ i _ => s.length - (intOf i).toNat)
  case atStart => exact ⟨1, 1, [[]], by omega, .inr rfl, rfl, (partsTo_one s).symm, ⟨_, _, rfl, Ow.lit w _ (cs := [.string ⟨#[]⟩]) rfl rfl (by omega)⟩, below_new (below_self w) _⟩
  case round =>
    obtain ⟨j, p, o, hj1, hj2, rfl, hoe, ⟨A1, c1, rfl, hown⟩, hbel⟩ := hrel
    obtain ⟨hp1, hp2, hp3⟩ := partsTo_len s j
    rw [← hoe] at hp1 hp2 hp3
    have hop := hown.len
    rw [hop] at hp1 hp2
    have HO := hide hown
    have HB := hide hbel
    by_cases hlt : j < s.length
    · obtain ⟨x, hx⟩ : ∃ x, x = s[j] := ⟨_, rfl⟩
      have hjs : j < ByteArray.size ⟨s.toArray⟩ := hlt
      have hbj : (⟨s.toArray⟩ : ByteArray)[j]'hjs = x := hx.symm
      have hs := partsTo_succ hj1 hlt
      rw [← hoe, ← hx] at hs
      by_cases hc : x = 47
      · have hs2 : partsTo s (j + 1) = o ++ [[]] := by rw [hs]; simp [stepP, hc]
        have HS := hide hs2
        have htest : ((x.toNat : Int) == 47) = true := by rw [hc]; rfl
        clear hs hs2 hown hbel hoe hp3 hj2 hop hx hc
        go_wp2_with (at_builtin; refine wpList_append_Rd _ rfl (.tmp 16) (.tmp 17) 30 rfl w.heap.size 9 _ 16 Try.underlying30 info_st rfl st_one _ p _ o rfl (HO.out.alloc _) _ _ 1 1 _ rfl (Rd.one _ _ rfl) (p + 1) rfl (by omega) (by omega) (by have := HB.out.size; simp; omega) ?_; intro A2 c2 w1 hown1 hbel1; have HO1 := hide hown1; have HB1 := hide ((HB.out.alloc HB.out.size _).trans hbel1); clear hown1 hbel1)
        go_roundw
        case rel => exact ⟨j + 1, p + 1, _, by omega, by omega, by go_num, HS.out.symm, ⟨_, _, rfl, HO1.out⟩, HB1.out⟩
        case measure => simp [intOf]; omega
      · obtain ⟨g, rfl, hg, hgl, hcg, hfz⟩ := hown.at_ (by omega)
        obtain ⟨y, hy⟩ : ∃ y, y = o.getD (p - 1) [] := ⟨_, rfl⟩
        have hcell := hcg (p - 1) y (by rw [hy]; simp only [List.getD]; rw [List.getElem?_eq_getElem (by omega)]; rfl)
        have hyl : y.length ≤ j := by
          apply hp3
          rw [hy]
          simp only [List.getD]
          rw [List.getElem?_eq_getElem (by omega)]
          exact List.getElem_mem (by omega)
        obtain ⟨z, hz⟩ : ∃ z, y ++ [x] = z := ⟨_, rfl⟩
        have hs2 : partsTo s (j + 1) = o.set (p - 1) z := by rw [hs]; simp only [stepP, if_neg hc, hop, ← hy, hz]
        have hex := ext_one hlt
        rw [← hx] at hex
        have ad := add_lists (P := Try.prog) (x := y) (y := [x]) (by simp; omega) hz
        have hst := hown.drew.set_ (p := p - 1) (u := st z) (y := z) rfl
        have hbs := hbel.drew.setCell (p := ⟨g, p - 1, none⟩) hg (st z)
        have hf := hfz (p - 1)
        have htest : ((x.toNat : Int) == 47) = false := by
          simp only [beq_eq_false_iff_ne, ne_eq]
          intro e
          apply hc
          apply UInt8.toNat_inj.1
          have : x.toNat = 47 := by omega
          rw [this]
          rfl
        have HS := hide hs2
        have HST := hide hst
        have HBS := hide hbs
        unfold st at hcell
        clear hs hs2 hown hbel hoe hp3 hj2 hop hx hc hy hz hcg hfz hst hbs
        have hw1 : IntKind.i64.wrap ((p : Int) - 1) = (p : Int) - 1 := IntWalk.i64_in _ (by omega)
        have hw2 : ((p : Int) - 1).toNat = p - 1 := by omega
        have hw3 : (0 : Int) ≤ (p : Int) - 1 := by omega
        have hw4 : (p : Int) - 1 < (p : Int) := by omega
        have hw5 : IntKind.i64.wrap ((j : Int) + 1) = (j : Int) + 1 := IntWalk.i64_in _ (by omega)
        have hw6 : ((j : Int) + 1).toNat = j + 1 := by omega
        go_wp2
        have hw7 : (1 : Int) ≤ (p : Int) := by omega
        have hw8 : (0 : Int) ≤ (j : Int) + 1 := by omega
        have hw9 : (j : Int) + 1 ≤ (s.length : Int) := by omega
        have hw10 : (j : Int) ≤ (j : Int) + 1 := by omega
        go_still_tail 17, (by kernel_rfl)
        change wpList _ _ _ _ _ wr.drew
        clear hw1 hw2 hw3 hw4 hw5 hw6 hw7 hw8 hw9 hw10 ad hex hbj
        go_wp2
        go_roundw
        case rel => exact ⟨j + 1, p, _, by omega, by omega, by go_num, HS.out.symm, ⟨_, _, rfl, HST.out⟩, HBS.out⟩
        case measure => simp [intOf]; omega
    · have hpe : o = partsS s := by rw [hoe]; exact partsTo_all (by omega)
      have HPE := hide hpe
      have HOP := hide hop
      clear hown hbel hoe hp3 hop hpe
      go_wp2
      go_ret
      rw [← HPE.out, HOP.out]
      exact HO.out.ret HB.out
end Go.Proofs.Ytbdakjepdkmcdaa
