/- The contract of the reference's Clean (layer 4). -/
import Derived.Test.YtbdakjepdkmcdaaRefPathC
import Derived.Test.YtbdakjepdkmcdaaRefNameC
namespace Go.Proofs.Ytbdakjepdkmcdaa
open Go.RowKit Plain

set_option maxHeartbeats 800000 in
theorem RClean_no {s : List UInt8} (w : World) (h : headB s = false) : Calls Try.prog 29 #[st s] w (StRet w [] false) := by
  show Calls _ _ #[.string ⟨s.toArray⟩] _ _
  cases s with
  | nil =>
    clear h
    go_enter Try.func29, Try.ntmps29
    go_wp2
    go_ret2
    exact StRet.of (below_self w)
  | cons c r =>
    have hc : c ≠ 47 := by simpa [headB] using h
    have hj : 0 < ByteArray.size ⟨(c :: r).toArray⟩ := by simp [ByteArray.size]
    have hbj : (⟨(c :: r).toArray⟩ : ByteArray)[0]'hj = c := rfl
    have htest : ((c.toNat : Int) != 47) = true := by
      simp only [bne_iff_ne, ne_eq]
      intro e
      apply hc
      apply UInt8.toNat_inj.1
      have : c.toNat = 47 := by omega
      rw [this]
      rfl
    clear h hc
    go_enter Try.func29, Try.ntmps29
    go_wp2
    go_ret2
    exact StRet.of (below_self w)

/-- What Clean's end is, of what is left. -/
def cleanR (o : Option (List (List UInt8))) : List UInt8 := match o with | none => [] | some o => joinS o

set_option maxHeartbeats 3200000 in
theorem RClean_in {s : List UInt8} (w : World) (hm : s.length ≤ 100000) (h : headB s = true) :
    Calls Try.prog 29 #[st s] w (StRet w (cleanR (leftS (partsS s))) ((leftS (partsS s)).isSome)) := by
  show Calls _ _ #[.string ⟨s.toArray⟩] _ _
  obtain ⟨L, hL⟩ : ∃ L, leftS (partsS s) = L := ⟨_, rfl⟩
  rw [hL]
  have HL := hide hL
  obtain ⟨hj, hbj⟩ := headB_get h
  have hl0 : 0 < s.length := by cases s with | nil => simp [headB] at h | cons c r => simp
  have hl1 : ((s.length : Int) == 0) = false := by rw [beq_eq_false_iff_ne]; omega
  obtain ⟨hpl1, hpl2⟩ := partsS_len s
  have htl := totL_le hpl2
  have hmul : (partsS s).length * (s.length + 1) ≤ 100001 * 100001 := Nat.mul_le_mul (by omega) (by omega)
  have HPL := hide hpl2
  have HTL := hide (Nat.le_trans htl hmul)
  have HP1 := hide hpl1
  clear hL h hpl2 hpl1 htl hmul
  go_enter Try.func29, Try.ntmps29
  go_wp2_with fail
  refine (Rparts_any _ (by omega)).mono ?_
  rintro e w1 ⟨A1, c1, rfl, hown, hbel⟩
  have hpl1 := HP1.out
  obtain ⟨P, hP⟩ : ∃ P, partsS s = P := ⟨_, rfl⟩
  rw [hP] at hown hpl1
  have HO := hide hown
  have HB := hide hbel
  have HP := hide hP
  rw [hP]
  clear hown hbel hP hbj hl0 hl1 hj
  go_wp2_with fail
  go_loopw [5, 6] (fun v i wr => ∃ (k p : Nat) (o : List (List UInt8)), k ≤ P.length ∧ i = .int .i64 k ∧ leftS (P.take k) = some o ∧ p ≤ k ∧ (∃ A c, v = .slice A p c ∧ Ow st wr w1.heap.size 9 A p c o) ∧ Below w1.heap.size w1 wr) (fun _ i _ => P.length - (intOf i).toNat)
  case atStart => exact ⟨0, 0, [], Nat.zero_le _, rfl, rfl, Nat.le_refl _, ⟨_, _, rfl, Ow.empty st w1 _⟩, below_new (below_self w1) _⟩
  case round =>
    obtain ⟨k, p, o, hk, rfl, hleft, hpk, ⟨A2, c2, rfl, hown⟩, hbel⟩ := hrel
    have HLE := hide hleft
    have HO2 := hide hown
    have HB2 := hide hbel
    by_cases hlt : k < P.length
    · obtain ⟨g, rfl, hg, hgl, hcg, hfz⟩ := HO.out.at_ (by omega)
      obtain ⟨x, hx⟩ : ∃ x, x = P[k] := ⟨_, rfl⟩
      have hcell : wr.cell? ⟨g, k, none⟩ = some (st x) := (hbel.cell hgl).trans (hcg k x (by rw [hx]; exact List.getElem?_eq_getElem hlt))
      have hxl : x.length ≤ s.length := HPL.out x (by rw [HP.out, hx]; exact List.getElem_mem hlt)
      have hnext : leftS (P.take (k + 1)) = stepC (some o) x := by rw [List.take_succ_eq_append_getElem hlt, leftS_snoc, hleft, hx]
      have hstop : stepC (some o) x = none → L = none := fun e => by
        rw [← HL.out, HP.out]
        exact leftS_stop hlt (by rw [hleft, ← hx]; exact e)
      have HN := hide hnext
      have HS := hide hstop
      clear hcg hfz hx hnext hstop hleft hown hbel
      unfold st at hcell
      by_cases hx0 : x = [] ∨ x = [46]
      · have hst : stepC (some o) x = some o := by simp only [stepC, if_pos hx0]
        have HST := hide hst
        have HX0 := hide hx0
        rcases hx0 with rfl | rfl
        all_goals
          clear hst
          go_wp2
          go_roundw
          case rel => exact ⟨k + 1, p, o, by omega, by go_num, by rw [HN.out, HST.out], by omega, ⟨_, _, rfl, HO2.out⟩, HB2.out⟩
          case measure => simp [intOf]; omega
      · have hx1 : (x == []) = false := by simp only [beq_eq_false_iff_ne, ne_eq]; exact fun e => hx0 (.inl e)
        have hx2 : (x == [46]) = false := by simp only [beq_eq_false_iff_ne, ne_eq]; exact fun e => hx0 (.inr e)
        by_cases hx3 : x = [46, 46]
        · subst hx3
          by_cases hp0 : p = 0
          · subst hp0
            have ho0 : o = [] := List.eq_nil_of_length_eq_zero HO2.out.len
            have hln : L = none := HS.out (by subst ho0; rfl)
            have HLN := hide hln
            clear hln ho0 hx0 hx1 hx2
            go_wp2
            go_ret2
            rw [HLN.out]
            exact StRet.of (below_step HB.out HB2.out)
          · obtain ⟨g2, rfl, hg2, hgl2, _, _⟩ := HO2.out.at_ (by omega)
            have hol := HO2.out.len
            have hcp := HO2.out.cap
            have hst : stepC (some o) [46, 46] = some o.dropLast := by
              have hne : o ≠ [] := by intro e; rw [e] at hol; simp at hol; omega
              simp [stepC, hne]
            have hcut := HO2.out.cut (i := p - 1) (by omega) (by simp)
            have hdl : o.take (p - 1) = o.dropLast := by rw [List.dropLast_eq_take, hol]
            rw [hdl] at hcut
            have HST := hide hst
            have HCUT := hide hcut
            have hd0 : ((p : Int) == 0) = false := by rw [beq_eq_false_iff_ne]; omega
            have hp1 : 1 ≤ p := by omega
            clear hst hcut hdl hol hx0 hx1 hx2 hp0
            go_wp2
            go_roundw
            case rel => exact ⟨k + 1, p - 1, _, by omega, by go_num, by rw [HN.out, HST.out], by omega, ⟨_, _, rfl, HCUT.out⟩, HB2.out⟩
            case measure => simp [intOf]; omega
        · have hx4 : (x == [46, 46]) = false := by simpa using hx3
          cases hb2 : nameB x with
          | false =>
            have hst : stepC (some o) x = none := by simp only [stepC, if_neg hx0, if_neg hx3, hb2]; rfl
            have hln : L = none := HS.out hst
            have HLN := hide hln
            have HB3 := hide hb2
            clear hln hst hx0 hx3 hb2
            go_wp2_with fail
            refine (RNRight_b HB3.out _ (by omega)).mono ?_
            rintro e w' ⟨rfl, rfl⟩
            go_wp2_with fail
            go_ret2
            rw [HLN.out]
            exact StRet.of (below_step HB.out HB2.out)
          | true =>
            have hst : stepC (some o) x = some (o ++ [x]) := by simp only [stepC, if_neg hx0, if_neg hx3, hb2, if_true]
            have HST := hide hst
            have HB3 := hide hb2
            clear hst hx0 hx3 hb2
            go_wp2_with fail
            refine (RNRight_b HB3.out _ (by omega)).mono ?_
            rintro e w' ⟨rfl, rfl⟩
            go_wp2_with (at_builtin; refine wpList_append_Rd _ rfl (.tmp 55) (.tmp 60) 30 rfl w1.heap.size 9 _ 16 Try.underlying30 info_st rfl st_one _ p _ o rfl (HO2.out.alloc _) _ _ 1 1 _ rfl (Rd.one _ _ (show Value.string ⟨x.toArray⟩ = st x from rfl)) (p + 1) rfl (by omega) (by omega) (by have := HB2.out.size; simp; omega) ?_; intro A3 c3 w3 hown3 hbel3; have HO3 := hide hown3; have HB4 := hide ((HB2.out.alloc HB2.out.size _).trans hbel3); clear hown3 hbel3)
            go_roundw
            case rel => exact ⟨k + 1, p + 1, _, by omega, by go_num, by rw [HN.out, HST.out], by omega, ⟨_, _, rfl, HO3.out⟩, HB4.out⟩
            case measure => simp [intOf]; omega
    · have hle : leftS P = some o := by rwa [List.take_of_length_le (by omega)] at hleft
      have hlo : L = some o := by rw [← HL.out, HP.out]; exact hle
      have htt := (leftS_len _ _ hle).2
      have htp : totL P ≤ 100001 * 100001 := by have := HTL.out; rwa [HP.out] at this
      have HLO := hide hlo
      have ht3 : totL o ≤ 1152921504606846976 := by omega
      clear hle hlo htt htp hleft hown hbel
      go_wp2_with fail
      refine (RJoin_any _ HO2.out.rd (by omega) ht3).mono ?_
      rintro e w' ⟨rfl, rfl⟩
      go_wp2_with fail
      go_ret2
      rw [HLO.out]
      exact StRet.of (below_step HB.out HB2.out)

theorem RClean_any {s : List UInt8} (w : World) (hm : s.length ≤ 100000) : Calls Try.prog 29 #[st s] w (StRet w (cleanS s) (cleanB s)) := by
  cases h : headB s with
  | false =>
    rw [show cleanS s = [] from by simp [cleanS, h], show cleanB s = false from by simp [cleanB, h]]
    exact RClean_no w h
  | true =>
    rw [show cleanS s = cleanR (leftS (partsS s)) from by unfold cleanS; rw [if_pos h]; rfl, show cleanB s = (leftS (partsS s)).isSome from by unfold cleanB; rw [h]; rfl]
    exact RClean_in w hm h
end Go.Proofs.Ytbdakjepdkmcdaa
