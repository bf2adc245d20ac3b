/- The contract of the reference's Pack (layer 3). -/
import Derived.Test.YthjjjeolpdekoaaRefNameA
namespace Go.Proofs.Ythjjjeolpdekoaa
open Go.RowKit Plain

theorem info8 : (Try.prog.info? 5).map (fun i => (i.zero, i.size, i.bytes)) = some (some (.int .u8 0), 1, 1) := by kernel_rfl

set_option maxHeartbeats 800000 in
theorem RPack_no {l : List UInt8} (h : nameB l = false) (w : World) (hl : l.length ≤ 140737488355328) :
    Calls Try.prog 70 #[st l] w fun e w' => e = .returned (.slice none 0 0) ∧ w = w' := by
  have H := hide h
  clear h
  go_enter Try.func70, Try.ntmps70
  go_wp2_with fail
  refine (RNRight_b H.out _ hl).mono ?_
  rintro e w' ⟨rfl, rfl⟩
  go_wp2_with fail
  go_ret
  exact ⟨rfl, rfl⟩

set_option maxHeartbeats 800000 in
theorem RPack_yes {l : List UInt8} (h : nameB l = true) (w : World) :
    Calls Try.prog 70 #[st l] w (BRet w 5 14 (packS l)) := by
  obtain ⟨hl1, hl2⟩ := nameB_len h
  have hpl := packS_length h
  have h0 : (packS l).take 1 = [UInt8.ofNat l.length] := by rw [packS_yes h]; rfl
  have H := hide h
  have HPL := hide hpl
  have H0 := hide h0
  clear h hpl h0
  go_enter Try.func70, Try.ntmps70
  go_wp2_with fail
  refine (RNRight_b H.out _ (by omega)).mono ?_
  rintro e w' ⟨rfl, rfl⟩
  unfold st
  go_wp2_with fail
  go_loopw [3, 4] (fun v i wr => ∃ k : Nat, k ≤ 13 ∧ i = .int .i64 k ∧ (∃ A c, v = .slice A (k + 1) c ∧ Own wr w.heap.size 5 A (k + 1) c ((packS l).take (k + 1))) ∧ Below w.heap.size w wr) (fun _ i _ => 13 - (intOf i).toNat)
  case atStart => exact ⟨0, by omega, rfl, ⟨_, _, rfl, by rw [H0.out]; exact Own.one w _ (by simp [bv]; omega)⟩, below_new (below_self w) _⟩
  case round =>
    obtain ⟨k, hk, rfl, ⟨A1, c1, rfl, hown⟩, hbel⟩ := hrel
    have HO := hide hown
    have HB := hide hbel
    clear hown hbel
    by_cases hlt : k < 13
    · have hkp : k + 1 < (packS l).length := by rw [HPL.out]; omega
      by_cases hkl : k < l.length
      · have hg : (packS l)[k + 1] = l[k] := by
          have := packS_get H.out hlt
          rw [List.getElem?_eq_getElem hkp, dif_pos hkl] at this
          exact Option.some.inj this
        have hxs : Value.int .u8 (l[k].toNat : Int) = bv (packS l)[k + 1] := by rw [hg]; rfl
        have HXS := hide hxs
        clear hxs hg
        go_wp2_with (at_builtin; refine wpList_append_Bs _ rfl (.tmp 20) (.tmp 24) 24 rfl w.heap.size 5 Try.underlying24 info8 _ (k + 1) _ _ rfl (HO.out.alloc _) _ _ 1 1 _ rfl (Bs.one _ _ HXS.out) (k + 1 + 1) rfl (by omega) (by have := HB.out.size; simp; omega) ?_; intro A2 c2 w1 hown1 hbel1; have HO1 := hide hown1; have HB1 := hide hbel1; clear hown1 hbel1)
        go_roundw
        case rel => exact ⟨k + 1, by omega, by go_num, ⟨_, _, rfl, by rw [List.take_succ_eq_append_getElem hkp]; exact HO1.out⟩, (HB.out.alloc HB.out.size _).trans HB1.out⟩
        case measure => simp [intOf]; omega
      · have hg : (packS l)[k + 1] = 0 := by
          have := packS_get H.out hlt
          rw [List.getElem?_eq_getElem hkp, dif_neg hkl] at this
          exact Option.some.inj this
        have hxs : Value.int .u8 0 = bv (packS l)[k + 1] := by rw [hg]; rfl
        have HXS := hide hxs
        clear hxs hg
        go_wp2_with (at_builtin; refine wpList_append_Bs _ rfl (.tmp 26) (.tmp 27) 24 rfl w.heap.size 5 Try.underlying24 info8 _ (k + 1) _ _ rfl (HO.out.alloc _) _ _ 1 1 _ rfl (Bs.one _ _ HXS.out) (k + 1 + 1) rfl (by omega) (by have := HB.out.size; simp; omega) ?_; intro A2 c2 w1 hown1 hbel1; have HO1 := hide hown1; have HB1 := hide hbel1; clear hown1 hbel1)
        go_roundw
        case rel => exact ⟨k + 1, by omega, by go_num, ⟨_, _, rfl, by rw [List.take_succ_eq_append_getElem hkp]; exact HO1.out⟩, (HB.out.alloc HB.out.size _).trans HB1.out⟩
        case measure => simp [intOf]; omega
    · obtain rfl : k = 13 := by omega
      have ho := HO.out
      rw [List.take_of_length_le (by rw [HPL.out]; exact Nat.le_refl _)] at ho
      have HO2 := hide ho
      clear ho HO
      go_wp2
      go_ret
      exact HO2.out.ret HB.out
/-- Pack answers a name's bytes; nothing of what is no name. -/
theorem RPack_any {l : List UInt8} (w : World) (hl : l.length ≤ 140737488355328) :
    Calls Try.prog 70 #[st l] w (BRet w 5 (packS l).length (packS l)) := by
  cases h : nameB l with
  | true => rw [packS_length h]; exact RPack_yes h w
  | false =>
    rw [packS_no h]
    refine (RPack_no h w hl).mono ?_
    rintro e w' ⟨rfl, rfl⟩
    exact (Own.nil_ _ _ _).ret (below_self _)
end Go.Proofs.Ythjjjeolpdekoaa
