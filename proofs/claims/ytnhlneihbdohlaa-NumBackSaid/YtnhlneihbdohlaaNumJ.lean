/- The contract of the reference's Set. -/
import Derived.Test.YtnhlneihbdohlaaNumI
namespace Go.Proofs.Ytnhlneihbdohlaa
open Go.RowKit Plain

set_option maxHeartbeats 1600000 in
theorem RSet_no {A : Option Addr} {m c : Nat} {l : List UInt8} {p n s : Int} (w : World) (ha : Bs w w.heap.size A m l) (hm : m ≤ 140737488355000) (h : fits n s = false ∨ hold m p s = false) :
    Calls Try.prog 18 #[.slice A m c, .int .i64 p, .int .i64 n, .int .i64 s] w (BRet w 5 m l) := by
  have HA := hide ha
  clear ha
  cases hf : fits n s with
  | false =>
    have H := hide hf
    clear h hf
    go_enter Try.func18, Try.ntmps18
    go_wp2_with (first
      | (at_builtin; refine wpList_append_Bs _ rfl (.tmp 12) (.tmp 13) 22 rfl w.heap.size 5 Try.underlying22 info_u8 _ 0 _ [] rfl (own_empty w _) _ A m c l rfl (HA.out.alloc (Nat.le_refl _) _) m (by omega) (by omega) (by simp) ?_; intro A1 c1 w1 hown1 hbel1; have HO1 := hide hown1; have HB1 := hide (((Below.refl w.heap.size w).alloc (Nat.le_refl _) _).trans hbel1); clear hown1 hbel1)
      | (go_at_call 11; refine (RRight_false H.out _).mono ?_; rintro e w' ⟨rfl, rfl⟩))
    go_ret
    exact Own.ret (by simpa using HO1.out) HB1.out
  | true =>
    have h2 : hold m p s = false := by
      rcases h with h | h
      · rw [hf] at h; cases h
      · exact h
    clear h
    have hz := (fits_parts hf).1
    have hs4 : 1 ≤ s ∧ s ≤ 4 := by rcases isz_cases hz with rfl | rfl | rfl <;> omega
    obtain ⟨hs1, hs4⟩ := hs4
    have H := hide hf
    clear hf
    by_cases hp : p < 0
    · have hd : decide (p < 0) = true := by simp; omega
      clear h2 hz
      go_enter Try.func18, Try.ntmps18
      go_wp2_with (first
        | (at_builtin; refine wpList_append_Bs _ rfl (.tmp 12) (.tmp 13) 22 rfl w.heap.size 5 Try.underlying22 info_u8 _ 0 _ [] rfl (own_empty w _) _ A m c l rfl (HA.out.alloc (Nat.le_refl _) _) m (by omega) (by omega) (by simp) ?_; intro A1 c1 w1 hown1 hbel1; have HO1 := hide hown1; have HB1 := hide (((Below.refl w.heap.size w).alloc (Nat.le_refl _) _).trans hbel1); clear hown1 hbel1)
        | (go_at_call 11; refine (RRight_true H.out _).mono ?_; rintro e w' ⟨rfl, rfl⟩))
      go_ret
      exact Own.ret (by simpa using HO1.out) HB1.out
    · have hp0 : 0 ≤ p := by omega
      have hd : decide (p < 0) = false := by simp; omega
      by_cases hpm : (m : Int) < p
      · have hd2 : decide ((m : Int) < p) = true := by simp; omega
        clear h2 hz
        go_enter Try.func18, Try.ntmps18
        go_wp2_with (first
          | (at_builtin; refine wpList_append_Bs _ rfl (.tmp 12) (.tmp 13) 22 rfl w.heap.size 5 Try.underlying22 info_u8 _ 0 _ [] rfl (own_empty w _) _ A m c l rfl (HA.out.alloc (Nat.le_refl _) _) m (by omega) (by omega) (by simp) ?_; intro A1 c1 w1 hown1 hbel1; have HO1 := hide hown1; have HB1 := hide (((Below.refl w.heap.size w).alloc (Nat.le_refl _) _).trans hbel1); clear hown1 hbel1)
          | (go_at_call 11; refine (RRight_true H.out _).mono ?_; rintro e w' ⟨rfl, rfl⟩))
        go_ret
        exact Own.ret (by simpa using HO1.out) HB1.out
      · have hd2 : decide ((m : Int) < p) = false := by simp; omega
        have hps : (m : Int) - p < s := by
          by_cases hps : (m : Int) - p < s
          · exact hps
          · have e1 : decide (0 ≤ p) = true := by simp; omega
            have e2 : decide (p ≤ m - s) = true := by simp; omega
            simp [hold, hz, e1, e2] at h2
        have hd3 : decide ((m : Int) - p < s) = true := by simp; omega
        clear h2 hz
        go_enter Try.func18, Try.ntmps18
        go_wp2_with (first
          | (at_builtin; refine wpList_append_Bs _ rfl (.tmp 12) (.tmp 13) 22 rfl w.heap.size 5 Try.underlying22 info_u8 _ 0 _ [] rfl (own_empty w _) _ A m c l rfl (HA.out.alloc (Nat.le_refl _) _) m (by omega) (by omega) (by simp) ?_; intro A1 c1 w1 hown1 hbel1; have HO1 := hide hown1; have HB1 := hide (((Below.refl w.heap.size w).alloc (Nat.le_refl _) _).trans hbel1); clear hown1 hbel1)
          | (go_at_call 11; refine (RRight_true H.out _).mono ?_; rintro e w' ⟨rfl, rfl⟩))
        go_ret
        exact Own.ret (by simpa using HO1.out) HB1.out

set_option maxHeartbeats 1600000 in
theorem RSet_yes {A : Option Addr} {m c : Nat} {l : List UInt8} {p n s : Int} (w : World) (ha : Bs w w.heap.size A m l) (hm : m ≤ 140737488355000) (h : fits n s = true) (h2 : hold m p s = true) :
    Calls Try.prog 18 #[.slice A m c, .int .i64 p, .int .i64 n, .int .i64 s] w (BRet w 5 m (splice l p.toNat (nb s.toNat n.toNat))) := by
  obtain ⟨hz, hp, hps⟩ := hold_parts h2
  obtain ⟨_, hn0, hn1⟩ := fits_parts h
  have hs4 : 1 ≤ s ∧ s ≤ 4 ∧ n < 4294967296 := by rcases isz_cases hz with rfl | rfl | rfl <;> simp at hn1 <;> omega
  obtain ⟨hs1, hs4, hn2⟩ := hs4
  have H := hide h
  have HA := hide ha
  clear h ha h2 hz hn1
  obtain ⟨p, rfl⟩ := Int.eq_ofNat_of_zero_le hp
  obtain ⟨s, rfl⟩ := Int.eq_ofNat_of_zero_le (by omega : 0 ≤ s)
  have hps' : p + s ≤ m := by omega
  have hs1' : 1 ≤ s := by omega
  have hs4' : s ≤ 4 := by omega
  have hd : decide ((p : Int) < 0) = false := by simp
  have hd2 : decide ((m : Int) < (p : Int)) = false := by simp; omega
  have hd3 : decide ((m : Int) - (p : Int) < (s : Int)) = false := by simp; omega
  clear hp hps hs1 hs4
  obtain ⟨X, hX⟩ : ∃ X, X = nb s n.toNat := ⟨_, rfl⟩
  have hXl : X.length = s := by rw [hX, nb_length]
  have HX := hide hX
  have HXL := hide hXl
  clear hX hXl
  go_enter Try.func18, Try.ntmps18
  go_wp2_with (first
    | (at_builtin; refine wpList_append_Bs _ rfl (.tmp 12) (.tmp 13) 22 rfl w.heap.size 5 Try.underlying22 info_u8 _ 0 _ [] rfl (own_empty w _) _ A m c l rfl (HA.out.alloc (Nat.le_refl _) _) m (by omega) (by omega) (by simp) ?_; intro A1 c1 w1 hown1 hbel1; obtain ⟨g, cs, rfl, hg, hrow, hcl, hnc, hcm, htake⟩ := hown1.row (by omega); have hgl := hrow.lt; have HR := hide hrow; have HB1 := hide (((Below.refl w.heap.size w).alloc (Nat.le_refl _) _).trans hbel1); have HCL := hide hcl; have HT := hide htake; clear hown1 hbel1 hrow hcl htake)
    | (go_at_call 11; refine (RRight_true H.out _).mono ?_; rintro e w' ⟨rfl, rfl⟩)
    | (go_at_call 33; refine (RBytes_any _ hn0 hn2 hs4').mono ?_; rintro e w2 ⟨A2, c2, rfl, hown2, hbel2⟩; obtain ⟨g2, cs2, rfl, hg2, hrow2, hcl2, hnc2, hcm2, htake2⟩ := hown2.row (by omega); have hgl2 := hrow2.lt; have HR2 := hide hrow2; have HB2 := hide hbel2; have HT2 := hide htake2; clear hown2 hbel2 hrow2 hcl2 htake2))
  go_loopw [11] (fun i wr => ∃ k : Nat, k ≤ s ∧ i = .int .i64 k ∧ RowL wr g 5 (splice cs p (bvs (X.take k))) ∧ w2.grownBy wr (some g)) (fun i _ => s - (intOf i).toNat)
  case atStart => exact ⟨0, Nat.zero_le _, rfl, by rw [show X.take 0 = [] from rfl, show bvs [] = [] from rfl, splice_nil]; exact HB2.out.block g hgl |>.trans HR.out, World.grownBy.refl _ _⟩
  case round =>
    obtain ⟨k, hk, rfl, hrow, hgrow⟩ := hrel
    by_cases hlt : k < s
    · have hkx : k < X.length := by rw [HXL.out]; exact hlt
      have hfz : wr.frozen? ⟨g, p + k, none⟩ = false := hrow.frozen _
      have hsl : (splice cs p (bvs (X.take k))).length = cs.length := length_splice _ _ _ (by rw [bvs_length, List.length_take, HCL.out]; omega)
      obtain ⟨u, hu⟩ : ∃ u, wr.cell? ⟨g, p + k, none⟩ = some u := ⟨_, (hrow.cell _).trans (List.getElem?_eq_getElem (by rw [hsl, HCL.out]; omega))⟩
      have hx2 : wr.cell? ⟨g2, k, none⟩ = some (bv X[k]) := by
        have e1 : wr.cell? ⟨g2, k, none⟩ = w2.cell? ⟨g2, k, none⟩ := World.cell?_of_block (hgrow.block g2 hgl2 (by simp; omega))
        rw [e1, HR2.out.cell]
        have e2 : (cs2.take s)[k]? = some (bv X[k]) := by rw [HT2.out, ← HX.out]; exact bvs_get (List.getElem?_eq_getElem hkx)
        rwa [List.getElem?_take_of_lt hlt] at e2
      have hst : RowL (wr.setCell ⟨g, p + k, none⟩ (bv X[k])) g 5 (splice cs p (bvs (X.take (k + 1)))) := by
        rw [List.take_succ_eq_append_getElem hkx, bvs_append, show bvs [X[k]] = [bv X[k]] from rfl, splice_snoc _ _ _ _ (by rw [bvs_length, List.length_take, HCL.out]; omega), bvs_length, List.length_take, Nat.min_eq_left (by omega)]
        exact hrow.set_ _ _
      have hgr := only_setCell hgrow (p + k) (bv X[k])
      obtain ⟨x, hx⟩ : ∃ x : Nat, bv X[k] = .int .u8 (x : Int) := ⟨X[k].toNat, rfl⟩
      rw [hx] at hx2 hst hgr
      have HST := hide hst
      have HGR := hide hgr
      clear hrow hgrow hsl hst hgr hx
      go_wp2
      go_roundw
      case rel => exact ⟨k + 1, by omega, by go_num, HST.out, HGR.out⟩
      case measure => simp [intOf]; omega
    · obtain rfl : k = s := by omega
      have hrow' : RowL wr g 5 (splice cs p (bvs X)) := by rw [List.take_of_length_le (by rw [HXL.out]; exact Nat.le_refl _)] at hrow; exact hrow
      have HROW := hide hrow'
      have HGR := hide hgrow
      clear hrow hgrow hrow'
      go_wp2
      go_ret
      have ho := Own.spliced HROW.out hg HCL.out hnc hcm HT.out (by rw [HXL.out]; exact hps')
      rw [HX.out] at ho
      exact ho.ret ((HB1.out.trans (HB2.out.mono HB1.out.size)).grown HGR.out (Nat.le_trans HB1.out.size HB2.out.size) (fun j hj => by injection hj with hj; omega))

theorem RSet_any {A : Option Addr} {m c : Nat} {l : List UInt8} {p n s : Int} (w : World) (ha : Bs w w.heap.size A m l) (hm : m ≤ 140737488355000) :
    Calls Try.prog 18 #[.slice A m c, .int .i64 p, .int .i64 n, .int .i64 s] w (BRet w 5 m (setS l p n s)) := by
  cases h : fits n s with
  | false => rw [setS_no1 h]; exact RSet_no w ha hm (.inl h)
  | true =>
    cases h2 : hold m p s with
    | false => rw [setS_no2 (by rw [ha.len]; exact h2)]; exact RSet_no w ha hm (.inr h2)
    | true => rw [setS_yes h (by rw [ha.len]; exact h2)]; exact RSet_yes w ha hm h h2
end Go.Proofs.Ytnhlneihbdohlaa
