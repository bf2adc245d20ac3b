/- Contracts of sum.Sealed, and the reference's Seal, Same and Sealed. -/
import Derived.Test.YthjjjeolpdekoaaSumC
import Derived.Test.YthjjjeolpdekoaaNumF
import Derived.BigQuiet
import Derived.Deep.QuietTactic
namespace Go.Proofs.Ythjjjeolpdekoaa
open Go.RowKit Plain

/-- What it does: it returns this bool, and nothing that was there has turned. -/
def BoolRet (w : World) (b : Bool) (x : Ending) (w' : World) : Prop := x = .returned (.bool b) ∧ Below w.heap.size w w'
theorem BoolRet.of {w w' : World} {b : Bool} (h : Below w.heap.size w w') : BoolRet w b (.returned (.bool b)) w' := ⟨rfl, h⟩

set_option maxHeartbeats 400000 in
theorem Sealed_any {A : Option Addr} {m c : Nat} {l : List UInt8} (w : World) (ha : Bs w w.heap.size A m l) :
    Calls Try.prog 58 #[.slice A m c] w (BoolRet w (l == sealS l)) := by
  have HA := hide ha
  clear ha
  obtain ⟨r, hr⟩ : ∃ r, (l == sealS l) = r := ⟨_, rfl⟩
  rw [hr]
  have HR := hide hr
  clear hr
  go_enter Try.func58, Try.ntmps58
  go_wp2_with fail
  refine (Seal_any _ HA.out).mono ?_
  rintro e w2 ⟨A2, c2, rfl, hown, hbel⟩
  have HO := hide hown
  have HB := hide hbel
  clear hown hbel
  go_wp2_with fail
  refine (Equal_any _ ((HA.out.below HB.out).more HB.out.size) HO.out.bs).mono ?_
  rw [HR.out]
  rintro e w' ⟨rfl, rfl⟩
  go_wp2_with fail
  go_ret
  exact BoolRet.of HB.out

set_option maxHeartbeats 800000 in
theorem RSeal_any {A : Option Addr} {m c : Nat} {l : List UInt8} (w : World) (ha : Bs w w.heap.size A m l) (hm : m ≤ 140737488355000) :
    Calls Try.prog 80 #[.slice A m c] w (BRet w 5 64 (sealS l)) := by
  have HA := hide ha
  clear ha
  have hbl := bodyS_length l
  have HBL := hide hbl
  clear hbl
  go_enter Try.func80, Try.ntmps80
  go_wp2
  go_loopw [3, 4] (fun v i wr => ∃ k : Nat, k ≤ 60 ∧ i = .int .i64 k ∧ (∃ A c, v = .slice A k c ∧ Own wr w.heap.size 5 A k c ((bodyS l).take k)) ∧ Below w.heap.size w wr) (fun _ i _ => 60 - (intOf i).toNat)
  case atStart => exact ⟨0, by omega, rfl, ⟨_, _, rfl, own_empty w _⟩, (Below.refl _ _).alloc (Nat.le_refl _) _⟩
  case round =>
    obtain ⟨k, hk, rfl, ⟨A1, c1, rfl, hown⟩, hbel⟩ := hrel
    have HO := hide hown
    have HB := hide hbel
    clear hown hbel
    by_cases hlt : k < 60
    · have hkb : k < (bodyS l).length := by rw [HBL.out]; exact hlt
      by_cases hkm : k < m
      · obtain ⟨b, o, rfl, _, hcell⟩ := (HA.out.below HB.out).2 (by omega)
        have hkl : k < l.length := by rw [HA.out.len]; exact hkm
        have hx := hcell k l[k] (List.getElem?_eq_getElem hkl)
        have hbk : (bodyS l)[k] = l[k] := by
          have e1 : (bodyS l)[k]? = l[k]? := by
            unfold bodyS
            rw [splice_get _ _ _ _ (by rw [zeros_length, List.length_take]; omega), List.length_take]
            have f1 : ¬ k < 0 := by omega
            have f2 : k < 0 + min 60 l.length := by omega
            rw [if_neg f1, if_pos f2, Nat.sub_zero, List.getElem?_take_of_lt hlt]
          rw [List.getElem?_eq_getElem hkb, List.getElem?_eq_getElem hkl] at e1
          exact Option.some.inj e1
        obtain ⟨x, hxe⟩ : ∃ x : Nat, bv l[k] = .int .u8 (x : Int) := ⟨l[k].toNat, rfl⟩
        have hxs : Value.int .u8 (x : Int) = bv (bodyS l)[k] := by rw [hbk, hxe]
        rw [hxe] at hx
        have HXS := hide hxs
        clear hcell hxs hxe hbk
        go_wp2_with (at_builtin; refine wpList_append_Bs _ rfl (.tmp 14) (.tmp 19) 24 rfl w.heap.size 5 Try.underlying24 info_u8 _ k _ _ rfl (HO.out.alloc _) _ _ 1 1 _ rfl (Bs.one _ _ HXS.out) (k + 1) rfl (by omega) (by have := HB.out.size; simp; omega) ?_; intro A2 c2 w1 hown1 hbel1; have HO1 := hide hown1; have HB1 := hide hbel1; clear hown1 hbel1)
        go_roundw
        case rel => exact ⟨k + 1, by omega, by go_num, ⟨_, _, rfl, by rw [List.take_succ_eq_append_getElem hkb]; exact HO1.out⟩, (HB.out.alloc HB.out.size _).trans HB1.out⟩
        case measure => simp [intOf]; omega
      · have hbk : (bodyS l)[k] = 0 := by
          have hll := HA.out.len
          have e1 : (bodyS l)[k]? = some 0 := by
            unfold bodyS
            rw [splice_get _ _ _ _ (by rw [zeros_length, List.length_take]; omega), List.length_take]
            have f1 : ¬ k < 0 := by omega
            have f2 : ¬ k < 0 + min 60 l.length := by omega
            rw [if_neg f1, if_neg f2]
            unfold zeros
            rw [List.getElem?_replicate, if_pos hlt]
          rw [List.getElem?_eq_getElem hkb] at e1
          exact Option.some.inj e1
        have hxs : Value.int .u8 0 = bv (bodyS l)[k] := by rw [hbk]; rfl
        have HXS := hide hxs
        clear hxs hbk
        go_wp2_with (at_builtin; refine wpList_append_Bs _ rfl (.tmp 21) (.tmp 22) 24 rfl w.heap.size 5 Try.underlying24 info_u8 _ k _ _ rfl (HO.out.alloc _) _ _ 1 1 _ rfl (Bs.one _ _ HXS.out) (k + 1) rfl (by omega) (by have := HB.out.size; simp; omega) ?_; intro A2 c2 w1 hown1 hbel1; have HO1 := hide hown1; have HB1 := hide hbel1; clear hown1 hbel1)
        go_roundw
        case rel => exact ⟨k + 1, by omega, by go_num, ⟨_, _, rfl, by rw [List.take_succ_eq_append_getElem hkb]; exact HO1.out⟩, (HB.out.alloc HB.out.size _).trans HB1.out⟩
        case measure => simp [intOf]; omega
    · obtain rfl : k = 60 := by omega
      have ho := HO.out
      rw [List.take_of_length_le (by rw [HBL.out]; exact Nat.le_refl _)] at ho
      have HO2 := hide ho
      clear ho HO
      go_wp2_with fail
      refine (ROf_any _ HO2.out.bs (by omega)).mono ?_
      rintro e w' ⟨rfl, rfl⟩
      go_wp2_with fail
      refine (RPut_yes (m := 60) (n := ofS (bodyS l)) (s := 4) _ HO2.out.bs (by omega) (fits_of _)).mono ?_
      rintro e w2 ⟨A2, c2, rfl, hown, hbel⟩
      have HO3 := hide hown
      have HB3 := hide hbel
      clear hown hbel
      go_wp2_with fail
      go_ret
      have ho := HO3.out
      rw [Int.toNat_natCast] at ho
      exact Own.ret (ho.rebase HB.out.size) (below_step HB.out HB3.out)
end Go.Proofs.Ythjjjeolpdekoaa
