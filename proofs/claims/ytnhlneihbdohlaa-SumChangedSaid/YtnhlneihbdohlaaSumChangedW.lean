/- The walk of the law SumChanged: it is true for any bytes, place and change. -/
import Derived.Test.YtnhlneihbdohlaaSumG
namespace Go.Proofs.Ytnhlneihbdohlaa
open Go.RowKit Plain

set_option maxHeartbeats 400000 in
theorem law_SumChanged {A : Option Addr} {m c : Nat} {l : List UInt8} {q t : Int} (w : World) (ha : Bs w w.heap.size A m l) (hq0 : 0 ≤ q) (hq1 : q < 256) (ht0 : 0 ≤ t) (ht1 : t < 256) :
    Calls Try.prog 8 #[.slice A m c, .int .u8 q, .int .u8 t] w (LawOk w) := by
  by_cases hm : 2000 < m
  · clear ha
    have hd : decide ((2000 : Int) < (m : Int)) = true := by simp; omega
    go_enter Try.func8, Try.ntmps8
    go_wp2_with fail
    refine (awake2_any _).mono ?_
    rintro e w' ⟨rfl, hbel⟩
    have HB := hide hbel
    clear hbel
    go_wp2_with fail
    go_ret
    exact LawOk.of HB.out
  have hd : decide ((2000 : Int) < (m : Int)) = false := by simp; omega
  by_cases ht : t = 0
  · subst ht
    clear ha
    go_enter Try.func8, Try.ntmps8
    go_wp2_with fail
    refine (awake2_any _).mono ?_
    rintro e w' ⟨rfl, hbel⟩
    have HB := hide hbel
    clear hbel
    go_wp2_with fail
    go_ret
    exact LawOk.of HB.out
  have htz : (t == 0) = false := by simp [ht]
  obtain ⟨t, rfl⟩ := Int.eq_ofNat_of_zero_le ht0
  have ht1' : t < 256 := by omega
  have ht' : t ≠ 0 := by omega
  obtain ⟨p, hp⟩ : ∃ p : Nat, q % 64 = (p : Int) := ⟨(q % 64).toNat, by omega⟩
  have hp1 : p < 64 := by omega
  have HT := hide ht'
  have HA := hide ha
  clear ha hm ht ht' ht0 ht1
  go_enter Try.func8, Try.ntmps8
  go_wp2_with fail
  refine (Seal_any _ HA.out).mono ?_
  rintro e w1 ⟨A1, c1, rfl, hown, hbel⟩
  obtain ⟨g, cs, rfl, hg, hrow, hcl, hnc, hcm, htake⟩ := hown.row (by omega)
  have hpl : p < (sealS l).length := by rw [sealS_length]; exact hp1
  obtain ⟨x, hx⟩ : ∃ x : Nat, x = (sealS l)[p].toNat := ⟨_, rfl⟩
  have hx1 : x < 256 := by rw [hx]; exact (sealS l)[p].toNat_lt
  have hcell : w1.cell? ⟨g, p, none⟩ = some (.int .u8 (x : Int)) := by
    rw [hrow.cell]
    have e1 : (cs.take 64)[p]? = some (bv (sealS l)[p]) := by rw [htake]; exact bvs_get (List.getElem?_eq_getElem hpl)
    rw [List.getElem?_take_of_lt hp1] at e1
    rw [e1, hx]
    rfl
  have hfz : w1.frozen? ⟨g, p, none⟩ = false := hrow.frozen _
  have hxor := xor_u8 x t hx1 ht1'
  have hbv : Value.int .u8 ((x ^^^ t : Nat) : Int) = bv (UInt8.ofNat (x ^^^ t)) := by
    have : x ^^^ t < 256 := Nat.xor_lt_two_pow (n := 8) hx1 ht1'
    simp only [bv, UInt8.toNat_ofNat']
    rw [Nat.mod_eq_of_lt this]
  have hset := hown.set_ p hbv
  have hb2 : Below w.heap.size w (w1.setCell ⟨g, p, none⟩ (.int .u8 ((x ^^^ t : Nat) : Int))) := hbel.setCell hg _
  have hch := changed_not l p (UInt8.ofNat (x ^^^ t)) hp1 (fun z hz => by
    rw [List.getElem?_eq_getElem hpl] at hz
    injection hz with hz
    have := xor_ne x t hx1 ht1' HT.out
    rw [hx] at this ⊢
    rw [← hz]
    intro e
    rw [UInt8.ofNat_toNat] at this
    exact this e.symm)
  obtain ⟨z, hz⟩ : ∃ z : Nat, x ^^^ t = z := ⟨_, rfl⟩
  rw [hz] at hxor hset hb2 hch
  have HO := hide hset
  have HB2 := hide hb2
  have HCH := hide hch
  clear hown hbel hrow hcl htake hx hbv hset hb2 hch hz
  go_wp2_with fail
  refine (Sealed_any _ HO.out.bs).mono ?_
  rw [HCH.out]
  rintro e w2 ⟨rfl, hbel⟩
  have HB3 := hide (below_step HB2.out hbel)
  clear hbel
  go_wp2_with fail
  refine (awake2_any _).mono ?_
  rintro e w3 ⟨rfl, hbel⟩
  have HB4 := hide (below_step HB3.out hbel)
  clear hbel
  go_wp2_with fail
  go_ret
  exact LawOk.of HB4.out
end Go.Proofs.Ytnhlneihbdohlaa
