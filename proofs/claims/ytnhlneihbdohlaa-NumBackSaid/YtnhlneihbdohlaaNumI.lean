/- The contract of num.Set. -/
import Derived.Test.YtnhlneihbdohlaaNumH
namespace Go.Proofs.Ytnhlneihbdohlaa
open Go.RowKit Plain

/-- Bytes, in which a number's are from p on, where it fits and they are all there. -/
def setS (l : List UInt8) (p n s : Int) : List UInt8 := if (fits n s && hold l.length p s) = true then splice l p.toNat (nb s.toNat n.toNat) else l
theorem setS_no1 {l : List UInt8} {p n s : Int} (h : fits n s = false) : setS l p n s = l := by simp [setS, h]
theorem setS_no2 {l : List UInt8} {p n s : Int} (h : hold l.length p s = false) : setS l p n s = l := by simp [setS, h]
theorem setS_yes {l : List UInt8} {p n s : Int} (h1 : fits n s = true) (h2 : hold l.length p s = true) : setS l p n s = splice l p.toNat (nb s.toNat n.toNat) := by simp [setS, h1, h2]
theorem setS_length {l : List UInt8} {p n s : Int} : (setS l p n s).length = l.length := by
  unfold setS
  split
  · rename_i h
    simp only [Bool.and_eq_true] at h
    obtain ⟨hz, hp, hps⟩ := hold_parts h.2
    have hs : 0 ≤ s := by rcases isz_cases hz with rfl | rfl | rfl <;> omega
    exact length_splice _ _ _ (by rw [nb_length]; omega)
  · rfl

set_option maxHeartbeats 800000 in
theorem Set_no1 {A : Option Addr} {m c : Nat} {l : List UInt8} {p n s : Int} (w : World) (ha : Bs w w.heap.size A m l) (hm : m ≤ 140737488355000) (h : fits n s = false) :
    Calls Try.prog 17 #[.slice A m c, .int .i64 p, .int .i64 n, .int .i64 s] w (BRet w 5 m l) := by
  have H := hide h
  have HA := hide ha
  clear h ha
  go_enter Try.func17, Try.ntmps17
  go_wp2_with (first
    | (go_at_call 10; refine (Right_false H.out _).mono ?_; rintro e w' ⟨rfl, rfl⟩)
    | (go_at_call 30; refine (Clone_any _ HA.out (by omega)).mono ?_; rintro e w1 ⟨A1, c1, rfl, hown, hbel⟩; have HO := hide hown; have HB := hide hbel; clear hown hbel))
  go_ret
  exact HO.out.ret HB.out

set_option maxHeartbeats 800000 in
theorem Set_no2 {A : Option Addr} {m c : Nat} {l : List UInt8} {p n s : Int} (w : World) (ha : Bs w w.heap.size A m l) (hm : m ≤ 140737488355000) (h : fits n s = true) (h2 : hold m p s = false) :
    Calls Try.prog 17 #[.slice A m c, .int .i64 p, .int .i64 n, .int .i64 s] w (BRet w 5 m l) := by
  have H := hide h
  have H2 := hide h2
  have HA := hide ha
  clear h ha h2
  go_enter Try.func17, Try.ntmps17
  go_wp2_with (first
    | (go_at_call 10; refine (Right_true H.out _).mono ?_; rintro e w' ⟨rfl, rfl⟩)
    | (go_at_call 34; refine (holds_no _ (by omega) H2.out).mono ?_; rintro e w' ⟨rfl, rfl⟩)
    | (go_at_call 30; refine (Clone_any _ HA.out (by omega)).mono ?_; rintro e w1 ⟨A1, c1, rfl, hown, hbel⟩; have HO := hide hown; have HB := hide hbel; clear hown hbel))
  go_ret
  exact HO.out.ret HB.out

set_option maxHeartbeats 800000 in
theorem Set_yes {A : Option Addr} {m c : Nat} {l : List UInt8} {p n s : Int} (w : World) (ha : Bs w w.heap.size A m l) (hm : m ≤ 140737488355000) (h : fits n s = true) (h2 : hold m p s = true) :
    Calls Try.prog 17 #[.slice A m c, .int .i64 p, .int .i64 n, .int .i64 s] w (BRet w 5 m (splice l p.toNat (nb s.toNat n.toNat))) := by
  obtain ⟨hz, hp, hps⟩ := hold_parts h2
  obtain ⟨_, hn0, _⟩ := fits_parts h
  have hs4 : 1 ≤ s ∧ s ≤ 4 := by rcases isz_cases hz with rfl | rfl | rfl <;> omega
  obtain ⟨hs1, hs4⟩ := hs4
  have H := hide h
  have H2 := hide h2
  have HA := hide ha
  clear h ha h2 hz
  obtain ⟨p, rfl⟩ := Int.eq_ofNat_of_zero_le hp
  obtain ⟨s, rfl⟩ := Int.eq_ofNat_of_zero_le (by omega : 0 ≤ s)
  have hps' : p + s ≤ m := by omega
  have hs1' : 1 ≤ s := by omega
  have hs4' : s ≤ 4 := by omega
  clear hp hps hs1 hs4
  go_enter Try.func17, Try.ntmps17
  go_wp2_with (first
    | (go_at_call 30; refine (Clone_any _ HA.out (by omega)).mono ?_; rintro e w1 ⟨A1, c1, rfl, hown, hbel⟩; obtain ⟨g, cs, rfl, hg, hrow, hcl, hnc, hcm, htake⟩ := hown.row (by omega); have HR := hide hrow; have HB := hide hbel; have HCL := hide hcl; have HT := hide htake; clear hown hbel hrow hcl htake)
    | (go_at_call 10; refine (Right_true H.out _).mono ?_; rintro e w' ⟨rfl, rfl⟩)
    | (go_at_call 34; refine (holds_yes _ (by omega) H2.out).mono ?_; rintro e w' ⟨rfl, rfl⟩)
    | (go_at_call 32; refine (field_any _ (by omega) (by omega) (by omega) (by omega) (by omega)).mono ?_; rintro e w' ⟨rfl, rfl⟩)
    | (go_at_call 31; refine (fill_any _ HR.out (by omega) (by rw [HCL.out]; omega) hn0).mono ?_; rintro e w3 ⟨rfl, hr3, hg3⟩; have HR3 := hide hr3; have HG3 := hide hg3; clear hr3 hg3))
  go_ret
  exact (Own.spliced HR3.out hg HCL.out hnc hcm HT.out (by rw [nb_length]; exact hps')).ret (HB.out.grown HG3.out HB.out.size (fun k hk => by injection hk with hk; omega))

theorem Set_any {A : Option Addr} {m c : Nat} {l : List UInt8} {p n s : Int} (w : World) (ha : Bs w w.heap.size A m l) (hm : m ≤ 140737488355000) :
    Calls Try.prog 17 #[.slice A m c, .int .i64 p, .int .i64 n, .int .i64 s] w (BRet w 5 m (setS l p n s)) := by
  cases h : fits n s with
  | false => rw [setS_no1 h]; exact Set_no1 w ha hm h
  | true =>
    cases h2 : hold m p s with
    | false => rw [setS_no2 (by rw [ha.len]; exact h2)]; exact Set_no2 w ha hm h h2
    | true => rw [setS_yes h (by rw [ha.len]; exact h2)]; exact Set_yes w ha hm h h2
end Go.Proofs.Ytnhlneihbdohlaa
