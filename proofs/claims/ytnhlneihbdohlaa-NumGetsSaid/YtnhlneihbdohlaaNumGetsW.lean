/- The walk of the law NumGets: it is true for any bytes, place, number and size. -/
import Derived.Test.YtnhlneihbdohlaaNumK
namespace Go.Proofs.Ytnhlneihbdohlaa
open Go.RowKit Plain

/-- What Get answers. -/
def getR (l : List UInt8) (p s : Int) : Nat := if hold l.length p s = true then getS l p s else 0
theorem Get_any {A : Option Addr} {m c B : Nat} {l : List UInt8} {p s : Int} (w : World) (ha : Bs w B A m l) (hm : m ≤ 140737488355000) (hmc : m ≤ c) :
    Calls Try.prog 15 #[.slice A m c, .int .i64 p, .int .i64 s] w fun e w' => e = .returned (.tuple #[.int .i64 (getR l p s), .bool (hold m p s)]) ∧ w = w' := by
  cases h : hold m p s with
  | false => rw [show getR l p s = 0 from by unfold getR; rw [ha.len, h]; rfl]; exact Get_no w hm h
  | true => rw [show getR l p s = getS l p s from by unfold getR; rw [ha.len, h]; rfl]; exact Get_yes w ha hm hmc h
theorem RGet_any {A : Option Addr} {m c B : Nat} {l : List UInt8} {p s : Int} (w : World) (ha : Bs w B A m l) (hm : m ≤ 140737488355000) :
    Calls Try.prog 16 #[.slice A m c, .int .i64 p, .int .i64 s] w fun e w' => e = .returned (.tuple #[.int .i64 (getR l p s), .bool (hold m p s)]) ∧ w = w' := by
  cases h : hold m p s with
  | false => rw [show getR l p s = 0 from by unfold getR; rw [ha.len, h]; rfl]; exact RGet_no w hm h
  | true => rw [show getR l p s = getS l p s from by unfold getR; rw [ha.len, h]; rfl]; exact RGet_yes w ha hm h

set_option maxHeartbeats 400000 in
theorem law_NumGets {A : Option Addr} {m c : Nat} {l : List UInt8} {p n s : Int} (w : World) (ha : Bs w w.heap.size A m l) (hmc : m ≤ c) :
    Calls Try.prog 4 #[.slice A m c, .int .i64 p, .int .i64 n, .int .i64 s] w (LawOk w) := by
  by_cases hm : 2000 < m
  · clear ha hmc
    have hd : decide ((2000 : Int) < (m : Int)) = true := by simp; omega
    go_enter Try.func4, Try.ntmps4
    go_wp2_with fail
    refine (awake1_any _).mono ?_
    rintro e w' ⟨rfl, hbel⟩
    have HB := hide hbel
    clear hbel
    go_wp2_with fail
    go_ret
    exact LawOk.of HB.out
  · have hd : decide ((2000 : Int) < (m : Int)) = false := by simp; omega
    have hm' : m ≤ 2000 := by omega
    have HA := hide ha
    clear ha hm
    obtain ⟨x, hx⟩ : ∃ x, getR l p s = x := ⟨_, rfl⟩
    obtain ⟨b, hb⟩ : ∃ b, hold m p s = b := ⟨_, rfl⟩
    have HX := hide hx
    have HBB := hide hb
    clear hx hb
    go_enter Try.func4, Try.ntmps4
    go_wp2_with fail
    refine (Get_any _ HA.out (by omega) hmc).mono ?_
    rw [HX.out, HBB.out]
    rintro e w' ⟨rfl, rfl⟩
    go_wp2_with fail
    refine (RGet_any _ HA.out (by omega)).mono ?_
    rw [HX.out, HBB.out]
    rintro e w' ⟨rfl, rfl⟩
    have hxx : ((x : Int) == (x : Int)) = true := by simp
    have hbb : (b == b) = true := by simp
    go_wp2_with fail
    refine (Set_any _ HA.out (by omega)).mono ?_
    rintro e w1 ⟨A1, c1, rfl, hown, hbel⟩
    have HO := hide hown
    have HB := hide hbel
    clear hown hbel
    go_wp2_with fail
    refine (RSet_any _ ((HA.out.below HB.out).more HB.out.size) (by omega)).mono ?_
    rintro e w2 ⟨A2, c2, rfl, hown, hbel⟩
    have HO2 := hide hown
    have HB2 := hide hbel
    clear hown hbel
    go_wp2_with fail
    refine (Equal_yes _ (HO.out.below HB2.out).bs HO2.out.bs rfl).mono ?_
    rintro e w' ⟨rfl, rfl⟩
    go_wp2_with fail
    refine (awake1_any _).mono ?_
    rintro e w3 ⟨rfl, hbel⟩
    have HB3 := hide hbel
    clear hbel
    go_wp2_with fail
    go_ret
    exact LawOk.of (below_step (below_step HB.out HB2.out) HB3.out)
end Go.Proofs.Ytnhlneihbdohlaa
