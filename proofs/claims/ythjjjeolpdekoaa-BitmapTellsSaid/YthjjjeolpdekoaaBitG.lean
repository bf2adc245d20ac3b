/- bitmap (layer 10): the law's awake. -/
import Derived.Test.YthjjjeolpdekoaaBitF
namespace Go.Proofs.Ythjjjeolpdekoaa
open Go.RowKit Plain

theorem GetB_c {A : Option Addr} {n c : Nat} {l : List UInt8} (w : World) (h : Bs w w.heap.size A n l) (hn : n ≤ 140737488355328) (m : Int) {r : Bool} {ls : List Bool} (h1 : bmOk l m = r) (h2 : getBits l m = ls) :
    Calls Try.prog 35 #[.slice A n c, .int .i64 m] w (fun x w' => ∃ A' n' c', x = .returned (.tuple #[.slice A' n' c', .bool r]) ∧ Rd Value.bool w' w'.heap.size A' n' ls ∧ n' ≤ c' ∧ Below w.heap.size w w') := by
  subst h1 h2
  exact GetB_any w h hn m
theorem RGetB_c {A : Option Addr} {n c : Nat} {l : List UInt8} (w : World) (h : Bs w w.heap.size A n l) (hn : n ≤ 140737488355328) (m : Int) {r : Bool} {ls : List Bool} (h1 : bmOk l m = r) (h2 : getBits l m = ls) :
    Calls Try.prog 36 #[.slice A n c, .int .i64 m] w (fun x w' => ∃ A' n' c', x = .returned (.tuple #[.slice A' n' c', .bool r]) ∧ Rd Value.bool w' w'.heap.size A' n' ls ∧ n' ≤ c' ∧ Below w.heap.size w w') := by
  subst h1 h2
  exact RGetB_any w h hn m
theorem EqualB_b {A B : Option Addr} {n m c d W1 W2 : Nat} {l k : List Bool} {r : Bool} (w : World) (ha : Rd Value.bool w W1 A n l) (hb : Rd Value.bool w W2 B m k) (hn : n ≤ 140737488355328) (h : (l == k) = r) :
    Calls Try.prog 39 #[.slice A n c, .slice B m d] w (BoolB w r) := by
  subst h; exact EqualB_any w ha hb hn
theorem Many_c {A : Option Addr} {n c : Nat} {l : List UInt8} {B : Nat} (w : World) (h : Bs w B A n l) (hn : n ≤ 140737488355328) {k : Int} (hk : (sumP l n : Int) = k) :
    Calls Try.prog 40 #[.slice A n c] w (IntRet w k) := by
  subst hk; exact Many_any w h hn
theorem RMany_c {A : Option Addr} {n c : Nat} {l : List UInt8} {B : Nat} (w : World) (h : Bs w B A n l) (hn : n ≤ 140737488355328) {k : Int} (hk : (sumP l n : Int) = k) :
    Calls Try.prog 41 #[.slice A n c] w (IntRet w k) := by
  subst hk; exact RMany_any w h hn
theorem aw10_1 : bmOk (bmS [true, false, true]) 4 = true := by decide +kernel
theorem aw10_2 : getBits (bmS [true, false, true]) 4 = [true, false, true, false] := by decide +kernel
theorem aw10_3 : bmOk (bmS [true, false, true]) 2 = false := by decide +kernel
theorem aw10_4 : getBits (bmS [true, false, true]) 2 = [] := by decide +kernel
theorem aw10_5 : (sumP (bmS [true, false, true]) 64 : Int) = 2 := by decide +kernel
theorem aw10_6 : (bmS [true, false, true])[0]? = some 5 := by decide +kernel
set_option maxRecDepth 100000 in
set_option maxHeartbeats 800000 in
theorem awake10_any (w : World) : Calls Try.prog 34 #[] w (LawOk w) := by
  go_enter Try.func34, Try.ntmps34
  go_wp2_with fail
  refine (PutB_any (u := [true, false, true]) (n := 3) (c := 3) _ ((Rd.lit w 4 (cs := [.bool true, .bool false, .bool true]) rfl rfl).more (by simp)) (by omega) (by omega)).mono ?_
  rintro e w1 ⟨A1, c1, rfl, hown, hbel⟩
  obtain ⟨g, cs, rfl, hg, hrow, -⟩ := hown.row (by omega)
  have HO := hide hown
  have HB := hide (below_step (below_new (below_self w) _) hbel)
  clear hown hbel hrow
  go_wp2_with fail
  refine (GetB_c _ HO.out.bs (by omega) 4 aw10_1 aw10_2).mono ?_
  rintro e w2 ⟨A2, n2, c2, rfl, hrd2, hnc2, hbel2⟩
  have HO2 := hide (HO.out.below hbel2)
  have HR2 := hide hrd2
  have hn4 : n2 = 4 := by rw [← hrd2.len]; rfl
  subst hn4
  have HB2 := hide (below_step HB.out hbel2)
  clear hrd2 hbel2 HO HB
  go_wp2_with fail
  refine (GetB_c _ HO2.out.bs (by omega) 2 aw10_3 aw10_4).mono ?_
  rintro e w3 ⟨A3, n3, c3, rfl, hrd3, hnc3, hbel3⟩
  have HO3 := hide (HO2.out.below hbel3)
  have HR3 := hide (HR2.out.on hbel3)
  have HB3 := hide (below_step HB2.out hbel3)
  have hc0 : w3.cell? ⟨g, 0, none⟩ = some (.int .u8 5) := by
    obtain ⟨b, o, e, _, hc⟩ := HO3.out.bs.2 (by omega)
    cases e
    exact hc 0 5 aw10_6
  clear hrd3 hbel3 HO2 HB2 HR2
  go_wp2_with fail
  refine (Many_c _ HO3.out.bs (by omega) aw10_5).mono ?_
  rintro e w4 ⟨rfl, rfl⟩
  go_wp2_with fail
  refine (EqualB_b (k := [true, false, true, false]) (r := true) _ (HR3.out.alloc (Nat.le_refl _) _) (Rd.lit w3 4 (cs := [.bool true, .bool false, .bool true, .bool false]) rfl rfl) (by omega) (by decide)).mono ?_
  rintro e w5 ⟨rfl, hbel5⟩
  have HB5 := hide (below_step (below_new HB3.out _) hbel5)
  clear hbel5
  go_wp2_with fail
  go_ret
  exact LawOk.of HB5.out
end Go.Proofs.Ythjjjeolpdekoaa
