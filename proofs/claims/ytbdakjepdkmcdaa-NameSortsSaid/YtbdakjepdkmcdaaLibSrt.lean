/- Contracts of cmp.Less and slices.IsSorted at strings. -/
import Derived.Test.YtbdakjepdkmcdaaLibStr
namespace Go.Proofs.Ytbdakjepdkmcdaa
open Go.RowKit Plain

set_option maxHeartbeats 400000 in
theorem isNaN_any (x : List UInt8) (w : World) : Calls Try.prog 47 #[st x] w fun e w' => e = .returned (.bool false) ∧ w = w' := by
  show Calls _ _ #[.string ⟨x.toArray⟩] _ _
  have h : (x == x) = true := by simp
  go_enter Try.func47, Try.ntmps47
  go_wp2
  go_ret
  exact ⟨rfl, rfl⟩

set_option maxHeartbeats 400000 in
theorem Less_any (x y : List UInt8) (w : World) : Calls Try.prog 39 #[st x, st y] w fun e w' => e = .returned (.bool (lessS x y)) ∧ w = w' := by
  show Calls _ _ #[.string ⟨x.toArray⟩, .string ⟨y.toArray⟩] _ _
  obtain ⟨r, hr⟩ : ∃ r, Op.bytesLess x y = r := ⟨_, rfl⟩
  rw [show lessS x y = r from hr]
  go_enter Try.func39, Try.ntmps39
  go_wp2_with fail
  refine (isNaN_any _ _).mono ?_
  rintro e w' ⟨rfl, rfl⟩
  go_wp2_with fail
  go_ret
  exact ⟨rfl, rfl⟩
theorem Less_same {x y : List UInt8} {b : Bool} (h : lessS x y = b) (w : World) : Calls Try.prog 39 #[.string ⟨x.toArray⟩, .string ⟨y.toArray⟩] w fun e w' => e = .returned (.bool b) ∧ w' = w := by
  subst h
  exact (Less_any x y w).mono fun _ _ h => ⟨h.1, h.2.symm⟩

/-- A quiet call behind draws. -/
theorem quiet_addS {P : Program} {f : FuncId} {args : Array Value} {w : World} {a n : Nat} {v : Value}
    (h : Calls P f args (w.drewN (a + n)) fun e w' => e = .returned v ∧ w' = w.drewN (a + n)) :
    Calls P f args (w.drewN (a + n)) fun e w'' => e = .returned v ∧ ∃ m, w'' = w.drewN (a + m) :=
  h.mono fun _ _ ⟨he, hm⟩ => ⟨he, n, hm⟩

set_option maxHeartbeats 800000 in
theorem IsSortedS_yes {A : Option Addr} {n c B : Nat} {l : List (List UInt8)} (w : World) (ha : Rd st w B A n l) (hn : n ≤ 140737488355328) (hs : ∀ i, i + 1 < l.length → lessS (l.getD (i + 1) []) (l.getD i []) = false) :
    Calls Try.prog 20 #[.slice A n c] w (BRt w true) := by
  have HA := hide ha
  have HS := hide hs
  clear ha hs
  go_enter Try.func20, Try.ntmps20
  go_wp2_with fail
  go_loopw [3] (fun i wr => ∃ q : Nat, ∃ j : Int, (j : Int) < n ∧ -1 ≤ j ∧ i = .int .i64 j ∧ wr = w.drewN q) (fun i _ => (intOf i + 1).toNat)
  case atStart => exact ⟨0, (n : Int) - 1, by omega, by omega, by go_num, rfl⟩
  case round =>
    obtain ⟨q, j, hj1, hj2, rfl, rfl⟩ := hrel
    by_cases hlt : 0 < j
    · obtain ⟨i, rfl⟩ : ∃ i : Nat, j = (i : Int) + 1 := ⟨(j - 1).toNat, by omega⟩
      obtain ⟨b, o, rfl, _, hc⟩ := HA.out.2 (by omega)
      have hll := HA.out.len
      have hx := hc (i + 1) (l.getD (i + 1) []) (by simp only [List.getD]; rw [List.getElem?_eq_getElem (by omega)]; rfl)
      have hy := hc i (l.getD i []) (by simp only [List.getD]; rw [List.getElem?_eq_getElem (by omega)]; rfl)
      have hle := HS.out i (by omega)
      obtain ⟨x, hxe⟩ : ∃ x, l.getD (i + 1) [] = x := ⟨_, rfl⟩
      obtain ⟨y, hye⟩ : ∃ y, l.getD i [] = y := ⟨_, rfl⟩
      rw [hxe] at hx hle
      rw [hye] at hy hle
      unfold st at hx hy
      have HLE := hide hle
      have hin : i + 1 < n := by omega
      have hw1 : IntKind.i64.wrap ((i : Int) + 1 - 1) = (i : Int) := by rw [IntKind.wrap_i64]; omega
      have hw2 : ((i : Int) + 1).toNat = i + 1 := by omega
      have hw3 : (0 : Int) ≤ (i : Int) + 1 := by omega
      have hw4 : (i : Int) + 1 < (n : Int) := by omega
      have hw5 : (i : Int) < (n : Int) := by omega
      have hw6 : i < n := by omega
      clear hc hll hle hxe hye
      go_wp2
      go_quiet ((go_at_call 39; first | exact Calls.quiet_of_same (Less_same HLE.out _) | exact quiet_addS (Less_same HLE.out _)))
      clear hw1 hw2 hw3 hw4 hw5 hw6
      go_wp2
      go_roundw
      case rel => exact ⟨_, (i : Int), by omega, by omega, by go_num, rfl⟩
      case measure => simp [intOf]; omega
    · go_wp2
      go_ret
      exact BRt.of (below_drewN (below_self w) _) rfl
end Go.Proofs.Ytbdakjepdkmcdaa
