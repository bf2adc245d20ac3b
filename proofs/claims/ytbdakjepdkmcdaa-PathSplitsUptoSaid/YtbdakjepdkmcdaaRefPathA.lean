/- Contracts of the reference's Join and Begins (layer 4). -/
import Derived.Test.YtbdakjepdkmcdaaRefNameA
import Derived.Test.YtbdakjepdkmcdaaPathP
import Derived.BigQuiet
import Derived.Deep.QuietTactic
namespace Go.Proofs.Ytbdakjepdkmcdaa
open Go.RowKit Plain

set_option maxHeartbeats 800000 in
theorem RJoin_any {A : Option Addr} {m c B : Nat} {l : List (List UInt8)} (w : World) (ha : Rd st w B A m l) (hm : m ≤ 1000000) (ht : totL l ≤ 1152921504606846976) :
    Calls Try.prog 25 #[.slice A m c] w fun e w' => e = .returned (st (joinS l)) ∧ w = w' := by
  have HA := hide ha
  clear ha
  go_enter Try.func25, Try.ntmps25
  go_wp2_with fail
  go_loop [3, 4] (fun s i => ∃ (k : Nat) (t : List UInt8), k ≤ m ∧ i = .int .i64 k ∧ t = joinS (l.take k) ∧ s = .string ⟨t.toArray⟩) (fun _ i => m - (intOf i).toNat)
  case atStart => exact ⟨0, [47], Nat.zero_le _, rfl, rfl, rfl⟩
  case round =>
    obtain ⟨k, t, hk, rfl, hte, rfl⟩ := hrel
    have hjl := joinS_length (l.take k)
    have htt := totL_take l k
    rw [← hte] at hjl
    have HT := hide hte
    clear hte
    by_cases hlt : k < m
    · obtain ⟨b1, o1, rfl, _, hc1⟩ := HA.out.2 (by omega)
      have hl1 : k < l.length := by rw [HA.out.len]; exact hlt
      have hx1 := hc1 k l[k] (List.getElem?_eq_getElem hl1)
      clear hc1
      obtain ⟨x, hx⟩ : ∃ x, x = l[k] := ⟨_, rfl⟩
      have hs : joinS (l.take (k + 1)) = (if k = 0 then t else t ++ [47]) ++ x := by
        rw [List.take_succ_eq_append_getElem hl1, joinS_snoc, ← HT.out, ← hx, List.length_take, Nat.min_eq_left (by omega)]
      have hxl : x.length ≤ 1152921504606846976 := by
        have e := totL_take l (k + 1)
        rw [List.take_succ_eq_append_getElem hl1, totL_snoc, ← hx] at e
        omega
      rw [← hx] at hx1
      unfold st at hx1
      have htl : t.length ≤ 1152921504606846977 := by omega
      clear hx htt hjl hl1
      by_cases hk0 : k = 0
      · subst hk0
        rw [if_pos rfl] at hs
        obtain ⟨z, hz⟩ : ∃ z, t ++ x = z := ⟨_, rfl⟩
        rw [hz] at hs
        have ad := add_lists (P := Try.prog) (x := t) (y := x) (by omega) hz
        have HS := hide hs
        clear hs hz
        simp only [Nat.add_zero] at hx1
        go_wp2_with fail
        go_round
        case rel => exact ⟨1, z, by omega, rfl, HS.out.symm, rfl⟩
        case measure => simp [intOf]; omega
      · rw [if_neg hk0] at hs
        obtain ⟨y, hy⟩ : ∃ y, t ++ [47] = y := ⟨_, rfl⟩
        have hyl : y.length = t.length + 1 := by rw [← hy]; simp
        rw [hy] at hs
        obtain ⟨z, hz⟩ : ∃ z, y ++ x = z := ⟨_, rfl⟩
        rw [hz] at hs
        have ad := add_lists (P := Try.prog) (x := t) (y := [47]) (by simp; omega) hy
        have ad2 := add_lists (P := Try.prog) (x := y) (y := x) (by omega) hz
        have HS := hide hs
        have hk1 : 0 < k := by omega
        clear hs hk0 hy hz hyl
        go_wp2_with fail
        go_round
        case rel => exact ⟨k + 1, z, by omega, by go_num, HS.out.symm, rfl⟩
        case measure => simp [intOf]; omega
    · obtain rfl : k = m := by omega
      have hte := HT.out
      rw [List.take_of_length_le (by rw [HA.out.len]; exact Nat.le_refl _)] at hte
      have HTE := hide hte
      clear hte hjl htt
      go_wp2
      go_ret
      rw [← HTE.out]
      exact ⟨rfl, rfl⟩

/-- Are these the first ones of the others? -/
def beginsS (a b : List (List UInt8)) : Bool := decide (a.length ≤ b.length) && a == b.take a.length

set_option maxHeartbeats 800000 in
theorem RBegins_any {A B : Option Addr} {n m c d : Nat} {l k : List (List UInt8)} {W1 W2 : Nat} (w : World) (ha : Rd st w W1 A n l) (hb : Rd st w W2 B m k) (hn : n ≤ 140737488355328) :
    Calls Try.prog 27 #[.slice A n c, .slice B m d] w fun e w' => e = .returned (.bool (beginsS l k)) ∧ Below w.heap.size w w' := by
  obtain ⟨r, hr⟩ : ∃ r, beginsS l k = r := ⟨_, rfl⟩
  rw [hr]
  by_cases hnm : m < n
  · have hre : r = false := by
      rw [← hr]
      unfold beginsS
      rw [ha.len, hb.len]
      have : decide (n ≤ m) = false := by simp; omega
      rw [this]
      rfl
    have HRE := hide hre
    have hd : decide ((m : Int) < (n : Int)) = true := by simp; omega
    clear ha hb hr hre
    go_enter Try.func27, Try.ntmps27
    go_wp2
    go_ret
    rw [HRE.out]
    exact ⟨rfl, below_self w⟩
  have hrb : (l == k.take n) = r := by
    rw [← hr]
    unfold beginsS
    rw [ha.len, hb.len]
    have : decide (n ≤ m) = true := by simp; omega
    rw [this]
    rfl
  have HR := hide hrb
  have HA := hide ha
  have HB := hide hb
  have hd : ¬ m < n := hnm
  clear hr ha hb hrb hnm
  go_enter Try.func27, Try.ntmps27
  go_wp2
  go_loopw [5] (fun i wr => ∃ j q : Nat, j ≤ n ∧ i = .int .i64 j ∧ l.take j = k.take j ∧ wr = w.drewN q) (fun i _ => n - (intOf i).toNat)
  case atStart => exact ⟨0, 0, by omega, rfl, rfl, rfl⟩
  case round =>
    obtain ⟨j, q, hj, rfl, htake, rfl⟩ := hrel
    have HT := hide htake
    clear htake
    by_cases hlt : j < n
    · obtain ⟨b1, o1, rfl, _, hc1⟩ := HA.out.2 (by omega)
      obtain ⟨b2, o2, rfl, _, hc2⟩ := HB.out.2 (by omega)
      have hl1 : j < l.length := by rw [HA.out.len]; exact hlt
      have hl2 : j < k.length := by rw [HB.out.len]; omega
      have hx1 := hc1 j l[j] (List.getElem?_eq_getElem hl1)
      have hx2 := hc2 j k[j] (List.getElem?_eq_getElem hl2)
      clear hc1 hc2
      obtain ⟨x, hx⟩ : ∃ x, x = l[j] := ⟨_, rfl⟩
      obtain ⟨y, hy⟩ : ∃ y, y = k[j] := ⟨_, rfl⟩
      rw [← hx] at hx1
      rw [← hy] at hx2
      unfold st at hx1 hx2
      have hjm : j < m := by omega
      by_cases hxy : x = y
      · have ht2 : l.take (j + 1) = k.take (j + 1) := by
          rw [List.take_succ_eq_append_getElem hl1, List.take_succ_eq_append_getElem hl2, HT.out, ← hx, ← hy, hxy]
        have HT2 := hide ht2
        have hne : (x == y) = true := by simp [hxy]
        clear hx hy ht2 hxy hl1 hl2
        go_wp2
        go_quiet (fail)
        go_wp2
        go_roundw
        case rel => exact ⟨j + 1, _, by omega, by go_num, HT2.out, rfl⟩
        case measure => simp [intOf]; omega
      · have hre : r = false := by
          rw [← HR.out]
          simp only [beq_eq_false_iff_ne, ne_eq]
          intro e
          apply hxy
          rw [hx, hy]
          have e2 : l[j]? = k[j]? := by rw [e, List.getElem?_take_of_lt hlt]
          rw [List.getElem?_eq_getElem hl1, List.getElem?_eq_getElem hl2] at e2
          exact Option.some.inj e2
        have hne : (x == y) = false := by simp [hxy]
        have HRE := hide hre
        clear hx hy hre hxy hl1 hl2
        go_wp2
        go_quiet (fail)
        go_wp2
        go_ret
        rw [HRE.out]
        exact ⟨rfl, below_drewN (below_drewN (below_self w) _) _⟩
    · obtain rfl : j = n := by omega
      have hre : r = true := by
        rw [← HR.out]
        have e := HT.out
        rw [List.take_of_length_le (by rw [HA.out.len]; exact Nat.le_refl _)] at e
        simp [e]
      have HRE := hide hre
      clear hre
      go_wp2
      go_ret
      rw [HRE.out]
      exact ⟨rfl, below_drewN (below_self w) _⟩
end Go.Proofs.Ytbdakjepdkmcdaa
