/- The reference's Right, Put, Fresh (layer 7). -/
import Derived.Test.YtnjmddmiebofeaaDoorInoG
namespace Go.Proofs.YtnjmddmiebofeaaDoor
open Go.RowKit Plain

theorem RCount_b {n top : Int} {b : Bool} (h : (decide (0 ≤ n) && decide (n ≤ top)) = b) (w : World) : Calls Tryd.prog 20 #[.int .i64 n, .int .i64 top] w fun e w' => e = .returned (.bool b) ∧ w = w' := by
  by_cases h0 : 0 ≤ n
  · have e : b = decide (n ≤ top) := by rw [← h]; simp [h0]
    subst e
    clear h
    go_enter Tryd.func20, Tryd.ntmps20
    go_wp2_with fail
    go_ret
    exact ⟨rfl, rfl⟩
  · have e : b = false := by rw [← h]; simp [h0]
    subst e
    have h1 : n < 0 := by omega
    clear h h0
    go_enter Tryd.func20, Tryd.ntmps20
    go_wp2_with fail
    go_ret
    exact ⟨rfl, rfl⟩
/-- May a pointer of that kind be? -/
def okP (k u : Int) : Bool := (decide (0 ≤ u) && decide (u ≤ 65535)) && !(k == 4 && u != 0)
/-- The reference's own words. -/
def rightR (k i n g s p q r t a : Int) : Bool := (decide (1 ≤ k) && decide (k ≤ 4)) && ((decide (0 ≤ i) && decide (i ≤ 255)) && ((decide (0 ≤ n) && decide (n ≤ 65535)) && ((decide (0 ≤ a) && decide (a ≤ 65535)) && ((decide (0 ≤ g) && decide (g ≤ 268435455)) && ((decide (0 ≤ s) && decide (s ≤ 256)) && (!((k == 1 || k == 4) && s != 0) && (okP k p && okP k q && okP k r && okP k t)))))))
theorem rightR_eq (k i n g s p q r t a : Int) (h0 : ¬ (⟨k, i, n, g, s, p, q, r, t, a⟩ : InoV) = ino0) : rightI ⟨k, i, n, g, s, p, q, r, t, a⟩ = rightR k i n g s p q r t a := by
  have e : rightI ⟨k, i, n, g, s, p, q, r, t, a⟩ = ((decide (1 ≤ k) && decide (k ≤ 4)) && fitsI ⟨k, i, n, g, s, p, q, r, t, a⟩) := by simp [rightI, h0]
  rw [e]
  clear e h0
  unfold rightR
  cases hk : (decide (1 ≤ k) && decide (k ≤ 4)) with
  | false => rfl
  | true =>
    rw [Bool.true_and, Bool.true_and, Bool.eq_iff_iff]
    unfold fitsI
    rw [List.all_eq_true]
    have hk' : 1 ≤ k ∧ k ≤ 4 := by simpa using hk
    constructor
    · intro hf
      have f0 := hf 0 (by decide)
      have f1 := hf 1 (by decide)
      have f2 := hf 2 (by decide)
      have f3 := hf 3 (by decide)
      have f4 := hf 4 (by decide)
      have f5 := hf 5 (by decide)
      have f6 := hf 6 (by decide)
      have f7 := hf 7 (by decide)
      have f8 := hf 8 (by decide)
      have f9 := hf 9 (by decide)
      clear hf
      simp only [fitsN, InoV.num, mostI, Bool.and_eq_true, decide_eq_true_eq] at f0 f1 f2 f3 f4 f5 f6 f7 f8 f9
      simp only [okP, Bool.and_eq_true, decide_eq_true_eq, Bool.not_eq_true', Bool.and_eq_false_iff, Bool.or_eq_false_iff, beq_eq_false_iff_ne, bne_eq_false_iff_eq, ne_eq]
      split at f4 <;> split at f5 <;> omega
    · intro hr j hj
      have hj' : j < 10 := List.mem_range.1 hj
      simp only [okP, Bool.and_eq_true, decide_eq_true_eq, Bool.not_eq_true', Bool.and_eq_false_iff, Bool.or_eq_false_iff, beq_eq_false_iff_ne, bne_eq_false_iff_eq, ne_eq] at hr
      simp only [fitsN, Bool.and_eq_true, decide_eq_true_eq]
      obtain rfl | rfl | rfl | rfl | rfl | rfl | rfl | rfl | rfl | rfl : j = 0 ∨ j = 1 ∨ j = 2 ∨ j = 3 ∨ j = 4 ∨ j = 5 ∨ j = 6 ∨ j = 7 ∨ j = 8 ∨ j = 9 := by omega
      all_goals (simp only [InoV.num, mostI]; (try split) <;> omega)
def ptrN (p q r t : Int) (j : Nat) : Int := match j with
  | 0 => p
  | 1 => q
  | 2 => r
  | 3 => t
  | _ => 0
theorem okAll_no {k i n g s p q r t a : Int} {K : Int} {j : Nat} (hj : j < 4) (h : okP K ((⟨k, i, n, g, s, p, q, r, t, a⟩ : InoV).num (5 + j)) = false) : (okP K p && okP K q && okP K r && okP K t) = false := by
  obtain rfl | rfl | rfl | rfl : j = 0 ∨ j = 1 ∨ j = 2 ∨ j = 3 := by omega
  all_goals (simp only [InoV.num] at h; simp [h])
set_option maxRecDepth 100000 in
set_option maxHeartbeats 3200000 in
theorem RIRight_any' (k i n g s p q r t a : Int) (w : World) : Calls Tryd.prog 8 #[.agg #[.int .i64 k, .int .i64 i, .int .i64 n, .int .i64 g, .int .i64 s, .int .i64 p, .int .i64 q, .int .i64 r, .int .i64 t, .int .i64 a]] w (BBel w (rightI ⟨k, i, n, g, s, p, q, r, t, a⟩)) := by
  obtain ⟨hr1, hb, hs⟩ := rows1 w [.int .i64 k, .int .i64 i, .int .i64 n, .int .i64 g, .int .i64 s, .int .i64 p, .int .i64 q, .int .i64 r, .int .i64 t, .int .i64 a] 24
  have HR1 := hide hr1
  have HB := hide hb
  have hg0 : w.heap.size < (w.alloc (.cells #[.int .i64 k, .int .i64 i, .int .i64 n, .int .i64 g, .int .i64 s, .int .i64 p, .int .i64 q, .int .i64 r, .int .i64 t, .int .i64 a] 24)).heap.size := by simp
  clear hr1 hb hs
  cases hz : decide ((⟨k, i, n, g, s, p, q, r, t, a⟩ : InoV) = ino0) with
  | true =>
    have hE := eq_zero hz
    have hR : rightI ⟨k, i, n, g, s, p, q, r, t, a⟩ = true := by simp [rightI, hz]
    rw [hR]
    clear hR hz
    go_enter Tryd.func8, Tryd.ntmps8
    go_wp2_with fail
    go_ret
    exact ⟨rfl, HB.out⟩
  | false =>
    have hE := eq_zero hz
    rw [rightR_eq _ _ _ _ _ _ _ _ _ _ (of_decide_eq_false hz)]
    clear hz
    by_cases hk : 1 ≤ k ∧ k ≤ 4
    rotate_left
    · have hR : rightR k i n g s p q r t a = false := by
        unfold rightR
        have : (decide (1 ≤ k) && decide (k ≤ 4)) = false := by simp; omega
        rw [this]; rfl
      rw [hR]
      clear hR
      by_cases h1 : k < 1
      · clear hk
        go_enter Tryd.func8, Tryd.ntmps8
        go_wp2_with fail
        go_ret
        exact ⟨rfl, HB.out⟩
      · have h4 : 4 < k := by omega
        have h1' : 1 ≤ k := by omega
        clear hk h1
        go_enter Tryd.func8, Tryd.ntmps8
        go_wp2_with fail
        go_ret
        exact ⟨rfl, HB.out⟩
    have hk1 := hk.1
    have hk4 := hk.2
    have hkd : (decide (1 ≤ k) && decide (k ≤ 4)) = true := by simp; omega
    unfold rightR
    rw [hkd, Bool.true_and]
    clear hkd hk
    cases hi : (decide (0 ≤ i) && decide (i ≤ 255)) with
    | false =>
      rw [Bool.false_and]
      go_enter Tryd.func8, Tryd.ntmps8
      go_wp2_with fail
      refine (RCount_b hi _).mono ?_
      rintro e w' ⟨rfl, rfl⟩
      go_wp2_with fail
      go_ret
      exact ⟨rfl, HB.out⟩
    | true =>
    rw [Bool.true_and]
    cases hn : (decide (0 ≤ n) && decide (n ≤ 65535)) with
    | false =>
      rw [Bool.false_and]
      go_enter Tryd.func8, Tryd.ntmps8
      go_wp2_with fail
      refine (RCount_b hi _).mono ?_
      rintro e w' ⟨rfl, rfl⟩
      go_wp2_with fail
      refine (RCount_b hn _).mono ?_
      rintro e w' ⟨rfl, rfl⟩
      go_wp2_with fail
      go_ret
      exact ⟨rfl, HB.out⟩
    | true =>
    rw [Bool.true_and]
    cases ha : (decide (0 ≤ a) && decide (a ≤ 65535)) with
    | false =>
      rw [Bool.false_and]
      go_enter Tryd.func8, Tryd.ntmps8
      go_wp2_with fail
      refine (RCount_b hi _).mono ?_
      rintro e w' ⟨rfl, rfl⟩
      go_wp2_with fail
      refine (RCount_b hn _).mono ?_
      rintro e w' ⟨rfl, rfl⟩
      go_wp2_with fail
      refine (RCount_b ha _).mono ?_
      rintro e w' ⟨rfl, rfl⟩
      go_wp2_with fail
      go_ret
      exact ⟨rfl, HB.out⟩
    | true =>
    rw [Bool.true_and]
    cases hg : (decide (0 ≤ g) && decide (g ≤ 268435455)) with
    | false =>
      rw [Bool.false_and]
      go_enter Tryd.func8, Tryd.ntmps8
      go_wp2_with fail
      refine (RCount_b hi _).mono ?_
      rintro e w' ⟨rfl, rfl⟩
      go_wp2_with fail
      refine (RCount_b hn _).mono ?_
      rintro e w' ⟨rfl, rfl⟩
      go_wp2_with fail
      refine (RCount_b ha _).mono ?_
      rintro e w' ⟨rfl, rfl⟩
      go_wp2_with fail
      refine (RCount_b hg _).mono ?_
      rintro e w' ⟨rfl, rfl⟩
      go_wp2_with fail
      go_ret
      exact ⟨rfl, HB.out⟩
    | true =>
    rw [Bool.true_and]
    cases hs : (decide (0 ≤ s) && decide (s ≤ 256)) with
    | false =>
      rw [Bool.false_and]
      go_enter Tryd.func8, Tryd.ntmps8
      go_wp2_with fail
      refine (RCount_b hi _).mono ?_
      rintro e w' ⟨rfl, rfl⟩
      go_wp2_with fail
      refine (RCount_b hn _).mono ?_
      rintro e w' ⟨rfl, rfl⟩
      go_wp2_with fail
      refine (RCount_b ha _).mono ?_
      rintro e w' ⟨rfl, rfl⟩
      go_wp2_with fail
      refine (RCount_b hg _).mono ?_
      rintro e w' ⟨rfl, rfl⟩
      go_wp2_with fail
      refine (RCount_b hs _).mono ?_
      rintro e w' ⟨rfl, rfl⟩
      go_wp2_with fail
      go_ret
      exact ⟨rfl, HB.out⟩
    | true =>
    rw [Bool.true_and]
    obtain rfl | rfl | rfl | rfl : k = 1 ∨ k = 2 ∨ k = 3 ∨ k = 4 := by omega
    · by_cases hs0 : s = 0
      · have e : (!(((1 : Int) == 1 || (1 : Int) == 4) && s != 0)) = true := by simp [hs0]
        rw [e, Bool.true_and]
        subst hs0
        clear e
        obtain ⟨B, hB⟩ : ∃ B, (okP 1 p && okP 1 q && okP 1 r && okP 1 t) = B := ⟨_, rfl⟩
        rw [hB]
        have HBB := hide hB
        clear hB
        go_enter Tryd.func8, Tryd.ntmps8
        go_wp2_with fail
        refine (RCount_b hi _).mono ?_
        rintro e w' ⟨rfl, rfl⟩
        go_wp2_with fail
        refine (RCount_b hn _).mono ?_
        rintro e w' ⟨rfl, rfl⟩
        go_wp2_with fail
        refine (RCount_b ha _).mono ?_
        rintro e w' ⟨rfl, rfl⟩
        go_wp2_with fail
        refine (RCount_b hg _).mono ?_
        rintro e w' ⟨rfl, rfl⟩
        go_wp2_with fail
        refine (RCount_b hs _).mono ?_
        rintro e w' ⟨rfl, rfl⟩
        go_wp2_with fail
        generalize (w.alloc (.cells #[.int .i64 1, .int .i64 i, .int .i64 n, .int .i64 g, .int .i64 0, .int .i64 p, .int .i64 q, .int .i64 r, .int .i64 t, .int .i64 a] 24)) = w1 at *
        have ck : w1.cell? ⟨w.heap.size, 0, none⟩ = some (.int .i64 1) := HR1.out.cell 0
        go_loop [3] (fun iv => ∃ j : Nat, j ≤ 4 ∧ iv = .int .i64 j ∧ Hid (∀ z, z < j → okP 1 ((⟨1, i, n, g, 0, p, q, r, t, a⟩ : InoV).num (5 + z)) = true)) (fun iv => 4 - (intOf iv).toNat)
        case atStart => exact ⟨0, by omega, rfl, fun i h => by omega⟩
        case round =>
          obtain ⟨j, hj, rfl, HF⟩ := hrel
          by_cases hlt : j < 4
          · have hc : w1.cell? ⟨w.heap.size, 5 + j, none⟩ = some (.int .i64 ((⟨1, i, n, g, 0, p, q, r, t, a⟩ : InoV).num (5 + j))) := (HR1.out.cell _).trans (num_cell ⟨1, i, n, g, 0, p, q, r, t, a⟩ (by omega))
            obtain ⟨u, hu⟩ : ∃ u, (⟨1, i, n, g, 0, p, q, r, t, a⟩ : InoV).num (5 + j) = u := ⟨_, rfl⟩
            rw [hu] at hc
            have HU := hide hu
            clear hu
            cases hn : (decide (0 ≤ u) && decide (u ≤ 65535)) with
            | false =>
              obtain rfl : B = false := by rw [← HBB.out]; exact okAll_no hlt (by rw [HU.out]; unfold okP; rw [hn]; rfl)
              go_wp2_with fail
              refine (RCount_b hn _).mono ?_
              rintro e w' ⟨rfl, rfl⟩
              go_wp2_with fail
              go_ret
              exact ⟨rfl, HB.out⟩
            | true =>
              have hok : okP 1 ((⟨1, i, n, g, 0, p, q, r, t, a⟩ : InoV).num (5 + j)) = true := by rw [HU.out]; unfold okP; rw [hn]; rfl
              have HOK := hide hok
              clear hok
              go_wp2_with fail
              refine (RCount_b hn _).mono ?_
              rintro e w' ⟨rfl, rfl⟩
              go_wp2_with fail
              go_round
              case rel => exact ⟨j + 1, by omega, by go_num, fun z h => by
                rcases Nat.lt_or_ge z j with h | h
                · exact HF.out z h
                · obtain rfl : z = j := by omega
                  exact HOK.out⟩
              case measure => simp [intOf]; omega
          · have hR : B = true := by
              rw [← HBB.out]
              have h0 := HF.out 0 (by omega)
              have h1 := HF.out 1 (by omega)
              have h2 := HF.out 2 (by omega)
              have h3 := HF.out 3 (by omega)
              simp only [InoV.num] at h0 h1 h2 h3
              rw [h0, h1, h2, h3]; rfl
            subst hR
            go_wp2_with fail
            go_ret
            exact ⟨rfl, HB.out⟩
      · have e : (!(((1 : Int) == 1 || (1 : Int) == 4) && s != 0)) = false := by simp [hs0]
        rw [e, Bool.false_and]
        clear e
        go_enter Tryd.func8, Tryd.ntmps8
        go_wp2_with fail
        refine (RCount_b hi _).mono ?_
        rintro e w' ⟨rfl, rfl⟩
        go_wp2_with fail
        refine (RCount_b hn _).mono ?_
        rintro e w' ⟨rfl, rfl⟩
        go_wp2_with fail
        refine (RCount_b ha _).mono ?_
        rintro e w' ⟨rfl, rfl⟩
        go_wp2_with fail
        refine (RCount_b hg _).mono ?_
        rintro e w' ⟨rfl, rfl⟩
        go_wp2_with fail
        refine (RCount_b hs _).mono ?_
        rintro e w' ⟨rfl, rfl⟩
        go_wp2_with fail
        go_ret
        exact ⟨rfl, HB.out⟩
    · have e : (!(((2 : Int) == 1 || (2 : Int) == 4) && s != 0)) = true := by simp
      rw [e, Bool.true_and]
      clear e
      obtain ⟨B, hB⟩ : ∃ B, (okP 2 p && okP 2 q && okP 2 r && okP 2 t) = B := ⟨_, rfl⟩
      rw [hB]
      have HBB := hide hB
      clear hB
      go_enter Tryd.func8, Tryd.ntmps8
      go_wp2_with fail
      refine (RCount_b hi _).mono ?_
      rintro e w' ⟨rfl, rfl⟩
      go_wp2_with fail
      refine (RCount_b hn _).mono ?_
      rintro e w' ⟨rfl, rfl⟩
      go_wp2_with fail
      refine (RCount_b ha _).mono ?_
      rintro e w' ⟨rfl, rfl⟩
      go_wp2_with fail
      refine (RCount_b hg _).mono ?_
      rintro e w' ⟨rfl, rfl⟩
      go_wp2_with fail
      refine (RCount_b hs _).mono ?_
      rintro e w' ⟨rfl, rfl⟩
      go_wp2_with fail
      generalize (w.alloc (.cells #[.int .i64 2, .int .i64 i, .int .i64 n, .int .i64 g, .int .i64 s, .int .i64 p, .int .i64 q, .int .i64 r, .int .i64 t, .int .i64 a] 24)) = w1 at *
      have ck : w1.cell? ⟨w.heap.size, 0, none⟩ = some (.int .i64 2) := HR1.out.cell 0
      go_loop [3] (fun iv => ∃ j : Nat, j ≤ 4 ∧ iv = .int .i64 j ∧ Hid (∀ z, z < j → okP 2 ((⟨2, i, n, g, s, p, q, r, t, a⟩ : InoV).num (5 + z)) = true)) (fun iv => 4 - (intOf iv).toNat)
      case atStart => exact ⟨0, by omega, rfl, fun i h => by omega⟩
      case round =>
        obtain ⟨j, hj, rfl, HF⟩ := hrel
        by_cases hlt : j < 4
        · have hc : w1.cell? ⟨w.heap.size, 5 + j, none⟩ = some (.int .i64 ((⟨2, i, n, g, s, p, q, r, t, a⟩ : InoV).num (5 + j))) := (HR1.out.cell _).trans (num_cell ⟨2, i, n, g, s, p, q, r, t, a⟩ (by omega))
          obtain ⟨u, hu⟩ : ∃ u, (⟨2, i, n, g, s, p, q, r, t, a⟩ : InoV).num (5 + j) = u := ⟨_, rfl⟩
          rw [hu] at hc
          have HU := hide hu
          clear hu
          cases hn : (decide (0 ≤ u) && decide (u ≤ 65535)) with
          | false =>
            obtain rfl : B = false := by rw [← HBB.out]; exact okAll_no hlt (by rw [HU.out]; unfold okP; rw [hn]; rfl)
            go_wp2_with fail
            refine (RCount_b hn _).mono ?_
            rintro e w' ⟨rfl, rfl⟩
            go_wp2_with fail
            go_ret
            exact ⟨rfl, HB.out⟩
          | true =>
            have hok : okP 2 ((⟨2, i, n, g, s, p, q, r, t, a⟩ : InoV).num (5 + j)) = true := by rw [HU.out]; unfold okP; rw [hn]; rfl
            have HOK := hide hok
            clear hok
            go_wp2_with fail
            refine (RCount_b hn _).mono ?_
            rintro e w' ⟨rfl, rfl⟩
            go_wp2_with fail
            go_round
            case rel => exact ⟨j + 1, by omega, by go_num, fun z h => by
              rcases Nat.lt_or_ge z j with h | h
              · exact HF.out z h
              · obtain rfl : z = j := by omega
                exact HOK.out⟩
            case measure => simp [intOf]; omega
        · have hR : B = true := by
            rw [← HBB.out]
            have h0 := HF.out 0 (by omega)
            have h1 := HF.out 1 (by omega)
            have h2 := HF.out 2 (by omega)
            have h3 := HF.out 3 (by omega)
            simp only [InoV.num] at h0 h1 h2 h3
            rw [h0, h1, h2, h3]; rfl
          subst hR
          go_wp2_with fail
          go_ret
          exact ⟨rfl, HB.out⟩
    · have e : (!(((3 : Int) == 1 || (3 : Int) == 4) && s != 0)) = true := by simp
      rw [e, Bool.true_and]
      clear e
      obtain ⟨B, hB⟩ : ∃ B, (okP 3 p && okP 3 q && okP 3 r && okP 3 t) = B := ⟨_, rfl⟩
      rw [hB]
      have HBB := hide hB
      clear hB
      go_enter Tryd.func8, Tryd.ntmps8
      go_wp2_with fail
      refine (RCount_b hi _).mono ?_
      rintro e w' ⟨rfl, rfl⟩
      go_wp2_with fail
      refine (RCount_b hn _).mono ?_
      rintro e w' ⟨rfl, rfl⟩
      go_wp2_with fail
      refine (RCount_b ha _).mono ?_
      rintro e w' ⟨rfl, rfl⟩
      go_wp2_with fail
      refine (RCount_b hg _).mono ?_
      rintro e w' ⟨rfl, rfl⟩
      go_wp2_with fail
      refine (RCount_b hs _).mono ?_
      rintro e w' ⟨rfl, rfl⟩
      go_wp2_with fail
      generalize (w.alloc (.cells #[.int .i64 3, .int .i64 i, .int .i64 n, .int .i64 g, .int .i64 s, .int .i64 p, .int .i64 q, .int .i64 r, .int .i64 t, .int .i64 a] 24)) = w1 at *
      have ck : w1.cell? ⟨w.heap.size, 0, none⟩ = some (.int .i64 3) := HR1.out.cell 0
      go_loop [3] (fun iv => ∃ j : Nat, j ≤ 4 ∧ iv = .int .i64 j ∧ Hid (∀ z, z < j → okP 3 ((⟨3, i, n, g, s, p, q, r, t, a⟩ : InoV).num (5 + z)) = true)) (fun iv => 4 - (intOf iv).toNat)
      case atStart => exact ⟨0, by omega, rfl, fun i h => by omega⟩
      case round =>
        obtain ⟨j, hj, rfl, HF⟩ := hrel
        by_cases hlt : j < 4
        · have hc : w1.cell? ⟨w.heap.size, 5 + j, none⟩ = some (.int .i64 ((⟨3, i, n, g, s, p, q, r, t, a⟩ : InoV).num (5 + j))) := (HR1.out.cell _).trans (num_cell ⟨3, i, n, g, s, p, q, r, t, a⟩ (by omega))
          obtain ⟨u, hu⟩ : ∃ u, (⟨3, i, n, g, s, p, q, r, t, a⟩ : InoV).num (5 + j) = u := ⟨_, rfl⟩
          rw [hu] at hc
          have HU := hide hu
          clear hu
          cases hn : (decide (0 ≤ u) && decide (u ≤ 65535)) with
          | false =>
            obtain rfl : B = false := by rw [← HBB.out]; exact okAll_no hlt (by rw [HU.out]; unfold okP; rw [hn]; rfl)
            go_wp2_with fail
            refine (RCount_b hn _).mono ?_
            rintro e w' ⟨rfl, rfl⟩
            go_wp2_with fail
            go_ret
            exact ⟨rfl, HB.out⟩
          | true =>
            have hok : okP 3 ((⟨3, i, n, g, s, p, q, r, t, a⟩ : InoV).num (5 + j)) = true := by rw [HU.out]; unfold okP; rw [hn]; rfl
            have HOK := hide hok
            clear hok
            go_wp2_with fail
            refine (RCount_b hn _).mono ?_
            rintro e w' ⟨rfl, rfl⟩
            go_wp2_with fail
            go_round
            case rel => exact ⟨j + 1, by omega, by go_num, fun z h => by
              rcases Nat.lt_or_ge z j with h | h
              · exact HF.out z h
              · obtain rfl : z = j := by omega
                exact HOK.out⟩
            case measure => simp [intOf]; omega
        · have hR : B = true := by
            rw [← HBB.out]
            have h0 := HF.out 0 (by omega)
            have h1 := HF.out 1 (by omega)
            have h2 := HF.out 2 (by omega)
            have h3 := HF.out 3 (by omega)
            simp only [InoV.num] at h0 h1 h2 h3
            rw [h0, h1, h2, h3]; rfl
          subst hR
          go_wp2_with fail
          go_ret
          exact ⟨rfl, HB.out⟩
    · by_cases hs0 : s = 0
      · have e : (!(((4 : Int) == 1 || (4 : Int) == 4) && s != 0)) = true := by simp [hs0]
        rw [e, Bool.true_and]
        subst hs0
        clear e
        obtain ⟨B, hB⟩ : ∃ B, (okP 4 p && okP 4 q && okP 4 r && okP 4 t) = B := ⟨_, rfl⟩
        rw [hB]
        have HBB := hide hB
        clear hB
        go_enter Tryd.func8, Tryd.ntmps8
        go_wp2_with fail
        refine (RCount_b hi _).mono ?_
        rintro e w' ⟨rfl, rfl⟩
        go_wp2_with fail
        refine (RCount_b hn _).mono ?_
        rintro e w' ⟨rfl, rfl⟩
        go_wp2_with fail
        refine (RCount_b ha _).mono ?_
        rintro e w' ⟨rfl, rfl⟩
        go_wp2_with fail
        refine (RCount_b hg _).mono ?_
        rintro e w' ⟨rfl, rfl⟩
        go_wp2_with fail
        refine (RCount_b hs _).mono ?_
        rintro e w' ⟨rfl, rfl⟩
        go_wp2_with fail
        generalize (w.alloc (.cells #[.int .i64 4, .int .i64 i, .int .i64 n, .int .i64 g, .int .i64 0, .int .i64 p, .int .i64 q, .int .i64 r, .int .i64 t, .int .i64 a] 24)) = w1 at *
        have ck : w1.cell? ⟨w.heap.size, 0, none⟩ = some (.int .i64 4) := HR1.out.cell 0
        go_loop [3] (fun iv => ∃ j : Nat, j ≤ 4 ∧ iv = .int .i64 j ∧ Hid (∀ z, z < j → okP 4 ((⟨4, i, n, g, 0, p, q, r, t, a⟩ : InoV).num (5 + z)) = true)) (fun iv => 4 - (intOf iv).toNat)
        case atStart => exact ⟨0, by omega, rfl, fun i h => by omega⟩
        case round =>
          obtain ⟨j, hj, rfl, HF⟩ := hrel
          by_cases hlt : j < 4
          · have hc : w1.cell? ⟨w.heap.size, 5 + j, none⟩ = some (.int .i64 ((⟨4, i, n, g, 0, p, q, r, t, a⟩ : InoV).num (5 + j))) := (HR1.out.cell _).trans (num_cell ⟨4, i, n, g, 0, p, q, r, t, a⟩ (by omega))
            obtain ⟨u, hu⟩ : ∃ u, (⟨4, i, n, g, 0, p, q, r, t, a⟩ : InoV).num (5 + j) = u := ⟨_, rfl⟩
            rw [hu] at hc
            have HU := hide hu
            clear hu
            cases hn : (decide (0 ≤ u) && decide (u ≤ 65535)) with
            | false =>
              obtain rfl : B = false := by rw [← HBB.out]; exact okAll_no hlt (by rw [HU.out]; unfold okP; rw [hn]; rfl)
              go_wp2_with fail
              refine (RCount_b hn _).mono ?_
              rintro e w' ⟨rfl, rfl⟩
              go_wp2_with fail
              go_ret
              exact ⟨rfl, HB.out⟩
            | true =>
              by_cases h0 : u = 0
              · have hok : okP 4 ((⟨4, i, n, g, 0, p, q, r, t, a⟩ : InoV).num (5 + j)) = true := by rw [HU.out, h0]; rfl
                have HOK := hide hok
                have hc0 : w1.cell? ⟨w.heap.size, 5 + j, none⟩ = some (.int .i64 0) := by rw [hc, h0]
                subst h0
                clear hc hok
                go_wp2_with fail
                refine (RCount_b hn _).mono ?_
                rintro e w' ⟨rfl, rfl⟩
                go_wp2_with fail
                go_round
                case rel => exact ⟨j + 1, by omega, by go_num, fun z h => by
                  rcases Nat.lt_or_ge z j with h | h
                  · exact HF.out z h
                  · obtain rfl : z = j := by omega
                    exact HOK.out⟩
                case measure => simp [intOf]; omega
              · have hne : (u != 0) = true := by simpa using h0
                obtain rfl : B = false := by rw [← HBB.out]; exact okAll_no hlt (by rw [HU.out]; unfold okP; rw [hn, hne]; rfl)
                go_wp2_with fail
                refine (RCount_b hn _).mono ?_
                rintro e w' ⟨rfl, rfl⟩
                go_wp2_with fail
                go_ret
                exact ⟨rfl, HB.out⟩
          · have hR : B = true := by
              rw [← HBB.out]
              have h0 := HF.out 0 (by omega)
              have h1 := HF.out 1 (by omega)
              have h2 := HF.out 2 (by omega)
              have h3 := HF.out 3 (by omega)
              simp only [InoV.num] at h0 h1 h2 h3
              rw [h0, h1, h2, h3]; rfl
            subst hR
            go_wp2_with fail
            go_ret
            exact ⟨rfl, HB.out⟩
      · have e : (!(((4 : Int) == 1 || (4 : Int) == 4) && s != 0)) = false := by simp [hs0]
        rw [e, Bool.false_and]
        clear e
        go_enter Tryd.func8, Tryd.ntmps8
        go_wp2_with fail
        refine (RCount_b hi _).mono ?_
        rintro e w' ⟨rfl, rfl⟩
        go_wp2_with fail
        refine (RCount_b hn _).mono ?_
        rintro e w' ⟨rfl, rfl⟩
        go_wp2_with fail
        refine (RCount_b ha _).mono ?_
        rintro e w' ⟨rfl, rfl⟩
        go_wp2_with fail
        refine (RCount_b hg _).mono ?_
        rintro e w' ⟨rfl, rfl⟩
        go_wp2_with fail
        refine (RCount_b hs _).mono ?_
        rintro e w' ⟨rfl, rfl⟩
        go_wp2_with fail
        go_ret
        exact ⟨rfl, HB.out⟩
end Go.Proofs.YtnjmddmiebofeaaDoor
