/- inode.Right (layer 7). -/
import Derived.Test.YtnjmddmiebofeaaDoorInoC
namespace Go.Proofs.YtnjmddmiebofeaaDoor
open Go.RowKit Plain

/-- An inode's numbers, by their places. -/
def InoV.num (x : InoV) (j : Nat) : Int := match j with
  | 0 => x.k
  | 1 => x.i
  | 2 => x.n
  | 3 => x.g
  | 4 => x.s
  | 5 => x.p
  | 6 => x.q
  | 7 => x.r
  | 8 => x.t
  | 9 => x.a
  | _ => 0
theorem num_cell (x : InoV) {j : Nat} (h : j < 10) : ([.int .i64 x.k, .int .i64 x.i, .int .i64 x.n, .int .i64 x.g, .int .i64 x.s, .int .i64 x.p, .int .i64 x.q, .int .i64 x.r, .int .i64 x.t, .int .i64 x.a] : List Value)[j]? = some (.int .i64 (x.num j)) := by
  obtain rfl | rfl | rfl | rfl | rfl | rfl | rfl | rfl | rfl | rfl : j = 0 ∨ j = 1 ∨ j = 2 ∨ j = 3 ∨ j = 4 ∨ j = 5 ∨ j = 6 ∨ j = 7 ∨ j = 8 ∨ j = 9 := by omega
  all_goals rfl
theorem num_index (x : InoV) {j : Nat} (h : j < 10) (w : World) : (Instr.index 37 (.agg #[.int .i64 x.k, .int .i64 x.i, .int .i64 x.n, .int .i64 x.g, .int .i64 x.s, .int .i64 x.p, .int .i64 x.q, .int .i64 x.r, .int .i64 x.t, .int .i64 x.a]) (.int .i64 j)).run Tryd.prog w = .ok (.int .i64 (x.num j)) w := by
  obtain rfl | rfl | rfl | rfl | rfl | rfl | rfl | rfl | rfl | rfl : j = 0 ∨ j = 1 ∨ j = 2 ∨ j = 3 ∨ j = 4 ∨ j = 5 ∨ j = 6 ∨ j = 7 ∨ j = 8 ∨ j = 9 := by omega
  all_goals simp [Instr.index, run_underlying Tryd.underlying37, asIntOf, go_sem, InoV.num]
/-- May its numbers be? -/
def fitsN (x m : InoV) (j : Nat) : Bool := decide (0 ≤ x.num j) && decide (x.num j ≤ m.num j)
def fitsI (x : InoV) : Bool := (List.range 10).all (fitsN x (mostI x.k))
/-- May the inode be? -/
def rightI (x : InoV) : Bool := decide (x = ino0) || (decide (1 ≤ x.k) && decide (x.k ≤ 4)) && fitsI x
theorem fitsI_yes {x : InoV} (h : ∀ j, j < 10 → fitsN x (mostI x.k) j = true) : fitsI x = true := by
  unfold fitsI
  rw [List.all_eq_true]
  intro j hj
  exact h j (List.mem_range.1 hj)
theorem fitsI_no {x : InoV} {j : Nat} (hj : j < 10) (h : fitsN x (mostI x.k) j = false) : fitsI x = false := by
  cases hf : fitsI x with
  | false => rfl
  | true =>
    unfold fitsI at hf
    rw [List.all_eq_true] at hf
    rw [hf j (List.mem_range.2 hj)] at h
    cases h
def BBel (w : World) (b : Bool) (x : Ending) (w' : World) : Prop := x = .returned (.bool b) ∧ Below w.heap.size w w'

theorem greatest_any {k : Int} {m : InoV} (h1 : 1 ≤ k) (h4 : k ≤ 4) (hm : mostI k = m) (w : World) : Calls Tryd.prog 19 #[.int .i64 k] w (VRet w (.agg #[.int .i64 m.k, .int .i64 m.i, .int .i64 m.n, .int .i64 m.g, .int .i64 m.s, .int .i64 m.p, .int .i64 m.q, .int .i64 m.r, .int .i64 m.t, .int .i64 m.a])) := by
  subst hm
  obtain rfl | rfl | rfl | rfl : k = 1 ∨ k = 2 ∨ k = 3 ∨ k = 4 := by omega
  · exact greatest_1 w
  · exact greatest_2 w
  · exact greatest_3 w
  · exact greatest_4 w

set_option maxRecDepth 100000 in
set_option maxHeartbeats 1600000 in
theorem IRight_any (x : InoV) (w : World) : Calls Tryd.prog 7 #[.agg #[.int .i64 x.k, .int .i64 x.i, .int .i64 x.n, .int .i64 x.g, .int .i64 x.s, .int .i64 x.p, .int .i64 x.q, .int .i64 x.r, .int .i64 x.t, .int .i64 x.a]] w (BBel w (rightI x)) := by
  obtain ⟨hr1, hb, hs⟩ := rows1 w [.int .i64 x.k, .int .i64 x.i, .int .i64 x.n, .int .i64 x.g, .int .i64 x.s, .int .i64 x.p, .int .i64 x.q, .int .i64 x.r, .int .i64 x.t, .int .i64 x.a] 24
  have HR1 := hide hr1
  have HB := hide hb
  have HS := hide hs
  clear hr1 hb hs
  cases hz : decide (x = ino0) with
  | true =>
    have hE := eq_zero hz
    have hR : rightI x = true := by simp [rightI, hz]
    rw [hR]
    clear hR hz
    go_enter Tryd.func7, Tryd.ntmps7
    go_wp2_with fail
    go_ret
    exact ⟨rfl, HB.out⟩
  | false =>
    have hE := eq_zero hz
    have HZ := hide hz
    clear hz
    cases hk : (decide (1 ≤ x.k) && decide (x.k ≤ 4)) with
    | false =>
      have hR : rightI x = false := by simp [rightI, HZ.out, hk]
      rw [hR]
      clear hR
      by_cases h1 : 1 ≤ x.k
      · have h4 : 4 < x.k := by simp [h1] at hk; exact hk
        clear hk
        go_enter Tryd.func7, Tryd.ntmps7
        go_wp2_with fail
        go_ret
        exact ⟨rfl, HB.out⟩
      · have h0 : x.k < 1 := by omega
        clear hk h1
        go_enter Tryd.func7, Tryd.ntmps7
        go_wp2_with fail
        go_ret
        exact ⟨rfl, HB.out⟩
    | true =>
      have hk' : 1 ≤ x.k ∧ x.k ≤ 4 := by simpa using hk
      obtain ⟨h1, h4⟩ := hk'
      have hR : rightI x = fitsI x := by simp [rightI, HZ.out, hk]
      rw [hR]
      clear hR hk
      obtain ⟨m, hm⟩ : ∃ m, mostI x.k = m := ⟨_, rfl⟩
      have HM := hide hm
      clear hm
      go_enter Tryd.func7, Tryd.ntmps7
      go_wp2_with fail
      refine (greatest_any h1 h4 HM.out _).mono ?_
      rintro e w2 ⟨rfl, hbel⟩
      have HB2 := hide (below_step HB.out hbel)
      have HR2 := hide (HR1.out.on hbel)
      clear hbel
      go_wp2_with fail
      refine (apart_any _ _ _ _ _ _ _ _ _ _ _).mono ?_
      rintro e w3 ⟨rfl, hbel⟩
      have HB3 := hide (below_step HB2.out hbel)
      have HR3 := hide (HR2.out.on hbel)
      clear hbel HB2 HR2
      have c0 : w3.cell? ⟨w.heap.size, 0, none⟩ = some (.int .i64 x.k) := HR3.out.cell 0
      have c1 : w3.cell? ⟨w.heap.size, 1, none⟩ = some (.int .i64 x.i) := HR3.out.cell 1
      have c2 : w3.cell? ⟨w.heap.size, 2, none⟩ = some (.int .i64 x.n) := HR3.out.cell 2
      have c3 : w3.cell? ⟨w.heap.size, 3, none⟩ = some (.int .i64 x.g) := HR3.out.cell 3
      have c4 : w3.cell? ⟨w.heap.size, 4, none⟩ = some (.int .i64 x.s) := HR3.out.cell 4
      have c5 : w3.cell? ⟨w.heap.size, 5, none⟩ = some (.int .i64 x.p) := HR3.out.cell 5
      have c6 : w3.cell? ⟨w.heap.size, 6, none⟩ = some (.int .i64 x.q) := HR3.out.cell 6
      have c7 : w3.cell? ⟨w.heap.size, 7, none⟩ = some (.int .i64 x.r) := HR3.out.cell 7
      have c8 : w3.cell? ⟨w.heap.size, 8, none⟩ = some (.int .i64 x.t) := HR3.out.cell 8
      have c9 : w3.cell? ⟨w.heap.size, 9, none⟩ = some (.int .i64 x.a) := HR3.out.cell 9
      have hg0 : w.heap.size < w3.heap.size := HR3.out.lt
      have hr4 : RowL (w3.alloc (.cells #[.int .i64 m.k, .int .i64 m.i, .int .i64 m.n, .int .i64 m.g, .int .i64 m.s, .int .i64 m.p, .int .i64 m.q, .int .i64 m.r, .int .i64 m.t, .int .i64 m.a] 37)) w3.heap.size 37 [.int .i64 m.k, .int .i64 m.i, .int .i64 m.n, .int .i64 m.g, .int .i64 m.s, .int .i64 m.p, .int .i64 m.q, .int .i64 m.r, .int .i64 m.t, .int .i64 m.a] := RowL.new w3 37 [.int .i64 m.k, .int .i64 m.i, .int .i64 m.n, .int .i64 m.g, .int .i64 m.s, .int .i64 m.p, .int .i64 m.q, .int .i64 m.r, .int .i64 m.t, .int .i64 m.a]
      have HR4 := hide hr4
      have HB4 := hide (below_new HB3.out (.cells #[.int .i64 m.k, .int .i64 m.i, .int .i64 m.n, .int .i64 m.g, .int .i64 m.s, .int .i64 m.p, .int .i64 m.q, .int .i64 m.r, .int .i64 m.t, .int .i64 m.a] 37))
      clear hr4
      go_wp2_with fail
      refine (apart_any _ _ _ _ _ _ _ _ _ _ _).mono ?_
      rintro e w5 ⟨rfl, hbel⟩
      have HB5 := hide (below_step HB4.out hbel)
      have HR5 := hide (HR4.out.on hbel)
      clear hbel HB3 HR3 HB4 HR4 c0 c1 c2 c3 c4 c5 c6 c7 c8 c9
      have hg3 : w3.heap.size < w5.heap.size := HR5.out.lt
      go_wp2_with fail
      generalize w3.heap.size = g3 at *
      go_loop [23] (fun iv => ∃ j : Nat, j ≤ 10 ∧ iv = .int .i64 j ∧ Hid (∀ i, i < j → fitsN x m i = true)) (fun iv => 10 - (intOf iv).toNat)
      case atStart => exact ⟨0, by omega, rfl, fun i h => by omega⟩
      case round =>
        obtain ⟨j, hj, rfl, HF⟩ := hrel
        by_cases hlt : j < 10
        · have hi := num_index x hlt
          have hc : w5.cell? ⟨g3, j, none⟩ = some (.int .i64 (m.num j)) := by rw [HR5.out.cell, num_cell m hlt]
          obtain ⟨u, hu⟩ : ∃ u, x.num j = u := ⟨_, rfl⟩
          obtain ⟨v, hv⟩ : ∃ v, m.num j = v := ⟨_, rfl⟩
          rw [hu] at hi
          rw [hv] at hc
          have HU := hide hu
          have HV := hide hv
          clear hu hv
          by_cases h0 : u < 0
          · have hR : fitsI x = false := fitsI_no hlt (by rw [HM.out]; simp only [fitsN, HU.out, HV.out]; simp; omega)
            rw [hR]
            clear hR
            go_wp2_with fail
            go_ret
            exact ⟨rfl, HB5.out⟩
          · by_cases hm : v < u
            · have hR : fitsI x = false := fitsI_no hlt (by rw [HM.out]; simp only [fitsN, HU.out, HV.out]; simp; omega)
              rw [hR]
              clear hR
              have hu0 : 0 ≤ u := by omega
              clear h0
              go_wp2_with fail
              go_ret
              exact ⟨rfl, HB5.out⟩
            · have hu0 : 0 ≤ u := by omega
              have hle : u ≤ v := by omega
              clear h0 hm
              go_wp2_with fail
              go_round
              case rel => exact ⟨j + 1, by omega, by go_num, fun i h => by
                rcases Nat.lt_or_ge i j with h | h
                · exact HF.out i h
                · obtain rfl : i = j := by omega
                  simp only [fitsN, HU.out, HV.out]; simp; omega⟩
              case measure => simp [intOf]; omega
        · have hR : fitsI x = true := fitsI_yes (by rw [HM.out]; intro i hi; exact HF.out i (by omega))
          have HFI := hide hR
          clear hR
          go_wp2_with fail
          go_ret
          exact ⟨by rw [HFI.out]; rfl, HB5.out⟩
end Go.Proofs.YtnjmddmiebofeaaDoor
