/- inode.Put (layer 7). -/
import Derived.Test.YtnjmddmiebofeaaDoorInoD
import Derived.Test.YtnjmddmiebofeaaDoorSumF
import Derived.Test.YtnjmddmiebofeaaDoorNumG
namespace Go.Proofs.YtnjmddmiebofeaaDoor
open Go.RowKit Plain

/-- How many bytes each number takes. -/
def sz0 : InoV := ⟨1, 1, 2, 4, 2, 2, 2, 2, 2, 2⟩
/-- The package's table of them lies in the memory's first block. -/
def SzW (w : World) : Prop := ∀ j, j < 10 → w.cell? ⟨0, j, none⟩ = some (.int .i64 (sz0.num j))
theorem SzW.lt {w : World} (h : SzW w) : 0 < w.heap.size := block_lt_of_cell (h 0 (by omega))
theorem SzW.below {w w' : World} (h : SzW w) (hb : Below w.heap.size w w') : SzW w' := fun j hj => (hb.cell (p := ⟨0, j, none⟩) h.lt).trans (h j hj)
theorem sz_isz {j : Nat} (h : j < 10) : 1 ≤ sz0.num j ∧ sz0.num j ≤ 4 := by
  obtain rfl | rfl | rfl | rfl | rfl | rfl | rfl | rfl | rfl | rfl : j = 0 ∨ j = 1 ∨ j = 2 ∨ j = 3 ∨ j = 4 ∨ j = 5 ∨ j = 6 ∨ j = 7 ∨ j = 8 ∨ j = 9 := by omega
  all_goals simp [sz0, InoV.num]
/-- The bytes of the first j numbers. -/
def bodyI (x : InoV) : Nat → List UInt8
  | 0 => []
  | j + 1 => putS (bodyI x j) (x.num j) (sz0.num j)
theorem putS_le (l : List UInt8) (n s : Int) : (putS l n s).length ≤ l.length + 4 := by
  cases h : fits n s with
  | false => rw [putS_no h]; omega
  | true =>
    rw [putS_yes h, List.length_append, nb_length]
    rcases isz_cases (fits_parts h).1 with rfl | rfl | rfl <;> simp
theorem bodyI_le (x : InoV) (j : Nat) : (bodyI x j).length ≤ 4 * j := by
  induction j with
  | zero => simp [bodyI]
  | succ j ih => have := putS_le (bodyI x j) (x.num j) (sz0.num j); show (putS (bodyI x j) _ _).length ≤ _; omega
/-- An inode's sector, and the error. -/
def putI (x : InoV) : List UInt8 := if rightI x = true then (if x = ino0 then zeros 64 else sealS (bodyI x 10)) else []
def errI (x : InoV) : Int := if rightI x = true then 0 else 1
theorem ino0_right : rightI ino0 = true := by simp [rightI]
theorem putI_len (x : InoV) (h : rightI x = true) : (putI x).length = 64 := by
  unfold putI
  rw [if_pos h]
  split
  · exact zeros_length 64
  · exact sealS_length _

set_option maxRecDepth 100000 in
set_option maxHeartbeats 1600000 in
theorem IPut_any (x : InoV) (w : World) (hs : SzW w) : Calls Tryd.prog 5 #[.agg #[.int .i64 x.k, .int .i64 x.i, .int .i64 x.n, .int .i64 x.g, .int .i64 x.s, .int .i64 x.p, .int .i64 x.q, .int .i64 x.r, .int .i64 x.t, .int .i64 x.a]] w (BERet w 5 (putI x) (errI x)) := by
  obtain ⟨hr1, hb, hsz⟩ := rows1 w [.int .i64 x.k, .int .i64 x.i, .int .i64 x.n, .int .i64 x.g, .int .i64 x.s, .int .i64 x.p, .int .i64 x.q, .int .i64 x.r, .int .i64 x.t, .int .i64 x.a] 24
  have HR1 := hide hr1
  have HB := hide hb
  have HS := hide hs
  clear hr1 hb hs hsz
  cases hr : rightI x with
  | false =>
    have e1 : putI x = [] := by simp [putI, hr]
    have e2 : errI x = 1 := by simp [errI, hr]
    rw [e1, e2]
    have HR := hide hr
    clear hr e1 e2
    go_enter Tryd.func5, Tryd.ntmps5
    go_wp2_with fail
    refine (IRight_any x _).mono ?_
    rintro e w2 ⟨rfl, hbel⟩
    rw [HR.out]
    have HB2 := hide (below_step HB.out hbel)
    clear hbel
    go_wp2_with fail
    go_ret2
    exact ⟨_, _, _, rfl, Own.nil_ _ _ _, HB2.out⟩
  | true =>
    have e2 : errI x = 0 := by simp [errI, hr]
    rw [e2]
    have HR := hide hr
    clear e2
    cases hz : decide (x = ino0) with
    | true =>
      have hE := eq_zero hz
      have hx : x = ino0 := of_decide_eq_true hz
      have e1 : putI x = zeros 64 := by unfold putI; rw [if_pos hr, if_pos hx]
      obtain ⟨Z, hZ, hzl⟩ := make64
      rw [e1]
      have HZL := hide hzl
      clear hz hx e1 hr hzl
      go_enter Tryd.func5, Tryd.ntmps5
      go_wp2_with fail
      refine (IRight_any x _).mono ?_
      rintro e w2 ⟨rfl, hbel⟩
      rw [HR.out]
      have HB2 := hide (below_step HB.out hbel)
      have hr2 := HR1.out.on hbel
      have c0 : w2.cell? ⟨w.heap.size, 0, none⟩ = some (.int .i64 x.k) := hr2.cell 0
      have c1 : w2.cell? ⟨w.heap.size, 1, none⟩ = some (.int .i64 x.i) := hr2.cell 1
      have c2 : w2.cell? ⟨w.heap.size, 2, none⟩ = some (.int .i64 x.n) := hr2.cell 2
      have c3 : w2.cell? ⟨w.heap.size, 3, none⟩ = some (.int .i64 x.g) := hr2.cell 3
      have c4 : w2.cell? ⟨w.heap.size, 4, none⟩ = some (.int .i64 x.s) := hr2.cell 4
      have c5 : w2.cell? ⟨w.heap.size, 5, none⟩ = some (.int .i64 x.p) := hr2.cell 5
      have c6 : w2.cell? ⟨w.heap.size, 6, none⟩ = some (.int .i64 x.q) := hr2.cell 6
      have c7 : w2.cell? ⟨w.heap.size, 7, none⟩ = some (.int .i64 x.r) := hr2.cell 7
      have c8 : w2.cell? ⟨w.heap.size, 8, none⟩ = some (.int .i64 x.t) := hr2.cell 8
      have c9 : w2.cell? ⟨w.heap.size, 9, none⟩ = some (.int .i64 x.a) := hr2.cell 9
      have hg0 : w.heap.size < w2.heap.size := hr2.lt
      clear hbel hr2
      go_wp2_with fail
      go_ret2
      refine ⟨_, _, _, rfl, Own.rebase (Own.lit w2 5 (cs := Z.toList) HZL.out (zeros_length 64) (by omega)) HB2.out.size, below_new HB2.out _⟩
    | false =>
      have hE := eq_zero hz
      have e1 : putI x = sealS (bodyI x 10) := by unfold putI; rw [if_pos hr, if_neg (of_decide_eq_false hz)]
      rw [e1]
      clear e1 hz hr
      go_enter Tryd.func5, Tryd.ntmps5
      go_wp2_with fail
      refine (IRight_any x _).mono ?_
      rintro e w2 ⟨rfl, hbel⟩
      rw [HR.out]
      have HB2 := hide (below_step HB.out hbel)
      have HR2 := hide (HR1.out.on hbel)
      have HS2 := hide (HS.out.below (below_step HB.out hbel))
      have c0 : w2.cell? ⟨w.heap.size, 0, none⟩ = some (.int .i64 x.k) := HR2.out.cell 0
      have c1 : w2.cell? ⟨w.heap.size, 1, none⟩ = some (.int .i64 x.i) := HR2.out.cell 1
      have c2 : w2.cell? ⟨w.heap.size, 2, none⟩ = some (.int .i64 x.n) := HR2.out.cell 2
      have c3 : w2.cell? ⟨w.heap.size, 3, none⟩ = some (.int .i64 x.g) := HR2.out.cell 3
      have c4 : w2.cell? ⟨w.heap.size, 4, none⟩ = some (.int .i64 x.s) := HR2.out.cell 4
      have c5 : w2.cell? ⟨w.heap.size, 5, none⟩ = some (.int .i64 x.p) := HR2.out.cell 5
      have c6 : w2.cell? ⟨w.heap.size, 6, none⟩ = some (.int .i64 x.q) := HR2.out.cell 6
      have c7 : w2.cell? ⟨w.heap.size, 7, none⟩ = some (.int .i64 x.r) := HR2.out.cell 7
      have c8 : w2.cell? ⟨w.heap.size, 8, none⟩ = some (.int .i64 x.t) := HR2.out.cell 8
      have c9 : w2.cell? ⟨w.heap.size, 9, none⟩ = some (.int .i64 x.a) := HR2.out.cell 9
      have hg0 : w.heap.size < w2.heap.size := HR2.out.lt
      clear hbel HB
      go_wp2_with fail
      refine (apart_any _ _ _ _ _ _ _ _ _ _ _).mono ?_
      rintro e w3 ⟨rfl, hbel⟩
      have HB3 := hide (below_step HB2.out hbel)
      have HS3 := hide (HS2.out.below hbel)
      clear hbel HB2 HS2 HR2 c0 c1 c2 c3 c4 c5 c6 c7 c8 c9 hg0
      go_wp2_with fail
      go_loopw [4, 16] (fun v iv wr => ∃ (j : Nat) (A : Option Addr) (m c : Nat), j ≤ 10 ∧ iv = .int .i64 j ∧ v = .slice A m c ∧ Own wr w.heap.size 5 A m c (bodyI x j) ∧ Below w.heap.size w wr ∧ SzW wr) (fun _ iv _ => 10 - (intOf iv).toNat)
      case atStart => exact ⟨0, none, 0, 0, by omega, rfl, rfl, Own.nil_ _ _ _, HB3.out, HS3.out⟩
      case round =>
        obtain ⟨j, A, m, c, hj, rfl, rfl, hown, hbel, hsw⟩ := hrel
        have hml : m ≤ 40 := by have h1 := hown.len; have h2 := bodyI_le x j; omega
        have HO := hide hown
        have HBj := hide hbel
        have HSj := hide hsw
        clear hown hbel hsw HB3 HS3
        by_cases hlt : j < 10
        · have hi := num_index x hlt
          have hc : wr.cell? ⟨0, j, none⟩ = some (.int .i64 (sz0.num j)) := HSj.out j hlt
          obtain ⟨u, hu⟩ : ∃ u, x.num j = u := ⟨_, rfl⟩
          obtain ⟨v, hv⟩ : ∃ v, sz0.num j = v := ⟨_, rfl⟩
          rw [hu] at hi
          rw [hv] at hc
          have HU := hide hu
          have HV := hide hv
          clear hu hv
          go_wp2_with fail
          refine (Put_any _ HO.out.bs (by omega)).mono ?_
          rintro e w4 ⟨A4, c4, rfl, hown, hbel⟩
          have HO4 := hide (hown.rebase HBj.out.size)
          have HB4 := hide (below_step HBj.out hbel)
          have HS4 := hide (HSj.out.below hbel)
          clear hown hbel
          go_wp2_with fail
          go_roundw
          case rel => exact ⟨j + 1, _, _, _, by omega, by go_num, rfl, by show Own _ _ _ _ _ _ (putS (bodyI x j) (x.num j) (sz0.num j)); rw [HU.out, HV.out]; exact HO4.out, HB4.out, HS4.out⟩
          case measure => simp [intOf]; omega
        · obtain rfl : j = 10 := by omega
          go_wp2_with fail
          refine (Seal_any _ HO.out.bs).mono ?_
          rintro e w4 ⟨A4, c4, rfl, hown, hbel⟩
          have HO4 := hide (hown.rebase HBj.out.size)
          have HB4 := hide (below_step HBj.out hbel)
          clear hown hbel
          go_wp2_with fail
          go_ret2
          exact ⟨_, _, _, rfl, HO4.out, HB4.out⟩
end Go.Proofs.YtnjmddmiebofeaaDoor
