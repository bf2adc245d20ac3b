/- claim: slices.Equal of pairs; few inodes; the law's awake (layer 11). -/
import Derived.Test.YtnllbdigpnopoaaClaL
namespace Go.Proofs.Ytnllbdigpnopoaa
open Go.RowKit Go.Shelf Plain

/-- A slice that reads as pairs. -/
def PRd (w : World) (A : Option Addr) (n : Nat) (L : List Nat) : Prop := L.length = n ∧ (0 < n → ∃ b o, A = some ⟨b, o, none⟩ ∧ b < w.heap.size ∧ ∀ i q, L[i]? = some q → ∀ j v, (pairC q)[j]? = some v → w.cell? ⟨b, o + i * 2 + j, none⟩ = some v)
theorem PRd.of_own {w : World} {base n c : Nat} {A : Option Addr} {L : List Nat} (h : w.ownsRow base 30 2 (.slice A n c) n (flatB L)) : PRd w A n L := by
  have hl := h.1
  rw [flatB_len] at hl
  refine ⟨by omega, fun hn => ?_⟩
  rcases h.2 with ⟨_, h0⟩ | ⟨g, cap, cur, he, _, hg, _⟩
  · omega
  · simp only [Value.slice.injEq] at he
    obtain ⟨rfl, _, rfl⟩ := he
    refine ⟨g, 0, rfl, (Array.getElem?_eq_some_iff.1 hg).1, fun i q hi j v hv => ?_⟩
    have hi' := (List.getElem?_eq_some_iff.1 hi).1
    have hj : j < 2 := by have := (List.getElem?_eq_some_iff.1 hv).1; simpa [pairC] using this
    rw [Nat.zero_add]
    exact (h.cellAt (g := g) (i * 2 + j) (by omega)).trans ((flatB_get hi hj).trans hv)
theorem PRd.lit (w : World) (t : Nat) {cs : List Value} {L : List Nat} {n : Nat} (h : cs = flatB L) (hn : L.length = n) : PRd (w.alloc (.cells cs.toArray t)) (some ⟨w.heap.size, 0, none⟩) n L := by
  subst hn h
  refine ⟨rfl, fun _ => ⟨_, _, rfl, by simp, fun i q hi j v hv => ?_⟩⟩
  have hj : j < 2 := by have := (List.getElem?_eq_some_iff.1 hv).1; simpa [pairC] using this
  rw [Nat.zero_add, (RowL.new w t (flatB L)).cell]
  exact (flatB_get hi hj).trans hv
theorem PRd.on {w w' : World} {A : Option Addr} {n : Nat} {L : List Nat} (h : PRd w A n L) (hb : Below w.heap.size w w') : PRd w' A n L := ⟨h.1, fun hn => by
  obtain ⟨b, o, e, hlt, hc⟩ := h.2 hn
  exact ⟨b, o, e, Nat.lt_of_lt_of_le hlt hb.size, fun i q hi j v hv => (hb.cell (p := ⟨b, _, none⟩) hlt).trans (hc i q hi j v hv)⟩⟩
theorem pair_agg : ∀ w, (isAgg 30).run Try.prog w = .ok true w := fun w => by kernel_rfl
theorem pair_size : ∀ w, (Go.sizeOf 30).run Try.prog w = .ok 2 w := fun w => by kernel_rfl
theorem neq_pair (a b : Int) (W : World) : (binOp .neq 30 (.agg #[.int .i64 a, .int .i64 b]) (.agg #[.int .i64 a, .int .i64 b])).run Try.prog W = .ok (.bool false) W := by
  obtain ⟨i, hi⟩ : ∃ i, Try.prog.info? 3 = some i := ⟨_, rfl⟩
  have hc : Try.prog.cellsOf 3 = 1 := by kernel_rfl
  have h : (Op.equalIn 10000 30 (.agg #[.int .i64 a, .int .i64 b]) (.agg #[.int .i64 a, .int .i64 b])).run Try.prog W = .ok true W := by
    rw [run_equalIn_array W 9999 _ _ Try.underlying30 hi, hc, show List.range 2 = [0, 1] from rfl]
    simp [Op.eqItems, go_sem]
  simp [go_sem, h]
theorem pair2 (q : Nat) : ∃ a b, pairC q = [.int .i64 a, .int .i64 b] := ⟨_, _, rfl⟩
set_option maxHeartbeats 800000 in
theorem EqualP_same {A B : Option Addr} {n m c d : Nat} {L : List Nat} (w : World) (ha : PRd w A n L) (hb : PRd w B m L) (hn : n ≤ 140737488355328) :
    Calls Try.prog 11 #[.slice A n c, .slice B m d] w (BoolB w true) := by
  obtain rfl : n = m := by rw [← ha.1, ← hb.1]
  have HA := hide ha
  have HB := hide hb
  clear ha hb
  have hd : ((n : Int) != (n : Int)) = false := by simp
  go_enter Try.func11, Try.ntmps11
  go_wp2
  go_loopw [13] (fun i wr => ∃ j q : Nat, j ≤ n ∧ i = .int .i64 j ∧ wr = w.drewN q) (fun i _ => n - (intOf i).toNat)
  case atStart => exact ⟨0, 0, by omega, rfl, rfl⟩
  case round =>
    obtain ⟨j, q, hj, rfl, rfl⟩ := hrel
    by_cases hlt : j < n
    · have hl1 : j < L.length := by rw [HA.out.1]; exact hlt
      obtain ⟨b1, o1, rfl, -, hc1⟩ := HA.out.2 (by omega)
      obtain ⟨b2, o2, rfl, -, hc2⟩ := HB.out.2 (by omega)
      have hc1 := hc1 j _ (List.getElem?_eq_getElem hl1)
      have hc2 := hc2 j _ (List.getElem?_eq_getElem hl1)
      generalize L[j] = y at hc1 hc2
      obtain ⟨ya, yb, hy⟩ := pair2 y
      rw [hy] at hc1 hc2
      have hL1 : ∀ q, (Instr.loadAt 30 (.pointer (some ⟨b1, o1 + j * 2, none⟩))).run Try.prog (w.drewN q) = .ok (.agg #[.int .i64 ya, .int .i64 yb]) (w.drewN q) := fun q => run_loadAt_cells (w := w.drewN q) pair_agg pair_size hc1 rfl
      have hL2 : ∀ q, (Instr.loadAt 30 (.pointer (some ⟨b2, o2 + j * 2, none⟩))).run Try.prog (w.drewN q) = .ok (.agg #[.int .i64 ya, .int .i64 yb]) (w.drewN q) := fun q => run_loadAt_cells (w := w.drewN q) pair_agg pair_size hc2 rfl
      have hne := fun W => neq_pair ya yb W
      clear hc1 hc2 hy hl1
      go_wp2
      refine wp_region_quiet_lit (by kernel_rfl) (by kernel_rfl) ?_
      iterate 3 (quiet_step (fail))
      refine Go.BigFrame.wpQuiet_want rfl (fun K hK => ?_)
      refine quietL 30 (.tmp 18) rfl _ _ rfl (by rintro _ ⟨n', rfl⟩; rw [World.drewN_drewN]; exact hL1 _) (hK _ ?_)
      clear hK K
      iterate 3 (quiet_step (fail))
      refine Go.BigFrame.wpQuiet_want rfl (fun K hK => ?_)
      refine quietL 30 (.tmp 22) rfl _ _ rfl (by rintro _ ⟨n', rfl⟩; rw [World.drewN_drewN]; exact hL2 _) (hK _ ?_)
      clear hK K
      iterate 1 (quiet_step (fail))
      refine wpQuiet_nil ?_
      rintro _ ⟨nq, rfl⟩
      go_wp2
      go_roundw
      case rel => exact ⟨j + 1, _, by omega, by go_num, rfl⟩
      case measure => simp [intOf]; omega
    · obtain rfl : j = n := by omega
      go_wp2
      go_ret
      exact BoolB.of (below_drewN (below_self w) _)
theorem few_any {A : Option Addr} {n c : Nat} {b : Bool} (w : World) (hb : decide (n ≤ 30) = b) : Calls Try.prog 5 #[.slice A n c] w (fun e w' => e = .returned (.bool b) ∧ w = w') := by
  have hd : decide ((n : Int) ≤ 30) = b := by rw [← hb]; simp; omega
  cases b
  · have hh : ¬ (n : Int) ≤ 30 := by simpa using hd
    go_enter Try.func5, Try.ntmps5
    go_wp2
    go_ret
    exact ⟨rfl, rfl⟩
  · have hh : (n : Int) ≤ 30 := by simpa using hd
    go_enter Try.func5, Try.ntmps5
    go_wp2
    go_ret
    exact ⟨rfl, rfl⟩
/-- Inodes laid as a literal. -/
theorem ino_lit (w : World) (t : Nat) (l : List InoV) (hwf : ∀ x ∈ l, x.wf) {n : Nat} (hn : l.length = n) : RdE inoEn (w.alloc (.cells (l.map inoC).flatten.toArray t)) (Under (w.heap.size + 1)) (some ⟨w.heap.size, 0, none⟩) n l := by
  subst hn
  refine ⟨rfl, fun _ => ⟨_, _, rfl, by unfold Under; omega, fun i x hx => ⟨inoC x, ⟨rfl, hwf x (List.mem_of_getElem? hx)⟩, fun j v hv => ?_⟩⟩⟩
  have hj : j < 10 := by have := (List.getElem?_eq_some_iff.1 hv).1; simpa [inoC] using this
  rw [Nat.zero_add, (RowL.new w t (l.map inoC).flatten).cell]
  have := flat_get (k := 10) (css := l.map inoC) (fun cs hc => by obtain ⟨y, _, rfl⟩ := List.mem_map.1 hc; rfl) (i := i) (j := j) (cs := inoC x) (by rw [List.getElem?_map, hx]; rfl) hj
  exact this.trans hv
instance (b : Int) : Decidable (w64 b) := by unfold w64; infer_instance
instance (x : InoV) : Decidable x.wf := by unfold InoV.wf; infer_instance
def awA : List InoV := [⟨0, 0, 0, 0, 0, 1, 9, 0, 0, 0⟩, ⟨0, 0, 0, 0, 0, 0, 1, 0, 0, 2⟩]
theorem aw1 : ownQ (flatP awA) 3 1 = some 9 := by decide +kernel
theorem aw2 : validS awA 3 1 0 = true := by decide +kernel
theorem aw3 : validS awA 3 2 1 = false := by decide +kernel
theorem aw4 : badQ (flatP awA) 3 (5 * 2) = [1, 6] := by decide +kernel
theorem aw5 : usedS (flatP awA) 3 = [true, true, false] := by decide +kernel
set_option maxRecDepth 100000 in
set_option maxHeartbeats 1000000 in
theorem awake11_any (w : World) : Calls Try.prog 6 #[] w (LawOk w) := by
  go_enter Try.func6, Try.ntmps6
  go_wp2_with fail
  have H1 := hide (ino_lit w 39 awA (by decide) rfl)
  refine (Owner_any (A := some ⟨w.heap.size, 0, none⟩) (n := 2) (c := 2) (l := awA) (m := 3) (b := 1) _ (H1.out.mono (fun _ _ => rfl) (fun b hb => by unfold Under at hb ⊢; rw [World.size_alloc]; exact hb)) (by omega) (by unfold w64; omega) (by unfold w64; omega)).mono ?_
  rintro e w1 ⟨rfl, hb1⟩
  rw [aw1, show ownV (some 9) = .tuple #[.int .i64 2, .int .i64 4, .bool true] from rfl]
  have hl1 := (H1.out.mono (D' := Under (w.alloc (.cells (awA.map inoC).flatten.toArray 39)).heap.size) (fun _ _ => rfl) (fun b hb => by unfold Under at hb ⊢; rw [World.size_alloc]; exact hb)).on hb1
  have HL1 := hide hl1
  have HB1 := hide (below_step (below_new (below_self w) _) hb1)
  clear hl1 hb1 H1
  go_wp2_with fail
  refine (Valid_any (A := some ⟨w.heap.size, 0, none⟩) (n := 2) (c := 2) (l := awA) (m := 3) (ino := 1) (k := 0) _ HL1.out (by omega) (by unfold w64; omega)).mono ?_
  rintro e w2 ⟨rfl, hb2⟩
  rw [aw2]
  have HL2 := hide (HL1.out.on hb2)
  have HB2 := hide (below_step HB1.out hb2)
  clear hb2 HL1 HB1
  go_wp2_with fail
  refine (Valid_any (A := some ⟨w.heap.size, 0, none⟩) (n := 2) (c := 2) (l := awA) (m := 3) (ino := 2) (k := 1) _ HL2.out (by omega) (by unfold w64; omega)).mono ?_
  rintro e w3 ⟨rfl, hb3⟩
  rw [aw3]
  have HL3 := hide (HL2.out.on hb3)
  have HB3 := hide (below_step HB2.out hb3)
  clear hb3 HL2 HB2
  go_wp2_with fail
  refine (Bad_any (A := some ⟨w.heap.size, 0, none⟩) (n := 2) (c := 2) (l := awA) (m := 3) _ HL3.out (by omega)).mono ?_
  rintro e w4 ⟨A4, n4, c4, rfl, ho4, hb4⟩
  rw [aw4] at ho4
  have HP4 := hide (PRd.of_own ho4)
  have HL4 := hide (HL3.out.on hb4)
  have HB4 := hide (below_step HB3.out hb4)
  have hn4 : n4 = 2 := by have := (PRd.of_own ho4).1; simpa using this.symm
  clear hb4 HL3 HB3 ho4
  subst hn4
  go_wp2_with fail
  have HQ4 := hide (HP4.out.on (below_new (below_self w4) (.cells #[.int .i64 1, .int .i64 1, .int .i64 2, .int .i64 1] 30)))
  have HK4 := hide (PRd.lit w4 30 (cs := [.int .i64 1, .int .i64 1, .int .i64 2, .int .i64 1]) (L := [1, 6]) rfl rfl)
  refine (EqualP_same (L := [1, 6]) _ HQ4.out HK4.out (by omega)).mono ?_
  rintro e w5 ⟨rfl, hb5⟩
  have hb5' := below_step (below_new (below_self w4) (.cells #[.int .i64 1, .int .i64 1, .int .i64 2, .int .i64 1] 30)) hb5
  have HL5 := hide (HL4.out.on hb5')
  have HB5 := hide (below_step HB4.out hb5')
  clear hb5 hb5' HL4 HB4 HP4 HQ4 HK4
  go_wp2_with fail
  refine (Used_any (A := some ⟨w.heap.size, 0, none⟩) (n := 2) (c := 2) (l := awA) (m := 3) _ HL5.out (by omega)).mono ?_
  rintro e w6 ⟨A6, c6, rfl, ho6, hb6⟩
  rw [aw5] at ho6 ⊢
  have HO6 := hide ho6
  have HB6 := hide (below_step HB5.out hb6)
  clear hb6 HL5 HB5 ho6
  rw [show ([true, true, false] : List Bool).length = 3 from rfl] at HO6 ⊢
  go_wp2_with fail
  have HE6 := hide (HO6.out.alloc (.cells #[.bool true, .bool true, .bool false] 4))
  refine (EqualB_any (l := [true, true, false]) (k := [true, true, false]) _ HE6.out.rd (Rd.lit w6 4 (cs := [.bool true, .bool true, .bool false]) rfl rfl) (by omega)).mono ?_
  rintro e w7 ⟨rfl, hb7⟩
  have HB7 := hide (below_step (below_step HB6.out (below_new (below_self w6) (.cells #[.bool true, .bool true, .bool false] 4))) hb7)
  clear hb7 HB6 HO6 HE6
  rw [show (([true, true, false] : List Bool) == [true, true, false]) = true from rfl]
  go_wp2_with fail
  go_ret
  exact LawOk.of HB7.out
end Go.Proofs.Ytnllbdigpnopoaa
