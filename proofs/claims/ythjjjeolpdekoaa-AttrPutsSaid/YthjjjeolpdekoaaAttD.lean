/- attr.within, rightOrigin, Right (layer 9). -/
import Derived.Test.YthjjjeolpdekoaaAttB
import Derived.Test.YthjjjeolpdekoaaMemQ
import Derived.Test.YthjjjeolpdekoaaPlanG
namespace Go.Proofs.Ythjjjeolpdekoaa
open Go.RowKit Plain

/-- Is a number none above a greatest one? -/
def inB (n m : Int) : Bool := decide (0 ≤ n) && decide (n ≤ m)
theorem inB_yes {n m : Int} (h : inB n m = true) : 0 ≤ n ∧ n ≤ m := by simpa [inB] using h
theorem inB_no {n m : Int} (h : inB n m = false) : n < 0 ∨ m < n := by
  simp only [inB, Bool.and_eq_false_iff, decide_eq_false_iff_not] at h
  omega
set_option maxHeartbeats 400000 in
theorem within_b {n m : Int} {b : Bool} (h : inB n m = b) (w : World) : Calls Try.prog 60 #[.int .i64 n, .int .i64 m] w fun e w' => e = .returned (.bool b) ∧ w = w' := by
  cases b with
  | true =>
    obtain ⟨h0, h1⟩ := inB_yes h
    clear h
    go_enter Try.func60, Try.ntmps60
    go_wp2
    go_ret
    exact ⟨rfl, rfl⟩
  | false =>
    rcases inB_no h with h0 | h0
    · clear h
      go_enter Try.func60, Try.ntmps60
      go_wp2
      go_ret
      exact ⟨rfl, rfl⟩
    · clear h
      by_cases h1 : 0 ≤ n
      · have hd : decide (n ≤ m) = false := by simp; omega
        go_enter Try.func60, Try.ntmps60
        go_wp2
        go_ret
        exact ⟨rfl, rfl⟩
      · have h2 : n < 0 := by omega
        clear h1 h0
        go_enter Try.func60, Try.ntmps60
        go_wp2
        go_ret
        exact ⟨rfl, rfl⟩
theorem within_any (n m : Int) (w : World) : Calls Try.prog 60 #[.int .i64 n, .int .i64 m] w fun e w' => e = .returned (.bool (inB n m)) ∧ w = w' := within_b rfl w
/-- May the origin be? -/
def oriB (l i g : Int) : Bool := inB l 255 && (inB i 65535 && inB g 268435455)
set_option maxRecDepth 100000 in
set_option maxHeartbeats 800000 in
theorem rightOrigin_b {l i g : Int} {b : Bool} (h : oriB l i g = b) (w : World) : Calls Try.prog 61 #[.agg #[.int .i64 l, .int .i64 i, .int .i64 g]] w (BoolB w b) := by
  have HB := hide (below_new (below_self w) (.cells #[.int .i64 l, .int .i64 i, .int .i64 g] 46))
  unfold oriB at h
  have HH := hide h
  clear h
  cases h1 : inB l 255
  · obtain rfl : b = false := by have h := HH.out; rw [h1] at h; exact h.symm
    go_enter Try.func61, Try.ntmps61
    go_wp2_with (go_at_call 60; refine (within_any _ _ _).mono ?_; rintro e w' ⟨rfl, rfl⟩)
    go_ret
    exact ⟨rfl, HB.out⟩
  cases h2 : inB i 65535
  · obtain rfl : b = false := by have h := HH.out; rw [h1, h2] at h; exact h.symm
    go_enter Try.func61, Try.ntmps61
    go_wp2_with (go_at_call 60; refine (within_any _ _ _).mono ?_; rintro e w' ⟨rfl, rfl⟩)
    go_ret
    exact ⟨rfl, HB.out⟩
  have h3 : inB g 268435455 = b := by have h := HH.out; rw [h1, h2] at h; exact h
  clear HH
  go_enter Try.func61, Try.ntmps61
  go_wp2_with (go_at_call 60; refine (within_any _ _ _).mono ?_; rintro e w' ⟨rfl, rfl⟩)
  go_ret
  exact ⟨rfl, HB.out⟩

set_option maxRecDepth 100000 in
set_option maxHeartbeats 800000 in
theorem neq_att {x y : AttV} {b : Bool} (h : decide (x ≠ y) = b) (w : World) : (binOp .neq 48 (.agg #[.int .i64 x.h, .int .i64 x.o, .string ⟨x.r.toArray⟩, .int .i64 x.l, .int .i64 x.i, .int .i64 x.g, .int .i64 x.s]) (.agg #[.int .i64 y.h, .int .i64 y.o, .string ⟨y.r.toArray⟩, .int .i64 y.l, .int .i64 y.i, .int .i64 y.g, .int .i64 y.s])).run Try.prog w = .ok (.bool b) w := by
  subst h
  simp only [ne_eq, AttV.ext_iff']
  by_cases hh : x.h = y.h
  rotate_left
  · simp [go_sem, eq_ori, hh]
  by_cases ho : x.o = y.o
  rotate_left
  · simp [go_sem, eq_ori, hh, ho]
  by_cases hr : x.r = y.r
  rotate_left
  · simp [go_sem, eq_ori, hh, ho, hr]
  by_cases hl : x.l = y.l
  rotate_left
  · simp [go_sem, eq_ori, hh, ho, hr, hl]
  by_cases hi : x.i = y.i
  rotate_left
  · simp [go_sem, eq_ori, hh, ho, hr, hl, hi]
  by_cases hg : x.g = y.g
  rotate_left
  · simp [go_sem, eq_ori, hh, ho, hr, hl, hi, hg]
  by_cases hs : x.s = y.s
  rotate_left
  · simp [go_sem, eq_ori, hh, ho, hr, hl, hi, hg, hs]
  simp [go_sem, eq_ori, hh, ho, hr, hl, hi, hg, hs]
theorem ori_agg : ∀ w, (isAgg 46).run Try.prog w = .ok true w := fun w => by simp [isAgg, run_underlying Try.underlying46, go_sem]
/-- Are all parts with their bits? -/
def bitsA (x : AttV) : Bool := decide (dropA x (bits .xor .i64 (-1) x.h) = x)
/-- May the attributes be? -/
def rightA (x : AttV) : Bool := inB x.h 31 && (bitsA x && (!(bitI x.h 1 && x.r == []) && (inB x.o 255 && (inB x.r.length 24 && (oriB x.l x.i x.g && inB x.s 65535)))))
set_option maxRecDepth 100000 in
set_option maxHeartbeats 400000 in
theorem ARight_b (x : AttV) (w : World) {res : Bool} (hres : rightA x = res) : Calls Try.prog 30 #[.agg #[.int .i64 x.h, .int .i64 x.o, .string ⟨x.r.toArray⟩, .int .i64 x.l, .int .i64 x.i, .int .i64 x.g, .int .i64 x.s]] w (BoolB w res) := by
  obtain ⟨hr1, hb, hsz⟩ := rows1 w [.int .i64 x.h, .int .i64 x.o, .string ⟨x.r.toArray⟩, .int .i64 x.l, .int .i64 x.i, .int .i64 x.g, .int .i64 x.s] 48
  have c0 : (w.alloc (.cells [.int .i64 x.h, .int .i64 x.o, .string ⟨x.r.toArray⟩, .int .i64 x.l, .int .i64 x.i, .int .i64 x.g, .int .i64 x.s].toArray 48)).cell? ⟨w.heap.size, 0, none⟩ = some (.int .i64 x.h) := hr1.cell 0
  have hg0 : w.heap.size < (w.alloc (.cells [.int .i64 x.h, .int .i64 x.o, .string ⟨x.r.toArray⟩, .int .i64 x.l, .int .i64 x.i, .int .i64 x.g, .int .i64 x.s].toArray 48)).heap.size := hr1.lt
  have HR1 := hide hr1
  have HB := hide hb
  clear hr1 hb hsz
  have HRES := hide hres
  clear hres
  cases h1 : inB x.h 31
  · have H1 := hide h1
    clear h1
    go_enter Try.func30, Try.ntmps30
    go_wp2_with (go_at_call 60; refine (within_b H1.out _).mono ?_; rintro e w' ⟨rfl, rfl⟩)
    go_ret
    exact BoolB.eq (by rw [← HRES.out]; unfold rightA; rw [H1.out]; rfl) HB.out
  have H1 := hide h1
  obtain ⟨hh0, hh1⟩ := inB_yes h1
  clear h1
  obtain ⟨nb, hnb⟩ : ∃ nb, bits BinOp.xor IntKind.i64 (if IntKind.i64.signed = true then -1 else 9223372036854775807) x.h = nb := ⟨_, rfl⟩
  obtain ⟨y, hy⟩ : ∃ y, dropA x nb = y := ⟨_, rfl⟩
  have HBA : Hid (bitsA x = decide (y = x)) := hide (by rw [← hy, ← hnb]; rfl)
  have HDR := hide hy
  clear hy
  go_enter Try.func30, Try.ntmps30
  go_wp2_with (go_at_call 60; refine (within_b H1.out _).mono ?_; rintro e w' ⟨rfl, rfl⟩)
  generalize (w.alloc (.cells [.int .i64 x.h, .int .i64 x.o, .string ⟨x.r.toArray⟩, .int .i64 x.l, .int .i64 x.i, .int .i64 x.g, .int .i64 x.s].toArray 48)) = w1 at *
  cases hyx : decide (y = x)
  · have hNE := neq_att (x := y) (y := x) (b := true) (by simpa using hyx)
    rw [hyx] at HBA
    clear hyx
    refine wp_region_G (fun w' => Below w1.heap.size w1 w' ∧ w'.cell? ⟨w.heap.size, 0, none⟩ = some (.int .i64 x.h)) (.take 0 (.take 1 (.take 2 (.take 3 (.take 5 (.alt 4 (.take 6 .leaf) .stop)))))) (by kernel_rfl) (by kernel_rfl) (by kernel_rfl) (by kernel_rfl) rfl (fun _ _ _ _ _ h => h) ⟨below_drew (below_self w1), c0⟩ (fun hHeld => ?_)
    simp only [PT.map, List.getElem?_toArray, List.getElem?_cons_succ, List.getElem?_cons_zero]
    refine wpPT_take (v := ?_) (by kernel_rfl) (fun wS hSw => ?_) ?_
    rotate_left
    · refine execOp_load (x := .tmp 1) (k := 7) (g := w.heap.size) (off := 0) (cs := [.int .i64 x.h, .int .i64 x.o, .string ⟨x.r.toArray⟩, .int .i64 x.l, .int .i64 x.i, .int .i64 x.g, .int .i64 x.s]) ?_ att_agg att_size ?_ (RowL.at0 (HR1.out.on hSw.1)) rfl <;> rfl
    (try simp only [Act.put, List.setIfInBounds_toArray, List.set_cons_zero, List.set_cons_succ])
    refine wpPT_take (v := ?_) (by kernel_rfl) (fun wS hSw => ?_) ?_
    rotate_left
    · (try dsimp only at hSw); go_simp; (try with_reducible rfl)
    (try simp only [Act.put, List.setIfInBounds_toArray, List.set_cons_zero, List.set_cons_succ])
    refine wpPT_take (v := ?_) (by kernel_rfl) (fun wS hSw => ?_) ?_
    rotate_left
    · (try dsimp only at hSw); go_simp; (try with_reducible rfl)
    (try simp only [Act.put, List.setIfInBounds_toArray, List.set_cons_zero, List.set_cons_succ])
    refine wpPT_take (v := ?_) (by kernel_rfl) (fun wS hSw => ?_) ?_
    rotate_left
    · (try dsimp only at hSw); go_simp; (try with_reducible rfl)
    (try simp only [Act.put, List.setIfInBounds_toArray, List.set_cons_zero, List.set_cons_succ])
    refine wpPT_take (v := ?_) (by kernel_rfl) (fun wS hSw => ?_) ?_
    rotate_left
    · refine execOp_load (x := .tmp 1) (k := 7) (g := w.heap.size) (off := 0) (cs := [.int .i64 x.h, .int .i64 x.o, .string ⟨x.r.toArray⟩, .int .i64 x.l, .int .i64 x.i, .int .i64 x.g, .int .i64 x.s]) ?_ att_agg att_size ?_ (RowL.at0 (HR1.out.on hSw.1)) rfl <;> rfl
    (try simp only [Act.put, List.setIfInBounds_toArray, List.set_cons_zero, List.set_cons_succ])
    refine wpPT_alt (by kernel_rfl) (fun K hK => ?_) ?_
    rotate_left
    · exact wpPT_stop
    have hOld := hide hHeld
    clear hHeld
    go_simp
    go_at_call 32
    refine (Drop_any x _ _ HDR.out).mono ?_
    rintro e w' ⟨rfl, hbel⟩
    refine hK.out _ _ (⟨hOld.out.1.trans (hbel.mono hOld.out.1.size), (hbel.cell (p := ⟨w.heap.size, 0, none⟩) (Nat.lt_of_lt_of_le hg0 hOld.out.1.size)).trans hOld.out.2⟩) (fun hHeld => ?_)
    clear hK K
    (try simp only [Act.put, List.setIfInBounds_toArray, List.set_cons_zero, List.set_cons_succ])
    refine wpPT_take (v := ?_) (by kernel_rfl) (fun wS hSw => ?_) ?_
    rotate_left
    · (try dsimp only at hSw); go_simp; (try with_reducible rfl)
    (try simp only [Act.put, List.setIfInBounds_toArray, List.set_cons_zero, List.set_cons_succ])
    refine wpPT_leaf ?_
    skip
    have HBF := hide (HB.out.trans (hHeld.1.mono HB.out.size))
    clear hHeld
    go_wp2_with fail
    go_ret
    exact BoolB.eq (by rw [← HRES.out]; unfold rightA; rw [H1.out, HBA.out]; rfl) HBF.out
  have hNE := neq_att (x := y) (y := x) (b := false) (by simpa using hyx)
  rw [hyx] at HBA
  clear hyx
  refine wp_region_G (fun w' => Below w1.heap.size w1 w' ∧ w'.cell? ⟨w.heap.size, 0, none⟩ = some (.int .i64 x.h)) (.take 0 (.take 1 (.take 2 (.take 3 (.take 5 (.alt 4 (.take 6 .leaf) .stop)))))) (by kernel_rfl) (by kernel_rfl) (by kernel_rfl) (by kernel_rfl) rfl (fun _ _ _ _ _ h => h) ⟨below_drew (below_self w1), c0⟩ (fun hHeld => ?_)
  simp only [PT.map, List.getElem?_toArray, List.getElem?_cons_succ, List.getElem?_cons_zero]
  refine wpPT_take (v := ?_) (by kernel_rfl) (fun wS hSw => ?_) ?_
  rotate_left
  · refine execOp_load (x := .tmp 1) (k := 7) (g := w.heap.size) (off := 0) (cs := [.int .i64 x.h, .int .i64 x.o, .string ⟨x.r.toArray⟩, .int .i64 x.l, .int .i64 x.i, .int .i64 x.g, .int .i64 x.s]) ?_ att_agg att_size ?_ (RowL.at0 (HR1.out.on hSw.1)) rfl <;> rfl
  (try simp only [Act.put, List.setIfInBounds_toArray, List.set_cons_zero, List.set_cons_succ])
  refine wpPT_take (v := ?_) (by kernel_rfl) (fun wS hSw => ?_) ?_
  rotate_left
  · (try dsimp only at hSw); go_simp; (try with_reducible rfl)
  (try simp only [Act.put, List.setIfInBounds_toArray, List.set_cons_zero, List.set_cons_succ])
  refine wpPT_take (v := ?_) (by kernel_rfl) (fun wS hSw => ?_) ?_
  rotate_left
  · (try dsimp only at hSw); go_simp; (try with_reducible rfl)
  (try simp only [Act.put, List.setIfInBounds_toArray, List.set_cons_zero, List.set_cons_succ])
  refine wpPT_take (v := ?_) (by kernel_rfl) (fun wS hSw => ?_) ?_
  rotate_left
  · (try dsimp only at hSw); go_simp; (try with_reducible rfl)
  (try simp only [Act.put, List.setIfInBounds_toArray, List.set_cons_zero, List.set_cons_succ])
  refine wpPT_take (v := ?_) (by kernel_rfl) (fun wS hSw => ?_) ?_
  rotate_left
  · refine execOp_load (x := .tmp 1) (k := 7) (g := w.heap.size) (off := 0) (cs := [.int .i64 x.h, .int .i64 x.o, .string ⟨x.r.toArray⟩, .int .i64 x.l, .int .i64 x.i, .int .i64 x.g, .int .i64 x.s]) ?_ att_agg att_size ?_ (RowL.at0 (HR1.out.on hSw.1)) rfl <;> rfl
  (try simp only [Act.put, List.setIfInBounds_toArray, List.set_cons_zero, List.set_cons_succ])
  refine wpPT_alt (by kernel_rfl) (fun K hK => ?_) ?_
  rotate_left
  · exact wpPT_stop
  have hOld := hide hHeld
  clear hHeld
  go_simp
  go_at_call 32
  refine (Drop_any x _ _ HDR.out).mono ?_
  rintro e w' ⟨rfl, hbel⟩
  refine hK.out _ _ (⟨hOld.out.1.trans (hbel.mono hOld.out.1.size), (hbel.cell (p := ⟨w.heap.size, 0, none⟩) (Nat.lt_of_lt_of_le hg0 hOld.out.1.size)).trans hOld.out.2⟩) (fun hHeld => ?_)
  clear hK K
  (try simp only [Act.put, List.setIfInBounds_toArray, List.set_cons_zero, List.set_cons_succ])
  refine wpPT_take (v := ?_) (by kernel_rfl) (fun wS hSw => ?_) ?_
  rotate_left
  · (try dsimp only at hSw); go_simp; (try with_reducible rfl)
  (try simp only [Act.put, List.setIfInBounds_toArray, List.set_cons_zero, List.set_cons_succ])
  refine wpPT_leaf ?_
  skip
  have HBF := hide (HB.out.trans (hHeld.1.mono HB.out.size))
  have HRF := hide (HR1.out.on hHeld.1)
  clear hHeld hNE hnb HDR HR1 HB c0
  have hgf : w.heap.size < w'.heap.size := HRF.out.lt
  have c0 : w'.cell? ⟨w.heap.size, 0, none⟩ = some (.int .i64 x.h) := HRF.out.cell 0
  have c1 : w'.cell? ⟨w.heap.size, 1, none⟩ = some (.int .i64 x.o) := HRF.out.cell 1
  have c2 : w'.cell? ⟨w.heap.size, 2, none⟩ = some (.string ⟨x.r.toArray⟩) := HRF.out.cell 2
  have c3 : w'.cell? ⟨w.heap.size, 3, none⟩ = some (.int .i64 x.l) := HRF.out.cell 3
  have c4 : w'.cell? ⟨w.heap.size, 4, none⟩ = some (.int .i64 x.i) := HRF.out.cell 4
  have c5 : w'.cell? ⟨w.heap.size, 5, none⟩ = some (.int .i64 x.g) := HRF.out.cell 5
  have c6 : w'.cell? ⟨w.heap.size, 6, none⟩ = some (.int .i64 x.s) := HRF.out.cell 6
  obtain ⟨q, hqq⟩ : ∃ q, (x.r == []) = q := ⟨_, rfl⟩
  have hq : x.r.isEmpty = q := by rw [← hqq]; cases x.r <;> rfl
  have HQQ := hide hqq
  clear hqq
  obtain ⟨b1, hb1⟩ : ∃ c, bitI x.h 1 = c := ⟨_, rfl⟩
  have hb2 : (bits BinOp.and IntKind.i64 x.h 2 != 0) = b1 := hb1
  have HB1 := hide hb1
  clear hb1
  cases b1
  · skip
    cases hi1 : inB x.o 255
    · go_wp2_with (go_at_call 60; refine (within_any _ _ _).mono ?_; rintro e w' ⟨rfl, rfl⟩)
      go_ret
      exact BoolB.eq (by rw [← HRES.out]; unfold rightA; rw [H1.out, HBA.out, HB1.out, hi1]; rfl) HBF.out
    cases hi2 : inB x.r.length 24
    · go_wp2_with (go_at_call 60; refine (within_any _ _ _).mono ?_; rintro e w' ⟨rfl, rfl⟩)
      go_ret
      exact BoolB.eq (by rw [← HRES.out]; unfold rightA; rw [H1.out, HBA.out, HB1.out, hi1, hi2]; rfl) HBF.out
    cases hi3 : oriB x.l x.i x.g
    · have HORI := hide hi3
      clear hi3
      go_wp2_with (go_at_call 60; refine (within_any _ _ _).mono ?_; rintro e w' ⟨rfl, rfl⟩)
      refine (rightOrigin_b HORI.out _).mono ?_
      rintro e w3 ⟨rfl, hbel⟩
      have HB3 := hide (below_step HBF.out hbel)
      have c6' : w3.cell? ⟨w.heap.size, 6, none⟩ = some (.int .i64 x.s) := (HRF.out.on hbel).cell 6
      have hg3 : w.heap.size < w3.heap.size := (HRF.out.on hbel).lt
      clear hbel
      go_wp2_with (go_at_call 60; refine (within_any _ _ _).mono ?_; rintro e w' ⟨rfl, rfl⟩)
      go_ret
      exact BoolB.eq (by rw [← HRES.out]; unfold rightA; rw [H1.out, HBA.out, HB1.out, hi1, hi2, HORI.out]; rfl) HB3.out
    have HORI := hide hi3
    clear hi3
    obtain ⟨b6, hi4⟩ : ∃ c, inB x.s 65535 = c := ⟨_, rfl⟩
    go_wp2_with (go_at_call 60; refine (within_any _ _ _).mono ?_; rintro e w' ⟨rfl, rfl⟩)
    refine (rightOrigin_b HORI.out _).mono ?_
    rintro e w3 ⟨rfl, hbel⟩
    have HB3 := hide (below_step HBF.out hbel)
    have c6' : w3.cell? ⟨w.heap.size, 6, none⟩ = some (.int .i64 x.s) := (HRF.out.on hbel).cell 6
    have hg3 : w.heap.size < w3.heap.size := (HRF.out.on hbel).lt
    clear hbel
    go_wp2_with (go_at_call 60; refine (within_any _ _ _).mono ?_; rintro e w' ⟨rfl, rfl⟩)
    go_ret
    exact BoolB.eq (by rw [← HRES.out]; unfold rightA; rw [H1.out, HBA.out, HB1.out, hi1, hi2, HORI.out, hi4]; rfl) HB3.out
  cases q
  · skip
    cases hi1 : inB x.o 255
    · go_wp2_with (go_at_call 60; refine (within_any _ _ _).mono ?_; rintro e w' ⟨rfl, rfl⟩)
      go_ret
      exact BoolB.eq (by rw [← HRES.out]; unfold rightA; rw [H1.out, HBA.out, HB1.out, HQQ.out, hi1]; rfl) HBF.out
    cases hi2 : inB x.r.length 24
    · go_wp2_with (go_at_call 60; refine (within_any _ _ _).mono ?_; rintro e w' ⟨rfl, rfl⟩)
      go_ret
      exact BoolB.eq (by rw [← HRES.out]; unfold rightA; rw [H1.out, HBA.out, HB1.out, HQQ.out, hi1, hi2]; rfl) HBF.out
    cases hi3 : oriB x.l x.i x.g
    · have HORI := hide hi3
      clear hi3
      go_wp2_with (go_at_call 60; refine (within_any _ _ _).mono ?_; rintro e w' ⟨rfl, rfl⟩)
      refine (rightOrigin_b HORI.out _).mono ?_
      rintro e w3 ⟨rfl, hbel⟩
      have HB3 := hide (below_step HBF.out hbel)
      have c6' : w3.cell? ⟨w.heap.size, 6, none⟩ = some (.int .i64 x.s) := (HRF.out.on hbel).cell 6
      have hg3 : w.heap.size < w3.heap.size := (HRF.out.on hbel).lt
      clear hbel
      go_wp2_with (go_at_call 60; refine (within_any _ _ _).mono ?_; rintro e w' ⟨rfl, rfl⟩)
      go_ret
      exact BoolB.eq (by rw [← HRES.out]; unfold rightA; rw [H1.out, HBA.out, HB1.out, HQQ.out, hi1, hi2, HORI.out]; rfl) HB3.out
    have HORI := hide hi3
    clear hi3
    obtain ⟨b6, hi4⟩ : ∃ c, inB x.s 65535 = c := ⟨_, rfl⟩
    go_wp2_with (go_at_call 60; refine (within_any _ _ _).mono ?_; rintro e w' ⟨rfl, rfl⟩)
    refine (rightOrigin_b HORI.out _).mono ?_
    rintro e w3 ⟨rfl, hbel⟩
    have HB3 := hide (below_step HBF.out hbel)
    have c6' : w3.cell? ⟨w.heap.size, 6, none⟩ = some (.int .i64 x.s) := (HRF.out.on hbel).cell 6
    have hg3 : w.heap.size < w3.heap.size := (HRF.out.on hbel).lt
    clear hbel
    go_wp2_with (go_at_call 60; refine (within_any _ _ _).mono ?_; rintro e w' ⟨rfl, rfl⟩)
    go_ret
    exact BoolB.eq (by rw [← HRES.out]; unfold rightA; rw [H1.out, HBA.out, HB1.out, HQQ.out, hi1, hi2, HORI.out, hi4]; rfl) HB3.out
  · go_wp2_with fail
    go_ret
    exact BoolB.eq (by rw [← HRES.out]; unfold rightA; rw [H1.out, HBA.out, HB1.out, HQQ.out]; rfl) HBF.out
theorem ARight_any (x : AttV) (w : World) : Calls Try.prog 30 #[.agg #[.int .i64 x.h, .int .i64 x.o, .string ⟨x.r.toArray⟩, .int .i64 x.l, .int .i64 x.i, .int .i64 x.g, .int .i64 x.s]] w (BoolB w (rightA x)) := ARight_b x w rfl
end Go.Proofs.Ythjjjeolpdekoaa
