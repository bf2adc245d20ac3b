/- The law AttrDrops (layer 9): its walk. -/
import Derived.Test.YthjjjeolpdekoaaAttL
import Derived.Test.YthjjjeolpdekoaaAttC
import Derived.Test.YthjjjeolpdekoaaAttG
import Derived.Test.YthjjjeolpdekoaaPlanG
namespace Go.Proofs.Ythjjjeolpdekoaa
open Go.RowKit Plain

set_option maxRecDepth 100000 in
set_option maxHeartbeats 3200000 in
theorem law_AttrDrops (x : AttV) (n : Nat) (hn : n < 256) (w : World) (hl : x.r.length ≤ 9223372036854775807) : Calls Try.prog 6 #[.agg #[.int .i64 x.h, .int .i64 x.o, .string ⟨x.r.toArray⟩, .int .i64 x.l, .int .i64 x.i, .int .i64 x.g, .int .i64 x.s], .int .u8 n] w (LawOk w) := by
  obtain ⟨hr1, hb, hsz⟩ := rows1 w [.int .i64 x.h, .int .i64 x.o, .string ⟨x.r.toArray⟩, .int .i64 x.l, .int .i64 x.i, .int .i64 x.g, .int .i64 x.s] 48
  have HRA := hide hr1
  have HB := hide hb
  clear hr1 hb hsz
  by_cases h1 : 100 < x.r.length
  · skip
    go_enter Try.func6, Try.ntmps6
    go_wp2_with fail
    refine (awake9_any _).mono ?_
    rintro e w1 ⟨rfl, hbel⟩
    have HB1 := hide (below_step HB.out hbel)
    clear hbel
    go_wp2_with fail
    go_ret
    exact LawOk.of HB1.out
  by_cases h2 : x.h < 0
  · skip
    go_enter Try.func6, Try.ntmps6
    go_wp2_with fail
    refine (awake9_any _).mono ?_
    rintro e w1 ⟨rfl, hbel⟩
    have HB1 := hide (below_step HB.out hbel)
    clear hbel
    go_wp2_with fail
    go_ret
    exact LawOk.of HB1.out
  by_cases h3 : 31 < x.h
  · have h2' : 0 ≤ x.h := by omega
    clear h2
    go_enter Try.func6, Try.ntmps6
    go_wp2_with fail
    refine (awake9_any _).mono ?_
    rintro e w1 ⟨rfl, hbel⟩
    have HB1 := hide (below_step HB.out hbel)
    clear hbel
    go_wp2_with fail
    go_ret
    exact LawOk.of HB1.out
  have hh0 : 0 ≤ x.h := by omega
  have hh1 : x.h ≤ 31 := by omega
  clear h2 h3
  obtain ⟨y, hy⟩ : ∃ y, dropA x n = y := ⟨_, rfl⟩
  have HDD := hide (show dropA y n = y by rw [← hy]; exact drop_drop hh0 hh1 hn)
  have HRT := hide (show rightA x = true → rightA y = true by intro h; rw [← hy]; exact drop_right h hn)
  have HDR := hide hy
  have hE := eq_att (x := y) (y := y) (b := true) (by simp)
  clear hy
  go_enter Try.func6, Try.ntmps6
  go_wp2_with fail
  refine (Drop_any x n _ HDR.out).mono ?_
  rintro e w2 ⟨rfl, hbel⟩
  obtain ⟨hr4, hb4, hs4⟩ := rows1 w2 [.int .i64 y.h, .int .i64 y.o, .string ⟨y.r.toArray⟩, .int .i64 y.l, .int .i64 y.i, .int .i64 y.g, .int .i64 y.s] 48
  have hbb := hbel.trans (hb4.mono hbel.size)
  have HRA2 := hide (HRA.out.on hbb)
  have HRY := hide hr4
  have HB4 := hide (below_step HB.out hbb)
  clear hbel hr4 hb4 hs4 hbb HRA HB
  have HRA := HRA2
  clear HRA2
  go_wp2_with fail
  generalize (w2.alloc (.cells #[.int .i64 y.h, .int .i64 y.o, .string ⟨y.r.toArray⟩, .int .i64 y.l, .int .i64 y.i, .int .i64 y.g, .int .i64 y.s] 48)) = w3 at *
  generalize w2.heap.size = g3 at *
  have hwn : IntKind.i64.wrap (n : Int) = (n : Int) := IntWalk.i64_in _ (by omega)
  cases hxr : rightA x
  · have HXR := hide hxr
    clear hxr
    refine wp_region_G (fun w' => Below w3.heap.size w3 w') (.take 0 (.take 1 (.take 2 (.take 3 (.alt 4 (.take 5 (.take 6 (.take 7 (.alt 8 (.take 9 (.take 10 (.take 11 (.alt 12 (.take 13 (.take 14 (.take 15 (.take 16 (.take 17 (.take 18 (.take 20 (.alt 19 (.take 21 (.take 22 (.take 23 (.alt 24 (.take 25 (.take 26 .leaf)) .stop)))) .stop)))))))) .stop)))) .stop)))) .stop))))) (by kernel_rfl) (by kernel_rfl) (by kernel_rfl) (by kernel_rfl) rfl (fun _ _ _ _ _ h => h) (below_drew (below_self w3)) (fun hHeld => ?_)
    simp only [PT.map, List.getElem?_toArray, List.getElem?_cons_succ, List.getElem?_cons_zero]
    refine wpPT_take (v := ?_) (by kernel_rfl) (fun wS hSw => ?_) ?_
    rotate_left
    · refine execOp_load (x := .tmp 5) (k := 7) (g := g3) (off := 0) (cs := [.int .i64 y.h, .int .i64 y.o, .string ⟨y.r.toArray⟩, .int .i64 y.l, .int .i64 y.i, .int .i64 y.g, .int .i64 y.s]) ?_ att_agg att_size ?_ (RowL.at0 (HRY.out.on hSw)) rfl <;> rfl
    (try simp only [Act.put, List.setIfInBounds_toArray, List.set_cons_zero, List.set_cons_succ])
    refine wpPT_take (v := ?_) (by kernel_rfl) (fun wS hSw => ?_) ?_
    rotate_left
    · refine execOp_load (x := .tmp 2) (k := 7) (g := w.heap.size) (off := 0) (cs := [.int .i64 x.h, .int .i64 x.o, .string ⟨x.r.toArray⟩, .int .i64 x.l, .int .i64 x.i, .int .i64 x.g, .int .i64 x.s]) ?_ att_agg att_size ?_ (RowL.at0 (HRA.out.on hSw)) rfl <;> rfl
    (try simp only [Act.put, List.setIfInBounds_toArray, List.set_cons_zero, List.set_cons_succ])
    refine wpPT_take (v := ?_) (by kernel_rfl) (fun wS hSw => ?_) ?_
    rotate_left
    · (try dsimp only at hSw); go_simp; (try with_reducible rfl)
    (try simp only [Act.put, List.setIfInBounds_toArray, List.set_cons_zero, List.set_cons_succ])
    refine wpPT_take (v := ?_) (by kernel_rfl) (fun wS hSw => ?_) ?_
    rotate_left
    · (try dsimp only at hSw); go_simp; (try with_reducible rfl)
    (try simp only [Act.put, List.setIfInBounds_toArray, List.set_cons_zero, List.set_cons_succ])
    refine wpPT_alt (by kernel_rfl) (fun K hK => ?_) ?_
    rotate_left
    · exact wpPT_stop
    have hOld := hide hHeld
    clear hHeld
    go_simp
    go_at_call 33
    refine (RDrop_any x n hn _ HDR.out).mono ?_
    rintro e w' ⟨rfl, hbel⟩
    refine hK.out _ _ (hOld.out.trans (hbel.mono hOld.out.size)) (fun hHeld => ?_)
    clear hK K
    (try simp only [Act.put, List.setIfInBounds_toArray, List.set_cons_zero, List.set_cons_succ])
    refine wpPT_take (v := ?_) (by kernel_rfl) (fun wS hSw => ?_) ?_
    rotate_left
    · (try dsimp only at hSw); go_simp; (try with_reducible rfl)
    (try simp only [Act.put, List.setIfInBounds_toArray, List.set_cons_zero, List.set_cons_succ])
    refine wpPT_take (v := ?_) (by kernel_rfl) (fun wS hSw => ?_) ?_
    rotate_left
    · (try dsimp only at hSw); go_simp; (try with_reducible rfl)
    (try simp only [Act.put, List.setIfInBounds_toArray, List.set_cons_zero, List.set_cons_succ])
    refine wpPT_take (v := ?_) (by kernel_rfl) (fun wS hSw => ?_) ?_
    rotate_left
    · refine execOp_load (x := .tmp 2) (k := 7) (g := w.heap.size) (off := 0) (cs := [.int .i64 x.h, .int .i64 x.o, .string ⟨x.r.toArray⟩, .int .i64 x.l, .int .i64 x.i, .int .i64 x.g, .int .i64 x.s]) ?_ att_agg att_size ?_ (RowL.at0 (HRA.out.on hSw)) rfl <;> rfl
    (try simp only [Act.put, List.setIfInBounds_toArray, List.set_cons_zero, List.set_cons_succ])
    refine wpPT_alt (by kernel_rfl) (fun K hK => ?_) ?_
    rotate_left
    · exact wpPT_stop
    have hOld := hide hHeld
    clear hHeld
    go_simp
    go_at_call 30
    refine (ARight_b x _ HXR.out).mono ?_
    rintro e w' ⟨rfl, hbel⟩
    refine hK.out _ _ (hOld.out.trans (hbel.mono hOld.out.size)) (fun hHeld => ?_)
    clear hK K
    (try simp only [Act.put, List.setIfInBounds_toArray, List.set_cons_zero, List.set_cons_succ])
    refine wpPT_take (v := ?_) (by kernel_rfl) (fun wS hSw => ?_) ?_
    rotate_left
    · (try dsimp only at hSw); go_simp; (try with_reducible rfl)
    (try simp only [Act.put, List.setIfInBounds_toArray, List.set_cons_zero, List.set_cons_succ])
    refine wpPT_take (v := ?_) (by kernel_rfl) (fun wS hSw => ?_) ?_
    rotate_left
    · (try dsimp only at hSw); go_simp; (try with_reducible rfl)
    (try simp only [Act.put, List.setIfInBounds_toArray, List.set_cons_zero, List.set_cons_succ])
    refine wpPT_skip (by kernel_rfl) ?_
    (try simp only [Act.put, List.setIfInBounds_toArray, List.set_cons_zero, List.set_cons_succ])
    refine wpPT_altskip (by kernel_rfl) ?_ ?_
    · (try simp only [Act.put, List.setIfInBounds_toArray, List.set_cons_zero, List.set_cons_succ])
      refine wpPT_take (v := ?_) (by kernel_rfl) (fun wS hSw => ?_) ?_
      rotate_left
      · (try dsimp only at hSw); go_simp; (try with_reducible rfl)
      (try simp only [Act.put, List.setIfInBounds_toArray, List.set_cons_zero, List.set_cons_succ])
      refine wpPT_take (v := ?_) (by kernel_rfl) (fun wS hSw => ?_) ?_
      rotate_left
      · (try dsimp only at hSw); go_simp; (try with_reducible rfl)
      (try simp only [Act.put, List.setIfInBounds_toArray, List.set_cons_zero, List.set_cons_succ])
      refine wpPT_take (v := ?_) (by kernel_rfl) (fun wS hSw => ?_) ?_
      rotate_left
      · (try dsimp only at hSw); go_simp; (try with_reducible rfl)
      (try simp only [Act.put, List.setIfInBounds_toArray, List.set_cons_zero, List.set_cons_succ])
      refine wpPT_take (v := ?_) (by kernel_rfl) (fun wS hSw => ?_) ?_
      rotate_left
      · refine execOp_load (x := .tmp 5) (k := 7) (g := g3) (off := 0) (cs := [.int .i64 y.h, .int .i64 y.o, .string ⟨y.r.toArray⟩, .int .i64 y.l, .int .i64 y.i, .int .i64 y.g, .int .i64 y.s]) ?_ att_agg att_size ?_ (RowL.at0 (HRY.out.on hSw)) rfl <;> rfl
      (try simp only [Act.put, List.setIfInBounds_toArray, List.set_cons_zero, List.set_cons_succ])
      refine wpPT_take (v := ?_) (by kernel_rfl) (fun wS hSw => ?_) ?_
      rotate_left
      · (try dsimp only at hSw); go_simp; (try with_reducible rfl)
      (try simp only [Act.put, List.setIfInBounds_toArray, List.set_cons_zero, List.set_cons_succ])
      refine wpPT_take (v := ?_) (by kernel_rfl) (fun wS hSw => ?_) ?_
      rotate_left
      · (try dsimp only at hSw); go_simp; (try with_reducible rfl)
      (try simp only [Act.put, List.setIfInBounds_toArray, List.set_cons_zero, List.set_cons_succ])
      refine wpPT_take (v := ?_) (by kernel_rfl) (fun wS hSw => ?_) ?_
      rotate_left
      · refine execOp_load (x := .tmp 5) (k := 7) (g := g3) (off := 0) (cs := [.int .i64 y.h, .int .i64 y.o, .string ⟨y.r.toArray⟩, .int .i64 y.l, .int .i64 y.i, .int .i64 y.g, .int .i64 y.s]) ?_ att_agg att_size ?_ (RowL.at0 (HRY.out.on hSw)) rfl <;> rfl
      (try simp only [Act.put, List.setIfInBounds_toArray, List.set_cons_zero, List.set_cons_succ])
      refine wpPT_alt (by kernel_rfl) (fun K hK => ?_) ?_
      rotate_left
      · exact wpPT_stop
      have hOld := hide hHeld
      clear hHeld
      go_simp
      go_at_call 32
      refine (Drop_any y n _ HDD.out).mono ?_
      rintro e w' ⟨rfl, hbel⟩
      refine hK.out _ _ (hOld.out.trans (hbel.mono hOld.out.size)) (fun hHeld => ?_)
      clear hK K
      (try simp only [Act.put, List.setIfInBounds_toArray, List.set_cons_zero, List.set_cons_succ])
      refine wpPT_take (v := ?_) (by kernel_rfl) (fun wS hSw => ?_) ?_
      rotate_left
      · (try dsimp only at hSw); go_simp; (try with_reducible rfl)
      (try simp only [Act.put, List.setIfInBounds_toArray, List.set_cons_zero, List.set_cons_succ])
      refine wpPT_take (v := ?_) (by kernel_rfl) (fun wS hSw => ?_) ?_
      rotate_left
      · (try dsimp only at hSw); go_simp; (try with_reducible rfl)
      (try simp only [Act.put, List.setIfInBounds_toArray, List.set_cons_zero, List.set_cons_succ])
      refine wpPT_take (v := ?_) (by kernel_rfl) (fun wS hSw => ?_) ?_
      rotate_left
      · (try dsimp only at hSw); go_simp; (try with_reducible rfl)
      (try simp only [Act.put, List.setIfInBounds_toArray, List.set_cons_zero, List.set_cons_succ])
      refine wpPT_alt (by kernel_rfl) (fun K hK => ?_) ?_
      rotate_left
      · exact wpPT_stop
      have hOld := hide hHeld
      clear hHeld
      go_simp
      go_at_call 25
      refine (awake9_any _).mono ?_
      rintro e w' ⟨rfl, hbel⟩
      refine hK.out _ _ (hOld.out.trans (hbel.mono hOld.out.size)) (fun hHeld => ?_)
      clear hK K
      (try simp only [Act.put, List.setIfInBounds_toArray, List.set_cons_zero, List.set_cons_succ])
      refine wpPT_take (v := ?_) (by kernel_rfl) (fun wS hSw => ?_) ?_
      rotate_left
      · (try dsimp only at hSw); go_simp; (try with_reducible rfl)
      (try simp only [Act.put, List.setIfInBounds_toArray, List.set_cons_zero, List.set_cons_succ])
      refine wpPT_take (v := ?_) (by kernel_rfl) (fun wS hSw => ?_) ?_
      rotate_left
      · (try dsimp only at hSw); go_simp; (try with_reducible rfl)
      (try simp only [Act.put, List.setIfInBounds_toArray, List.set_cons_zero, List.set_cons_succ])
      refine wpPT_leaf ?_
      go_wp2_with fail
      go_ret
      exact LawOk.of (HB4.out.trans (hHeld.mono HB4.out.size))
    exact wpPT_stop
  · have HYR := hide (HRT.out hxr)
    have HXR := hide hxr
    clear hxr
    refine wp_region_G (fun w' => Below w3.heap.size w3 w') (.take 0 (.take 1 (.take 2 (.take 3 (.alt 4 (.take 5 (.take 6 (.take 7 (.alt 8 (.take 9 (.take 10 (.take 11 (.alt 12 (.take 13 (.take 14 (.take 15 (.take 16 (.take 17 (.take 18 (.take 20 (.alt 19 (.take 21 (.take 22 (.take 23 (.alt 24 (.take 25 (.take 26 .leaf)) .stop)))) .stop)))))))) .stop)))) .stop)))) .stop))))) (by kernel_rfl) (by kernel_rfl) (by kernel_rfl) (by kernel_rfl) rfl (fun _ _ _ _ _ h => h) (below_drew (below_self w3)) (fun hHeld => ?_)
    simp only [PT.map, List.getElem?_toArray, List.getElem?_cons_succ, List.getElem?_cons_zero]
    refine wpPT_take (v := ?_) (by kernel_rfl) (fun wS hSw => ?_) ?_
    rotate_left
    · refine execOp_load (x := .tmp 5) (k := 7) (g := g3) (off := 0) (cs := [.int .i64 y.h, .int .i64 y.o, .string ⟨y.r.toArray⟩, .int .i64 y.l, .int .i64 y.i, .int .i64 y.g, .int .i64 y.s]) ?_ att_agg att_size ?_ (RowL.at0 (HRY.out.on hSw)) rfl <;> rfl
    (try simp only [Act.put, List.setIfInBounds_toArray, List.set_cons_zero, List.set_cons_succ])
    refine wpPT_take (v := ?_) (by kernel_rfl) (fun wS hSw => ?_) ?_
    rotate_left
    · refine execOp_load (x := .tmp 2) (k := 7) (g := w.heap.size) (off := 0) (cs := [.int .i64 x.h, .int .i64 x.o, .string ⟨x.r.toArray⟩, .int .i64 x.l, .int .i64 x.i, .int .i64 x.g, .int .i64 x.s]) ?_ att_agg att_size ?_ (RowL.at0 (HRA.out.on hSw)) rfl <;> rfl
    (try simp only [Act.put, List.setIfInBounds_toArray, List.set_cons_zero, List.set_cons_succ])
    refine wpPT_take (v := ?_) (by kernel_rfl) (fun wS hSw => ?_) ?_
    rotate_left
    · (try dsimp only at hSw); go_simp; (try with_reducible rfl)
    (try simp only [Act.put, List.setIfInBounds_toArray, List.set_cons_zero, List.set_cons_succ])
    refine wpPT_take (v := ?_) (by kernel_rfl) (fun wS hSw => ?_) ?_
    rotate_left
    · (try dsimp only at hSw); go_simp; (try with_reducible rfl)
    (try simp only [Act.put, List.setIfInBounds_toArray, List.set_cons_zero, List.set_cons_succ])
    refine wpPT_alt (by kernel_rfl) (fun K hK => ?_) ?_
    rotate_left
    · exact wpPT_stop
    have hOld := hide hHeld
    clear hHeld
    go_simp
    go_at_call 33
    refine (RDrop_any x n hn _ HDR.out).mono ?_
    rintro e w' ⟨rfl, hbel⟩
    refine hK.out _ _ (hOld.out.trans (hbel.mono hOld.out.size)) (fun hHeld => ?_)
    clear hK K
    (try simp only [Act.put, List.setIfInBounds_toArray, List.set_cons_zero, List.set_cons_succ])
    refine wpPT_take (v := ?_) (by kernel_rfl) (fun wS hSw => ?_) ?_
    rotate_left
    · (try dsimp only at hSw); go_simp; (try with_reducible rfl)
    (try simp only [Act.put, List.setIfInBounds_toArray, List.set_cons_zero, List.set_cons_succ])
    refine wpPT_take (v := ?_) (by kernel_rfl) (fun wS hSw => ?_) ?_
    rotate_left
    · (try dsimp only at hSw); go_simp; (try with_reducible rfl)
    (try simp only [Act.put, List.setIfInBounds_toArray, List.set_cons_zero, List.set_cons_succ])
    refine wpPT_take (v := ?_) (by kernel_rfl) (fun wS hSw => ?_) ?_
    rotate_left
    · refine execOp_load (x := .tmp 2) (k := 7) (g := w.heap.size) (off := 0) (cs := [.int .i64 x.h, .int .i64 x.o, .string ⟨x.r.toArray⟩, .int .i64 x.l, .int .i64 x.i, .int .i64 x.g, .int .i64 x.s]) ?_ att_agg att_size ?_ (RowL.at0 (HRA.out.on hSw)) rfl <;> rfl
    (try simp only [Act.put, List.setIfInBounds_toArray, List.set_cons_zero, List.set_cons_succ])
    refine wpPT_alt (by kernel_rfl) (fun K hK => ?_) ?_
    rotate_left
    · exact wpPT_stop
    have hOld := hide hHeld
    clear hHeld
    go_simp
    go_at_call 30
    refine (ARight_b x _ HXR.out).mono ?_
    rintro e w' ⟨rfl, hbel⟩
    refine hK.out _ _ (hOld.out.trans (hbel.mono hOld.out.size)) (fun hHeld => ?_)
    clear hK K
    (try simp only [Act.put, List.setIfInBounds_toArray, List.set_cons_zero, List.set_cons_succ])
    refine wpPT_take (v := ?_) (by kernel_rfl) (fun wS hSw => ?_) ?_
    rotate_left
    · (try dsimp only at hSw); go_simp; (try with_reducible rfl)
    (try simp only [Act.put, List.setIfInBounds_toArray, List.set_cons_zero, List.set_cons_succ])
    refine wpPT_take (v := ?_) (by kernel_rfl) (fun wS hSw => ?_) ?_
    rotate_left
    · (try dsimp only at hSw); go_simp; (try with_reducible rfl)
    (try simp only [Act.put, List.setIfInBounds_toArray, List.set_cons_zero, List.set_cons_succ])
    refine wpPT_take (v := ?_) (by kernel_rfl) (fun wS hSw => ?_) ?_
    rotate_left
    · refine execOp_load (x := .tmp 5) (k := 7) (g := g3) (off := 0) (cs := [.int .i64 y.h, .int .i64 y.o, .string ⟨y.r.toArray⟩, .int .i64 y.l, .int .i64 y.i, .int .i64 y.g, .int .i64 y.s]) ?_ att_agg att_size ?_ (RowL.at0 (HRY.out.on hSw)) rfl <;> rfl
    (try simp only [Act.put, List.setIfInBounds_toArray, List.set_cons_zero, List.set_cons_succ])
    refine wpPT_alt (by kernel_rfl) (fun K hK => ?_) ?_
    rotate_left
    · exact wpPT_stop
    have hOld := hide hHeld
    clear hHeld
    go_simp
    go_at_call 30
    refine (ARight_b y _ HYR.out).mono ?_
    rintro e w' ⟨rfl, hbel⟩
    refine hK.out _ _ (hOld.out.trans (hbel.mono hOld.out.size)) (fun hHeld => ?_)
    clear hK K
    (try simp only [Act.put, List.setIfInBounds_toArray, List.set_cons_zero, List.set_cons_succ])
    refine wpPT_take (v := ?_) (by kernel_rfl) (fun wS hSw => ?_) ?_
    rotate_left
    · (try dsimp only at hSw); go_simp; (try with_reducible rfl)
    (try simp only [Act.put, List.setIfInBounds_toArray, List.set_cons_zero, List.set_cons_succ])
    refine wpPT_take (v := ?_) (by kernel_rfl) (fun wS hSw => ?_) ?_
    rotate_left
    · (try dsimp only at hSw); go_simp; (try with_reducible rfl)
    (try simp only [Act.put, List.setIfInBounds_toArray, List.set_cons_zero, List.set_cons_succ])
    refine wpPT_take (v := ?_) (by kernel_rfl) (fun wS hSw => ?_) ?_
    rotate_left
    · (try dsimp only at hSw); go_simp; (try with_reducible rfl)
    (try simp only [Act.put, List.setIfInBounds_toArray, List.set_cons_zero, List.set_cons_succ])
    refine wpPT_take (v := ?_) (by kernel_rfl) (fun wS hSw => ?_) ?_
    rotate_left
    · refine execOp_load (x := .tmp 5) (k := 7) (g := g3) (off := 0) (cs := [.int .i64 y.h, .int .i64 y.o, .string ⟨y.r.toArray⟩, .int .i64 y.l, .int .i64 y.i, .int .i64 y.g, .int .i64 y.s]) ?_ att_agg att_size ?_ (RowL.at0 (HRY.out.on hSw)) rfl <;> rfl
    (try simp only [Act.put, List.setIfInBounds_toArray, List.set_cons_zero, List.set_cons_succ])
    refine wpPT_take (v := ?_) (by kernel_rfl) (fun wS hSw => ?_) ?_
    rotate_left
    · (try dsimp only at hSw); go_simp; (try with_reducible rfl)
    (try simp only [Act.put, List.setIfInBounds_toArray, List.set_cons_zero, List.set_cons_succ])
    refine wpPT_take (v := ?_) (by kernel_rfl) (fun wS hSw => ?_) ?_
    rotate_left
    · (try dsimp only at hSw); go_simp; (try with_reducible rfl)
    (try simp only [Act.put, List.setIfInBounds_toArray, List.set_cons_zero, List.set_cons_succ])
    refine wpPT_take (v := ?_) (by kernel_rfl) (fun wS hSw => ?_) ?_
    rotate_left
    · refine execOp_load (x := .tmp 5) (k := 7) (g := g3) (off := 0) (cs := [.int .i64 y.h, .int .i64 y.o, .string ⟨y.r.toArray⟩, .int .i64 y.l, .int .i64 y.i, .int .i64 y.g, .int .i64 y.s]) ?_ att_agg att_size ?_ (RowL.at0 (HRY.out.on hSw)) rfl <;> rfl
    (try simp only [Act.put, List.setIfInBounds_toArray, List.set_cons_zero, List.set_cons_succ])
    refine wpPT_alt (by kernel_rfl) (fun K hK => ?_) ?_
    rotate_left
    · exact wpPT_stop
    have hOld := hide hHeld
    clear hHeld
    go_simp
    go_at_call 32
    refine (Drop_any y n _ HDD.out).mono ?_
    rintro e w' ⟨rfl, hbel⟩
    refine hK.out _ _ (hOld.out.trans (hbel.mono hOld.out.size)) (fun hHeld => ?_)
    clear hK K
    (try simp only [Act.put, List.setIfInBounds_toArray, List.set_cons_zero, List.set_cons_succ])
    refine wpPT_take (v := ?_) (by kernel_rfl) (fun wS hSw => ?_) ?_
    rotate_left
    · (try dsimp only at hSw); go_simp; (try with_reducible rfl)
    (try simp only [Act.put, List.setIfInBounds_toArray, List.set_cons_zero, List.set_cons_succ])
    refine wpPT_take (v := ?_) (by kernel_rfl) (fun wS hSw => ?_) ?_
    rotate_left
    · (try dsimp only at hSw); go_simp; (try with_reducible rfl)
    (try simp only [Act.put, List.setIfInBounds_toArray, List.set_cons_zero, List.set_cons_succ])
    refine wpPT_take (v := ?_) (by kernel_rfl) (fun wS hSw => ?_) ?_
    rotate_left
    · (try dsimp only at hSw); go_simp; (try with_reducible rfl)
    (try simp only [Act.put, List.setIfInBounds_toArray, List.set_cons_zero, List.set_cons_succ])
    refine wpPT_alt (by kernel_rfl) (fun K hK => ?_) ?_
    rotate_left
    · exact wpPT_stop
    have hOld := hide hHeld
    clear hHeld
    go_simp
    go_at_call 25
    refine (awake9_any _).mono ?_
    rintro e w' ⟨rfl, hbel⟩
    refine hK.out _ _ (hOld.out.trans (hbel.mono hOld.out.size)) (fun hHeld => ?_)
    clear hK K
    (try simp only [Act.put, List.setIfInBounds_toArray, List.set_cons_zero, List.set_cons_succ])
    refine wpPT_take (v := ?_) (by kernel_rfl) (fun wS hSw => ?_) ?_
    rotate_left
    · (try dsimp only at hSw); go_simp; (try with_reducible rfl)
    (try simp only [Act.put, List.setIfInBounds_toArray, List.set_cons_zero, List.set_cons_succ])
    refine wpPT_take (v := ?_) (by kernel_rfl) (fun wS hSw => ?_) ?_
    rotate_left
    · (try dsimp only at hSw); go_simp; (try with_reducible rfl)
    (try simp only [Act.put, List.setIfInBounds_toArray, List.set_cons_zero, List.set_cons_succ])
    refine wpPT_leaf ?_
    go_wp2_with fail
    go_ret
    exact LawOk.of (HB4.out.trans (hHeld.mono HB4.out.size))
end Go.Proofs.Ythjjjeolpdekoaa
