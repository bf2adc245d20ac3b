/- The reference's count, has, Right (layer 9). -/
import Derived.Test.YthjjjeolpdekoaaAttL
namespace Go.Proofs.Ythjjjeolpdekoaa
open Go.RowKit Plain

set_option maxHeartbeats 400000 in
theorem count_any (n m : Int) (w : World) : Calls Try.prog 62 #[.int .i64 n, .int .i64 m] w fun e w' => e = .returned (.bool (inB n m)) ∧ w = w' := by
  obtain ⟨b, h⟩ : ∃ b, inB n m = b := ⟨_, rfl⟩
  rw [h]
  cases b with
  | true =>
    obtain ⟨h0, h1⟩ := inB_yes h
    clear h
    go_enter Try.func62, Try.ntmps62
    go_wp2
    go_ret
    exact ⟨rfl, rfl⟩
  | false =>
    rcases inB_no h with h0 | h0
    · clear h
      go_enter Try.func62, Try.ntmps62
      go_wp2
      go_ret
      exact ⟨rfl, rfl⟩
    · clear h
      by_cases h1 : 0 ≤ n
      · have hd : decide (n ≤ m) = false := by simp; omega
        go_enter Try.func62, Try.ntmps62
        go_wp2
        go_ret
        exact ⟨rfl, rfl⟩
      · have h2 : n < 0 := by omega
        clear h1 h0
        go_enter Try.func62, Try.ntmps62
        go_wp2
        go_ret
        exact ⟨rfl, rfl⟩
set_option maxHeartbeats 400000 in
theorem has_b {h b : Int} {r : Bool} (h0 : 0 ≤ h) (h1 : h ≤ 31) (hb : 0 < b) (hr : decide (h / b % 2 = 1) = r) (w : World) : Calls Try.prog 63 #[.int .i64 h, .int .i64 b] w fun e w' => e = .returned (.bool r) ∧ w = w' := by
  have hd1 : 0 ≤ h / b := Int.ediv_nonneg h0 (by omega)
  have hv : ((h / b).tmod 2 == 1) = r := by
    rw [Int.tmod_eq_emod_of_nonneg hd1, ← hr, Bool.eq_iff_iff]
    simp
  have HV := hide hv
  clear hr hd1 hv
  go_enter Try.func63, Try.ntmps63
  go_wp2
  go_ret
  exact ⟨by rw [← HV.out]; rfl, rfl⟩
set_option maxRecDepth 100000 in
set_option maxHeartbeats 800000 in
theorem eq_orz {a b c : Int} {r : Bool} (h : decide (a = 0 ∧ b = 0 ∧ c = 0) = r) (w : World) : (binOp .eql 46 (.agg #[.int .i64 a, .int .i64 b, .int .i64 c]) (.agg #[.int .i64 0, .int .i64 0, .int .i64 0])).run Try.prog w = .ok (.bool r) w := by
  subst h
  by_cases ha : a = 0
  rotate_left
  · simp [go_sem, ha]
  by_cases hb : b = 0
  rotate_left
  · simp [go_sem, ha, hb]
  by_cases hc : c = 0
  rotate_left
  · simp [go_sem, ha, hb, hc]
  simp [go_sem, ha, hb, hc]
theorem bits_d : ∀ h : Fin 32, (bitI h.1 0 = decide ((h.1 : Int) / 1 % 2 = 1)) ∧ (bitI h.1 1 = decide ((h.1 : Int) / 2 % 2 = 1)) ∧ (bitI h.1 2 = decide ((h.1 : Int) / 4 % 2 = 1)) ∧ (bitI h.1 3 = decide ((h.1 : Int) / 8 % 2 = 1)) := by decide +kernel
theorem right_ref (x : AttV) : rightA x = (inB x.h 31 && (inB x.o 255 && (inB x.s 65535 && (inB x.r.length 24 && ((inB x.l 255 && (inB x.i 65535 && inB x.g 268435455)) && (!((!bitI x.h 0 && !decide (x.o = 0)) || (bitI x.h 1 != decide (0 < x.r.length))) && ((bitI x.h 2 || decide (x.l = 0 ∧ x.i = 0 ∧ x.g = 0)) && (bitI x.h 3 || decide (x.s = 0))))))))) := by
  rw [Bool.eq_iff_iff, rightA_iff]
  have hq : decide (0 < x.r.length) = !decide (x.r = []) := by cases x.r <;> simp
  rw [hq]
  unfold quietA oriB
  cases bitI x.h 0 <;> cases bitI x.h 1 <;> cases bitI x.h 2 <;> cases bitI x.h 3 <;> simp <;> grind
set_option maxRecDepth 100000 in
set_option maxHeartbeats 16000000 in
theorem RARight_b (x : AttV) (w : World) {res : Bool} (hres : rightA x = res) : Calls Try.prog 31 #[.agg #[.int .i64 x.h, .int .i64 x.o, .string ⟨x.r.toArray⟩, .int .i64 x.l, .int .i64 x.i, .int .i64 x.g, .int .i64 x.s]] w (BoolB w res) := by
  have HRES := hide hres
  have HEQ := hide (right_ref x)
  obtain ⟨hr1, hb1, hs1⟩ := rows1 w [.int .i64 x.h, .int .i64 x.o, .string ⟨x.r.toArray⟩, .int .i64 x.l, .int .i64 x.i, .int .i64 x.g, .int .i64 x.s] 48
  obtain ⟨hr2, ho2, hb2, hs2⟩ := rows2 w [.int .i64 x.h, .int .i64 x.o, .string ⟨x.r.toArray⟩, .int .i64 x.l, .int .i64 x.i, .int .i64 x.g, .int .i64 x.s] [.int .i64 x.l, .int .i64 x.i, .int .i64 x.g] 48 46
  have HR1 := hide hr1
  have HB1 := hide hb1
  have HR2 := hide hr2
  have HO2 := hide ho2
  have HB2 := hide hb2
  clear hres hr1 hb1 hs1 hr2 ho2 hb2 hs2
  go_enter Try.func31, Try.ntmps31
  cases hc1 : inB x.h 31
  · go_wp2_with (first | (go_at_call 62; refine (count_any _ _ _).mono ?_; rintro e w' ⟨rfl, rfl⟩) | (with_reducible refine wpList_loadC rfl 46 (.tmp 27) rfl 3 ori_agg ori_size w.heap.size 3 48 rfl [.int .i64 x.h, .int .i64 x.o, .string ⟨x.r.toArray⟩, .int .i64 x.l, .int .i64 x.i, .int .i64 x.g, .int .i64 x.s] [.int .i64 x.l, .int .i64 x.i, .int .i64 x.g] HR1.out rfl rfl ?_))
    go_ret
    exact BoolB.eq (by rw [← HRES.out, HEQ.out, hc1]; rfl) HB1.out
  have HB31 := inB_yes hc1
  obtain ⟨hh0, hh1⟩ := HB31
  cases hc2 : inB x.o 255
  · go_wp2_with (first | (go_at_call 62; refine (count_any _ _ _).mono ?_; rintro e w' ⟨rfl, rfl⟩) | (with_reducible refine wpList_loadC rfl 46 (.tmp 27) rfl 3 ori_agg ori_size w.heap.size 3 48 rfl [.int .i64 x.h, .int .i64 x.o, .string ⟨x.r.toArray⟩, .int .i64 x.l, .int .i64 x.i, .int .i64 x.g, .int .i64 x.s] [.int .i64 x.l, .int .i64 x.i, .int .i64 x.g] HR1.out rfl rfl ?_))
    go_ret
    exact BoolB.eq (by rw [← HRES.out, HEQ.out, hc1, hc2]; rfl) HB1.out
  cases hc3 : inB x.s 65535
  · go_wp2_with (first | (go_at_call 62; refine (count_any _ _ _).mono ?_; rintro e w' ⟨rfl, rfl⟩) | (with_reducible refine wpList_loadC rfl 46 (.tmp 27) rfl 3 ori_agg ori_size w.heap.size 3 48 rfl [.int .i64 x.h, .int .i64 x.o, .string ⟨x.r.toArray⟩, .int .i64 x.l, .int .i64 x.i, .int .i64 x.g, .int .i64 x.s] [.int .i64 x.l, .int .i64 x.i, .int .i64 x.g] HR1.out rfl rfl ?_))
    go_ret
    exact BoolB.eq (by rw [← HRES.out, HEQ.out, hc1, hc2, hc3]; rfl) HB1.out
  cases hc4 : inB x.r.length 24
  · go_wp2_with (first | (go_at_call 62; refine (count_any _ _ _).mono ?_; rintro e w' ⟨rfl, rfl⟩) | (with_reducible refine wpList_loadC rfl 46 (.tmp 27) rfl 3 ori_agg ori_size w.heap.size 3 48 rfl [.int .i64 x.h, .int .i64 x.o, .string ⟨x.r.toArray⟩, .int .i64 x.l, .int .i64 x.i, .int .i64 x.g, .int .i64 x.s] [.int .i64 x.l, .int .i64 x.i, .int .i64 x.g] HR1.out rfl rfl ?_))
    go_ret
    exact BoolB.eq (by rw [← HRES.out, HEQ.out, hc1, hc2, hc3, hc4]; rfl) HB1.out
  cases hc5 : inB x.l 255
  · go_wp2_with (first | (go_at_call 62; refine (count_any _ _ _).mono ?_; rintro e w' ⟨rfl, rfl⟩) | (with_reducible refine wpList_loadC rfl 46 (.tmp 27) rfl 3 ori_agg ori_size w.heap.size 3 48 rfl [.int .i64 x.h, .int .i64 x.o, .string ⟨x.r.toArray⟩, .int .i64 x.l, .int .i64 x.i, .int .i64 x.g, .int .i64 x.s] [.int .i64 x.l, .int .i64 x.i, .int .i64 x.g] HR1.out rfl rfl ?_))
    go_ret
    exact BoolB.eq (by rw [← HRES.out, HEQ.out, hc1, hc2, hc3, hc4, hc5]; rfl) HB2.out
  cases hc6 : inB x.i 65535
  · go_wp2_with (first | (go_at_call 62; refine (count_any _ _ _).mono ?_; rintro e w' ⟨rfl, rfl⟩) | (with_reducible refine wpList_loadC rfl 46 (.tmp 27) rfl 3 ori_agg ori_size w.heap.size 3 48 rfl [.int .i64 x.h, .int .i64 x.o, .string ⟨x.r.toArray⟩, .int .i64 x.l, .int .i64 x.i, .int .i64 x.g, .int .i64 x.s] [.int .i64 x.l, .int .i64 x.i, .int .i64 x.g] HR1.out rfl rfl ?_))
    go_ret
    exact BoolB.eq (by rw [← HRES.out, HEQ.out, hc1, hc2, hc3, hc4, hc5, hc6]; rfl) HB2.out
  cases hc7 : inB x.g 268435455
  · go_wp2_with (first | (go_at_call 62; refine (count_any _ _ _).mono ?_; rintro e w' ⟨rfl, rfl⟩) | (with_reducible refine wpList_loadC rfl 46 (.tmp 27) rfl 3 ori_agg ori_size w.heap.size 3 48 rfl [.int .i64 x.h, .int .i64 x.o, .string ⟨x.r.toArray⟩, .int .i64 x.l, .int .i64 x.i, .int .i64 x.g, .int .i64 x.s] [.int .i64 x.l, .int .i64 x.i, .int .i64 x.g] HR1.out rfl rfl ?_))
    go_ret
    exact BoolB.eq (by rw [← HRES.out, HEQ.out, hc1, hc2, hc3, hc4, hc5, hc6, hc7]; rfl) HB2.out
  go_wp2_with (first | (go_at_call 62; refine (count_any _ _ _).mono ?_; rintro e w' ⟨rfl, rfl⟩) | (with_reducible refine wpList_loadC rfl 46 (.tmp 27) rfl 3 ori_agg ori_size w.heap.size 3 48 rfl [.int .i64 x.h, .int .i64 x.o, .string ⟨x.r.toArray⟩, .int .i64 x.l, .int .i64 x.i, .int .i64 x.g, .int .i64 x.s] [.int .i64 x.l, .int .i64 x.i, .int .i64 x.g] HR1.out rfl rfl ?_))
  generalize ((w.alloc (.cells #[.int .i64 x.h, .int .i64 x.o, .string ⟨x.r.toArray⟩, .int .i64 x.l, .int .i64 x.i, .int .i64 x.g, .int .i64 x.s] 48)).alloc (.cells #[.int .i64 x.l, .int .i64 x.i, .int .i64 x.g] 46)) = w2 at *
  have c0 : w2.cell? ⟨w.heap.size, 0, none⟩ = some (.int .i64 x.h) := HR2.out.cell 0
  have c1 : w2.cell? ⟨w.heap.size, 1, none⟩ = some (.int .i64 x.o) := HR2.out.cell 1
  have c2 : w2.cell? ⟨w.heap.size, 2, none⟩ = some (.string ⟨x.r.toArray⟩) := HR2.out.cell 2
  obtain ⟨k, hk⟩ := fin_h hh0 hh1
  obtain ⟨hb0, hb1, hb2, hb3⟩ := bits_d k
  rw [← hk] at hb0 hb1 hb2 hb3
  clear hk
  cases hp0 : bitI x.h 0
  · have HP0 : Hid (decide (x.h / 1 % 2 = 1) = false) := hide (by rw [← hb0, hp0])
    have HQ0 := hide hp0
    clear hp0
    cases ho : decide (x.o = 0)
    · have ho2 : (x.o != 0) = true := by simpa using ho
      have HDO := hide ho
      clear ho
      refine wp_region_G (fun w' => (w'.cell? ⟨w.heap.size, 0, none⟩ = some (.int .i64 x.h) ∧ w'.cell? ⟨w.heap.size, 1, none⟩ = some (.int .i64 x.o)) ∧ w'.cell? ⟨w.heap.size, 2, none⟩ = some (.string ⟨x.r.toArray⟩) ∧ Below w2.heap.size w2 w') (.take 0 (.take 1 (.alt 2 (.take 3 (.take 4 (.take 5 (.take 6 (.take 7 (.take 8 (.take 9 (.take 10 (.take 11 (.take 13 (.take 14 (.take 15 (.take 16 (.alt 12 (.take 17 (.take 18 .leaf)) .stop)))))))))))))) .stop))) (by kernel_rfl) (by kernel_rfl) (by kernel_rfl) (by kernel_rfl) rfl (fun _ _ _ _ _ h => h) ⟨⟨c0, c1⟩, c2, below_drew (below_self w2)⟩ (fun hHeld => ?_)
      simp only [PT.map, List.getElem?_toArray, List.getElem?_cons_succ, List.getElem?_cons_zero]
      refine wpPT_take (v := ?_) (by kernel_rfl) (fun wS hSw => ?_) ?_
      rotate_left
      · (try dsimp only at hSw); go_simp; (try with_reducible rfl)
      (try simp only [Act.put, List.setIfInBounds_toArray, List.set_cons_zero, List.set_cons_succ])
      refine wpPT_take (v := ?_) (by kernel_rfl) (fun wS hSw => ?_) ?_
      rotate_left
      · (try dsimp only at hSw); go_simp; (try with_reducible rfl)
      (try simp only [Act.put, List.setIfInBounds_toArray, List.set_cons_zero, List.set_cons_succ])
      refine wpPT_alt (by kernel_rfl) (fun K hK => ?_) ?_
      rotate_left
      · exact wpPT_stop
      have hOld := hide hHeld
      clear hHeld
      go_simp
      go_at_call 63
      refine (has_b (b := 1) hh0 hh1 (by omega) HP0.out _).mono ?_
      rintro e w' ⟨rfl, rfl⟩
      refine hK.out _ _ (hOld.out) (fun hHeld => ?_)
      clear hK K
      (try simp only [Act.put, List.setIfInBounds_toArray, List.set_cons_zero, List.set_cons_succ])
      refine wpPT_take (v := ?_) (by kernel_rfl) (fun wS hSw => ?_) ?_
      rotate_left
      · (try dsimp only at hSw); go_simp; (try with_reducible rfl)
      (try simp only [Act.put, List.setIfInBounds_toArray, List.set_cons_zero, List.set_cons_succ])
      refine wpPT_take (v := ?_) (by kernel_rfl) (fun wS hSw => ?_) ?_
      rotate_left
      · (try dsimp only at hSw); go_simp; (try with_reducible rfl)
      (try simp only [Act.put, List.setIfInBounds_toArray, List.set_cons_zero, List.set_cons_succ])
      refine wpPT_take (v := ?_) (by kernel_rfl) (fun wS hSw => ?_) ?_
      rotate_left
      · (try dsimp only at hSw); go_simp; (try with_reducible rfl)
      (try simp only [Act.put, List.setIfInBounds_toArray, List.set_cons_zero, List.set_cons_succ])
      refine wpPT_take (v := ?_) (by kernel_rfl) (fun wS hSw => ?_) ?_
      rotate_left
      · (try dsimp only at hSw); go_simp; (try with_reducible rfl)
      (try simp only [Act.put, List.setIfInBounds_toArray, List.set_cons_zero, List.set_cons_succ])
      refine wpPT_take (v := ?_) (by kernel_rfl) (fun wS hSw => ?_) ?_
      rotate_left
      · (try dsimp only at hSw); go_simp; (try with_reducible rfl)
      (try simp only [Act.put, List.setIfInBounds_toArray, List.set_cons_zero, List.set_cons_succ])
      refine wpPT_take (v := ?_) (by kernel_rfl) (fun wS hSw => ?_) ?_
      rotate_left
      · (try dsimp only at hSw); go_simp; (try with_reducible rfl)
      (try simp only [Act.put, List.setIfInBounds_toArray, List.set_cons_zero, List.set_cons_succ])
      refine wpPT_take (v := ?_) (by kernel_rfl) (fun wS hSw => ?_) ?_
      rotate_left
      · (try dsimp only at hSw); go_simp; (try with_reducible rfl)
      (try simp only [Act.put, List.setIfInBounds_toArray, List.set_cons_zero, List.set_cons_succ])
      refine wpPT_skip (by kernel_rfl) ?_
      (try simp only [Act.put, List.setIfInBounds_toArray, List.set_cons_zero, List.set_cons_succ])
      refine wpPT_skip (by kernel_rfl) ?_
      (try simp only [Act.put, List.setIfInBounds_toArray, List.set_cons_zero, List.set_cons_succ])
      refine wpPT_skip (by kernel_rfl) ?_
      (try simp only [Act.put, List.setIfInBounds_toArray, List.set_cons_zero, List.set_cons_succ])
      refine wpPT_skip (by kernel_rfl) ?_
      (try simp only [Act.put, List.setIfInBounds_toArray, List.set_cons_zero, List.set_cons_succ])
      refine wpPT_skip (by kernel_rfl) ?_
      (try simp only [Act.put, List.setIfInBounds_toArray, List.set_cons_zero, List.set_cons_succ])
      refine wpPT_skip (by kernel_rfl) ?_
      (try simp only [Act.put, List.setIfInBounds_toArray, List.set_cons_zero, List.set_cons_succ])
      refine wpPT_altskip (by kernel_rfl) ?_ ?_
      · (try simp only [Act.put, List.setIfInBounds_toArray, List.set_cons_zero, List.set_cons_succ])
        refine wpPT_skip (by kernel_rfl) ?_
        (try simp only [Act.put, List.setIfInBounds_toArray, List.set_cons_zero, List.set_cons_succ])
        refine wpPT_take (v := ?_) (by kernel_rfl) (fun wS hSw => ?_) ?_
        rotate_left
        · (try dsimp only at hSw); go_simp; (try with_reducible rfl)
        (try simp only [Act.put, List.setIfInBounds_toArray, List.set_cons_zero, List.set_cons_succ])
        refine wpPT_leaf ?_
        have HBD := hide (HB2.out.trans (hHeld.2.2.mono HB2.out.size))
        clear hHeld
        have d0 : w2.drew.cell? ⟨w.heap.size + 1, 0, none⟩ = some (.int .i64 x.l) := HO2.out.drew.cell 0
        have d1 : w2.drew.cell? ⟨w.heap.size + 1, 1, none⟩ = some (.int .i64 x.i) := HO2.out.drew.cell 1
        have d2 : w2.drew.cell? ⟨w.heap.size + 1, 2, none⟩ = some (.int .i64 x.g) := HO2.out.drew.cell 2
        have d6 : w2.drew.cell? ⟨w.heap.size, 6, none⟩ = some (.int .i64 x.s) := HR2.out.drew.cell 6
        have d7 : w2.drew.cell? ⟨w.heap.size, 0, none⟩ = some (.int .i64 x.h) := HR2.out.drew.cell 0
        go_wp2_with fail
        go_ret
        exact BoolB.eq (by rw [← HRES.out, HEQ.out, hc1, hc2, hc3, hc4, hc5, hc6, hc7, HQ0.out, HDO.out]; rfl) HBD.out
      exact wpPT_stop
    · have ho2 : (x.o != 0) = false := by simpa using ho
      have HDO := hide ho
      clear ho
      cases hp1 : bitI x.h 1
      · have HP1 : Hid (decide (x.h / 2 % 2 = 1) = false) := hide (by rw [← hb1, hp1])
        have HQ1 := hide hp1
        clear hp1
        cases hq : decide (0 < x.r.length)
        · have HDQ := hide hq
          refine wp_region_G (fun w' => (w'.cell? ⟨w.heap.size, 0, none⟩ = some (.int .i64 x.h) ∧ w'.cell? ⟨w.heap.size, 1, none⟩ = some (.int .i64 x.o)) ∧ w'.cell? ⟨w.heap.size, 2, none⟩ = some (.string ⟨x.r.toArray⟩) ∧ Below w2.heap.size w2 w') (.take 0 (.take 1 (.alt 2 (.take 3 (.take 4 (.take 5 (.take 6 (.take 7 (.take 8 (.take 9 (.take 10 (.take 11 (.take 13 (.take 14 (.take 15 (.take 16 (.alt 12 (.take 17 (.take 18 .leaf)) .stop)))))))))))))) .stop))) (by kernel_rfl) (by kernel_rfl) (by kernel_rfl) (by kernel_rfl) rfl (fun _ _ _ _ _ h => h) ⟨⟨c0, c1⟩, c2, below_drew (below_self w2)⟩ (fun hHeld => ?_)
          simp only [PT.map, List.getElem?_toArray, List.getElem?_cons_succ, List.getElem?_cons_zero]
          refine wpPT_take (v := ?_) (by kernel_rfl) (fun wS hSw => ?_) ?_
          rotate_left
          · (try dsimp only at hSw); go_simp; (try with_reducible rfl)
          (try simp only [Act.put, List.setIfInBounds_toArray, List.set_cons_zero, List.set_cons_succ])
          refine wpPT_take (v := ?_) (by kernel_rfl) (fun wS hSw => ?_) ?_
          rotate_left
          · (try dsimp only at hSw); go_simp; (try with_reducible rfl)
          (try simp only [Act.put, List.setIfInBounds_toArray, List.set_cons_zero, List.set_cons_succ])
          refine wpPT_alt (by kernel_rfl) (fun K hK => ?_) ?_
          rotate_left
          · exact wpPT_stop
          have hOld := hide hHeld
          clear hHeld
          go_simp
          go_at_call 63
          refine (has_b (b := 1) hh0 hh1 (by omega) HP0.out _).mono ?_
          rintro e w' ⟨rfl, rfl⟩
          refine hK.out _ _ (hOld.out) (fun hHeld => ?_)
          clear hK K
          (try simp only [Act.put, List.setIfInBounds_toArray, List.set_cons_zero, List.set_cons_succ])
          refine wpPT_take (v := ?_) (by kernel_rfl) (fun wS hSw => ?_) ?_
          rotate_left
          · (try dsimp only at hSw); go_simp; (try with_reducible rfl)
          (try simp only [Act.put, List.setIfInBounds_toArray, List.set_cons_zero, List.set_cons_succ])
          refine wpPT_take (v := ?_) (by kernel_rfl) (fun wS hSw => ?_) ?_
          rotate_left
          · (try dsimp only at hSw); go_simp; (try with_reducible rfl)
          (try simp only [Act.put, List.setIfInBounds_toArray, List.set_cons_zero, List.set_cons_succ])
          refine wpPT_take (v := ?_) (by kernel_rfl) (fun wS hSw => ?_) ?_
          rotate_left
          · (try dsimp only at hSw); go_simp; (try with_reducible rfl)
          (try simp only [Act.put, List.setIfInBounds_toArray, List.set_cons_zero, List.set_cons_succ])
          refine wpPT_take (v := ?_) (by kernel_rfl) (fun wS hSw => ?_) ?_
          rotate_left
          · (try dsimp only at hSw); go_simp; (try with_reducible rfl)
          (try simp only [Act.put, List.setIfInBounds_toArray, List.set_cons_zero, List.set_cons_succ])
          refine wpPT_take (v := ?_) (by kernel_rfl) (fun wS hSw => ?_) ?_
          rotate_left
          · (try dsimp only at hSw); go_simp; (try with_reducible rfl)
          (try simp only [Act.put, List.setIfInBounds_toArray, List.set_cons_zero, List.set_cons_succ])
          refine wpPT_take (v := ?_) (by kernel_rfl) (fun wS hSw => ?_) ?_
          rotate_left
          · (try dsimp only at hSw); go_simp; (try with_reducible rfl)
          (try simp only [Act.put, List.setIfInBounds_toArray, List.set_cons_zero, List.set_cons_succ])
          refine wpPT_take (v := ?_) (by kernel_rfl) (fun wS hSw => ?_) ?_
          rotate_left
          · (try dsimp only at hSw); go_simp; (try with_reducible rfl)
          (try simp only [Act.put, List.setIfInBounds_toArray, List.set_cons_zero, List.set_cons_succ])
          refine wpPT_take (v := ?_) (by kernel_rfl) (fun wS hSw => ?_) ?_
          rotate_left
          · (try dsimp only at hSw); go_simp; (try with_reducible rfl)
          (try simp only [Act.put, List.setIfInBounds_toArray, List.set_cons_zero, List.set_cons_succ])
          refine wpPT_take (v := ?_) (by kernel_rfl) (fun wS hSw => ?_) ?_
          rotate_left
          · (try dsimp only at hSw); go_simp; (try with_reducible rfl)
          (try simp only [Act.put, List.setIfInBounds_toArray, List.set_cons_zero, List.set_cons_succ])
          refine wpPT_take (v := ?_) (by kernel_rfl) (fun wS hSw => ?_) ?_
          rotate_left
          · (try dsimp only at hSw); go_simp; (try with_reducible rfl)
          (try simp only [Act.put, List.setIfInBounds_toArray, List.set_cons_zero, List.set_cons_succ])
          refine wpPT_take (v := ?_) (by kernel_rfl) (fun wS hSw => ?_) ?_
          rotate_left
          · (try dsimp only at hSw); go_simp; (try with_reducible rfl)
          (try simp only [Act.put, List.setIfInBounds_toArray, List.set_cons_zero, List.set_cons_succ])
          refine wpPT_take (v := ?_) (by kernel_rfl) (fun wS hSw => ?_) ?_
          rotate_left
          · (try dsimp only at hSw); go_simp; (try with_reducible rfl)
          (try simp only [Act.put, List.setIfInBounds_toArray, List.set_cons_zero, List.set_cons_succ])
          refine wpPT_take (v := ?_) (by kernel_rfl) (fun wS hSw => ?_) ?_
          rotate_left
          · (try dsimp only at hSw); go_simp; (try with_reducible rfl)
          (try simp only [Act.put, List.setIfInBounds_toArray, List.set_cons_zero, List.set_cons_succ])
          refine wpPT_alt (by kernel_rfl) (fun K hK => ?_) ?_
          rotate_left
          · exact wpPT_stop
          have hOld := hide hHeld
          clear hHeld
          go_simp
          go_at_call 63
          refine (has_b (b := 2) hh0 hh1 (by omega) HP1.out _).mono ?_
          rintro e w' ⟨rfl, rfl⟩
          refine hK.out _ _ (hOld.out) (fun hHeld => ?_)
          clear hK K
          (try simp only [Act.put, List.setIfInBounds_toArray, List.set_cons_zero, List.set_cons_succ])
          refine wpPT_take (v := ?_) (by kernel_rfl) (fun wS hSw => ?_) ?_
          rotate_left
          · (try dsimp only at hSw); go_simp; (try with_reducible rfl)
          (try simp only [Act.put, List.setIfInBounds_toArray, List.set_cons_zero, List.set_cons_succ])
          refine wpPT_take (v := ?_) (by kernel_rfl) (fun wS hSw => ?_) ?_
          rotate_left
          · (try dsimp only at hSw); go_simp; (try with_reducible rfl)
          (try simp only [Act.put, List.setIfInBounds_toArray, List.set_cons_zero, List.set_cons_succ])
          refine wpPT_leaf ?_
          have HBD := hide (HB2.out.trans (hHeld.2.2.mono HB2.out.size))
          clear hHeld
          have d0 : w2.drew.cell? ⟨w.heap.size + 1, 0, none⟩ = some (.int .i64 x.l) := HO2.out.drew.cell 0
          have d1 : w2.drew.cell? ⟨w.heap.size + 1, 1, none⟩ = some (.int .i64 x.i) := HO2.out.drew.cell 1
          have d2 : w2.drew.cell? ⟨w.heap.size + 1, 2, none⟩ = some (.int .i64 x.g) := HO2.out.drew.cell 2
          have d6 : w2.drew.cell? ⟨w.heap.size, 6, none⟩ = some (.int .i64 x.s) := HR2.out.drew.cell 6
          have d7 : w2.drew.cell? ⟨w.heap.size, 0, none⟩ = some (.int .i64 x.h) := HR2.out.drew.cell 0
          cases hp2 : bitI x.h 2
          · have HP2 : Hid (decide (x.h / 4 % 2 = 1) = false) := hide (by rw [← hb2, hp2])
            have HQ2 := hide hp2
            clear hp2
            cases hz : decide (x.l = 0 ∧ x.i = 0 ∧ x.g = 0)
            · have hEZ := eq_orz hz
              have HZD := hide hz
              clear hz
              go_wp2_with (go_at_call 63; first | ((with_reducible refine (has_b (b := 4) hh0 hh1 (by omega) HP2.out _).mono ?_); rintro e w' ⟨rfl, rfl⟩))
              go_ret
              exact BoolB.eq (by rw [← HRES.out, HEQ.out, hc1, hc2, hc3, hc4, hc5, hc6, hc7, HQ0.out, HDO.out, HQ1.out, HDQ.out, HQ2.out, HZD.out]; rfl) HBD.out
            · have hEZ := eq_orz hz
              have HZD := hide hz
              clear hz
              cases hp3 : bitI x.h 3
              · have HP3 : Hid (decide (x.h / 8 % 2 = 1) = false) := hide (by rw [← hb3, hp3])
                have HQ3 := hide hp3
                clear hp3
                cases hs : decide (x.s = 0)
                · have hs2 : (x.s == 0) = false := hs
                  have HSD := hide hs
                  clear hs
                  go_wp2_with (go_at_call 63; first | ((with_reducible refine (has_b (b := 4) hh0 hh1 (by omega) HP2.out _).mono ?_); rintro e w' ⟨rfl, rfl⟩) | ((with_reducible refine (has_b (b := 8) hh0 hh1 (by omega) HP3.out _).mono ?_); rintro e w' ⟨rfl, rfl⟩))
                  go_ret
                  exact BoolB.eq (by rw [← HRES.out, HEQ.out, hc1, hc2, hc3, hc4, hc5, hc6, hc7, HQ0.out, HDO.out, HQ1.out, HDQ.out, HQ2.out, HZD.out, HQ3.out, HSD.out]; rfl) HBD.out
                · have hs2 : (x.s == 0) = true := hs
                  have HSD := hide hs
                  clear hs
                  go_wp2_with (go_at_call 63; first | ((with_reducible refine (has_b (b := 4) hh0 hh1 (by omega) HP2.out _).mono ?_); rintro e w' ⟨rfl, rfl⟩) | ((with_reducible refine (has_b (b := 8) hh0 hh1 (by omega) HP3.out _).mono ?_); rintro e w' ⟨rfl, rfl⟩))
                  go_ret
                  exact BoolB.eq (by rw [← HRES.out, HEQ.out, hc1, hc2, hc3, hc4, hc5, hc6, hc7, HQ0.out, HDO.out, HQ1.out, HDQ.out, HQ2.out, HZD.out, HQ3.out, HSD.out]; rfl) HBD.out
              · have HP3 : Hid (decide (x.h / 8 % 2 = 1) = true) := hide (by rw [← hb3, hp3])
                have HQ3 := hide hp3
                clear hp3
                go_wp2_with (go_at_call 63; first | ((with_reducible refine (has_b (b := 4) hh0 hh1 (by omega) HP2.out _).mono ?_); rintro e w' ⟨rfl, rfl⟩) | ((with_reducible refine (has_b (b := 8) hh0 hh1 (by omega) HP3.out _).mono ?_); rintro e w' ⟨rfl, rfl⟩))
                go_ret
                exact BoolB.eq (by rw [← HRES.out, HEQ.out, hc1, hc2, hc3, hc4, hc5, hc6, hc7, HQ0.out, HDO.out, HQ1.out, HDQ.out, HQ2.out, HZD.out, HQ3.out]; rfl) HBD.out
          · have HP2 : Hid (decide (x.h / 4 % 2 = 1) = true) := hide (by rw [← hb2, hp2])
            have HQ2 := hide hp2
            clear hp2
            cases hp3 : bitI x.h 3
            · have HP3 : Hid (decide (x.h / 8 % 2 = 1) = false) := hide (by rw [← hb3, hp3])
              have HQ3 := hide hp3
              clear hp3
              cases hs : decide (x.s = 0)
              · have hs2 : (x.s == 0) = false := hs
                have HSD := hide hs
                clear hs
                go_wp2_with (go_at_call 63; first | ((with_reducible refine (has_b (b := 4) hh0 hh1 (by omega) HP2.out _).mono ?_); rintro e w' ⟨rfl, rfl⟩) | ((with_reducible refine (has_b (b := 8) hh0 hh1 (by omega) HP3.out _).mono ?_); rintro e w' ⟨rfl, rfl⟩))
                go_ret
                exact BoolB.eq (by rw [← HRES.out, HEQ.out, hc1, hc2, hc3, hc4, hc5, hc6, hc7, HQ0.out, HDO.out, HQ1.out, HDQ.out, HQ2.out, HQ3.out, HSD.out]; rfl) HBD.out
              · have hs2 : (x.s == 0) = true := hs
                have HSD := hide hs
                clear hs
                go_wp2_with (go_at_call 63; first | ((with_reducible refine (has_b (b := 4) hh0 hh1 (by omega) HP2.out _).mono ?_); rintro e w' ⟨rfl, rfl⟩) | ((with_reducible refine (has_b (b := 8) hh0 hh1 (by omega) HP3.out _).mono ?_); rintro e w' ⟨rfl, rfl⟩))
                go_ret
                exact BoolB.eq (by rw [← HRES.out, HEQ.out, hc1, hc2, hc3, hc4, hc5, hc6, hc7, HQ0.out, HDO.out, HQ1.out, HDQ.out, HQ2.out, HQ3.out, HSD.out]; rfl) HBD.out
            · have HP3 : Hid (decide (x.h / 8 % 2 = 1) = true) := hide (by rw [← hb3, hp3])
              have HQ3 := hide hp3
              clear hp3
              go_wp2_with (go_at_call 63; first | ((with_reducible refine (has_b (b := 4) hh0 hh1 (by omega) HP2.out _).mono ?_); rintro e w' ⟨rfl, rfl⟩) | ((with_reducible refine (has_b (b := 8) hh0 hh1 (by omega) HP3.out _).mono ?_); rintro e w' ⟨rfl, rfl⟩))
              go_ret
              exact BoolB.eq (by rw [← HRES.out, HEQ.out, hc1, hc2, hc3, hc4, hc5, hc6, hc7, HQ0.out, HDO.out, HQ1.out, HDQ.out, HQ2.out, HQ3.out]; rfl) HBD.out
        · have HDQ := hide hq
          refine wp_region_G (fun w' => (w'.cell? ⟨w.heap.size, 0, none⟩ = some (.int .i64 x.h) ∧ w'.cell? ⟨w.heap.size, 1, none⟩ = some (.int .i64 x.o)) ∧ w'.cell? ⟨w.heap.size, 2, none⟩ = some (.string ⟨x.r.toArray⟩) ∧ Below w2.heap.size w2 w') (.take 0 (.take 1 (.alt 2 (.take 3 (.take 4 (.take 5 (.take 6 (.take 7 (.take 8 (.take 9 (.take 10 (.take 11 (.take 13 (.take 14 (.take 15 (.take 16 (.alt 12 (.take 17 (.take 18 .leaf)) .stop)))))))))))))) .stop))) (by kernel_rfl) (by kernel_rfl) (by kernel_rfl) (by kernel_rfl) rfl (fun _ _ _ _ _ h => h) ⟨⟨c0, c1⟩, c2, below_drew (below_self w2)⟩ (fun hHeld => ?_)
          simp only [PT.map, List.getElem?_toArray, List.getElem?_cons_succ, List.getElem?_cons_zero]
          refine wpPT_take (v := ?_) (by kernel_rfl) (fun wS hSw => ?_) ?_
          rotate_left
          · (try dsimp only at hSw); go_simp; (try with_reducible rfl)
          (try simp only [Act.put, List.setIfInBounds_toArray, List.set_cons_zero, List.set_cons_succ])
          refine wpPT_take (v := ?_) (by kernel_rfl) (fun wS hSw => ?_) ?_
          rotate_left
          · (try dsimp only at hSw); go_simp; (try with_reducible rfl)
          (try simp only [Act.put, List.setIfInBounds_toArray, List.set_cons_zero, List.set_cons_succ])
          refine wpPT_alt (by kernel_rfl) (fun K hK => ?_) ?_
          rotate_left
          · exact wpPT_stop
          have hOld := hide hHeld
          clear hHeld
          go_simp
          go_at_call 63
          refine (has_b (b := 1) hh0 hh1 (by omega) HP0.out _).mono ?_
          rintro e w' ⟨rfl, rfl⟩
          refine hK.out _ _ (hOld.out) (fun hHeld => ?_)
          clear hK K
          (try simp only [Act.put, List.setIfInBounds_toArray, List.set_cons_zero, List.set_cons_succ])
          refine wpPT_take (v := ?_) (by kernel_rfl) (fun wS hSw => ?_) ?_
          rotate_left
          · (try dsimp only at hSw); go_simp; (try with_reducible rfl)
          (try simp only [Act.put, List.setIfInBounds_toArray, List.set_cons_zero, List.set_cons_succ])
          refine wpPT_take (v := ?_) (by kernel_rfl) (fun wS hSw => ?_) ?_
          rotate_left
          · (try dsimp only at hSw); go_simp; (try with_reducible rfl)
          (try simp only [Act.put, List.setIfInBounds_toArray, List.set_cons_zero, List.set_cons_succ])
          refine wpPT_take (v := ?_) (by kernel_rfl) (fun wS hSw => ?_) ?_
          rotate_left
          · (try dsimp only at hSw); go_simp; (try with_reducible rfl)
          (try simp only [Act.put, List.setIfInBounds_toArray, List.set_cons_zero, List.set_cons_succ])
          refine wpPT_take (v := ?_) (by kernel_rfl) (fun wS hSw => ?_) ?_
          rotate_left
          · (try dsimp only at hSw); go_simp; (try with_reducible rfl)
          (try simp only [Act.put, List.setIfInBounds_toArray, List.set_cons_zero, List.set_cons_succ])
          refine wpPT_take (v := ?_) (by kernel_rfl) (fun wS hSw => ?_) ?_
          rotate_left
          · (try dsimp only at hSw); go_simp; (try with_reducible rfl)
          (try simp only [Act.put, List.setIfInBounds_toArray, List.set_cons_zero, List.set_cons_succ])
          refine wpPT_take (v := ?_) (by kernel_rfl) (fun wS hSw => ?_) ?_
          rotate_left
          · (try dsimp only at hSw); go_simp; (try with_reducible rfl)
          (try simp only [Act.put, List.setIfInBounds_toArray, List.set_cons_zero, List.set_cons_succ])
          refine wpPT_take (v := ?_) (by kernel_rfl) (fun wS hSw => ?_) ?_
          rotate_left
          · (try dsimp only at hSw); go_simp; (try with_reducible rfl)
          (try simp only [Act.put, List.setIfInBounds_toArray, List.set_cons_zero, List.set_cons_succ])
          refine wpPT_take (v := ?_) (by kernel_rfl) (fun wS hSw => ?_) ?_
          rotate_left
          · (try dsimp only at hSw); go_simp; (try with_reducible rfl)
          (try simp only [Act.put, List.setIfInBounds_toArray, List.set_cons_zero, List.set_cons_succ])
          refine wpPT_take (v := ?_) (by kernel_rfl) (fun wS hSw => ?_) ?_
          rotate_left
          · (try dsimp only at hSw); go_simp; (try with_reducible rfl)
          (try simp only [Act.put, List.setIfInBounds_toArray, List.set_cons_zero, List.set_cons_succ])
          refine wpPT_take (v := ?_) (by kernel_rfl) (fun wS hSw => ?_) ?_
          rotate_left
          · (try dsimp only at hSw); go_simp; (try with_reducible rfl)
          (try simp only [Act.put, List.setIfInBounds_toArray, List.set_cons_zero, List.set_cons_succ])
          refine wpPT_take (v := ?_) (by kernel_rfl) (fun wS hSw => ?_) ?_
          rotate_left
          · (try dsimp only at hSw); go_simp; (try with_reducible rfl)
          (try simp only [Act.put, List.setIfInBounds_toArray, List.set_cons_zero, List.set_cons_succ])
          refine wpPT_take (v := ?_) (by kernel_rfl) (fun wS hSw => ?_) ?_
          rotate_left
          · (try dsimp only at hSw); go_simp; (try with_reducible rfl)
          (try simp only [Act.put, List.setIfInBounds_toArray, List.set_cons_zero, List.set_cons_succ])
          refine wpPT_take (v := ?_) (by kernel_rfl) (fun wS hSw => ?_) ?_
          rotate_left
          · (try dsimp only at hSw); go_simp; (try with_reducible rfl)
          (try simp only [Act.put, List.setIfInBounds_toArray, List.set_cons_zero, List.set_cons_succ])
          refine wpPT_alt (by kernel_rfl) (fun K hK => ?_) ?_
          rotate_left
          · exact wpPT_stop
          have hOld := hide hHeld
          clear hHeld
          go_simp
          go_at_call 63
          refine (has_b (b := 2) hh0 hh1 (by omega) HP1.out _).mono ?_
          rintro e w' ⟨rfl, rfl⟩
          refine hK.out _ _ (hOld.out) (fun hHeld => ?_)
          clear hK K
          (try simp only [Act.put, List.setIfInBounds_toArray, List.set_cons_zero, List.set_cons_succ])
          refine wpPT_take (v := ?_) (by kernel_rfl) (fun wS hSw => ?_) ?_
          rotate_left
          · (try dsimp only at hSw); go_simp; (try with_reducible rfl)
          (try simp only [Act.put, List.setIfInBounds_toArray, List.set_cons_zero, List.set_cons_succ])
          refine wpPT_take (v := ?_) (by kernel_rfl) (fun wS hSw => ?_) ?_
          rotate_left
          · (try dsimp only at hSw); go_simp; (try with_reducible rfl)
          (try simp only [Act.put, List.setIfInBounds_toArray, List.set_cons_zero, List.set_cons_succ])
          refine wpPT_leaf ?_
          have HBD := hide (HB2.out.trans (hHeld.2.2.mono HB2.out.size))
          clear hHeld
          have d0 : w2.drew.cell? ⟨w.heap.size + 1, 0, none⟩ = some (.int .i64 x.l) := HO2.out.drew.cell 0
          have d1 : w2.drew.cell? ⟨w.heap.size + 1, 1, none⟩ = some (.int .i64 x.i) := HO2.out.drew.cell 1
          have d2 : w2.drew.cell? ⟨w.heap.size + 1, 2, none⟩ = some (.int .i64 x.g) := HO2.out.drew.cell 2
          have d6 : w2.drew.cell? ⟨w.heap.size, 6, none⟩ = some (.int .i64 x.s) := HR2.out.drew.cell 6
          have d7 : w2.drew.cell? ⟨w.heap.size, 0, none⟩ = some (.int .i64 x.h) := HR2.out.drew.cell 0
          go_wp2_with fail
          go_ret
          exact BoolB.eq (by rw [← HRES.out, HEQ.out, hc1, hc2, hc3, hc4, hc5, hc6, hc7, HQ0.out, HDO.out, HQ1.out, HDQ.out]; rfl) HBD.out
      · have HP1 : Hid (decide (x.h / 2 % 2 = 1) = true) := hide (by rw [← hb1, hp1])
        have HQ1 := hide hp1
        clear hp1
        cases hq : decide (0 < x.r.length)
        · have HDQ := hide hq
          refine wp_region_G (fun w' => (w'.cell? ⟨w.heap.size, 0, none⟩ = some (.int .i64 x.h) ∧ w'.cell? ⟨w.heap.size, 1, none⟩ = some (.int .i64 x.o)) ∧ w'.cell? ⟨w.heap.size, 2, none⟩ = some (.string ⟨x.r.toArray⟩) ∧ Below w2.heap.size w2 w') (.take 0 (.take 1 (.alt 2 (.take 3 (.take 4 (.take 5 (.take 6 (.take 7 (.take 8 (.take 9 (.take 10 (.take 11 (.take 13 (.take 14 (.take 15 (.take 16 (.alt 12 (.take 17 (.take 18 .leaf)) .stop)))))))))))))) .stop))) (by kernel_rfl) (by kernel_rfl) (by kernel_rfl) (by kernel_rfl) rfl (fun _ _ _ _ _ h => h) ⟨⟨c0, c1⟩, c2, below_drew (below_self w2)⟩ (fun hHeld => ?_)
          simp only [PT.map, List.getElem?_toArray, List.getElem?_cons_succ, List.getElem?_cons_zero]
          refine wpPT_take (v := ?_) (by kernel_rfl) (fun wS hSw => ?_) ?_
          rotate_left
          · (try dsimp only at hSw); go_simp; (try with_reducible rfl)
          (try simp only [Act.put, List.setIfInBounds_toArray, List.set_cons_zero, List.set_cons_succ])
          refine wpPT_take (v := ?_) (by kernel_rfl) (fun wS hSw => ?_) ?_
          rotate_left
          · (try dsimp only at hSw); go_simp; (try with_reducible rfl)
          (try simp only [Act.put, List.setIfInBounds_toArray, List.set_cons_zero, List.set_cons_succ])
          refine wpPT_alt (by kernel_rfl) (fun K hK => ?_) ?_
          rotate_left
          · exact wpPT_stop
          have hOld := hide hHeld
          clear hHeld
          go_simp
          go_at_call 63
          refine (has_b (b := 1) hh0 hh1 (by omega) HP0.out _).mono ?_
          rintro e w' ⟨rfl, rfl⟩
          refine hK.out _ _ (hOld.out) (fun hHeld => ?_)
          clear hK K
          (try simp only [Act.put, List.setIfInBounds_toArray, List.set_cons_zero, List.set_cons_succ])
          refine wpPT_take (v := ?_) (by kernel_rfl) (fun wS hSw => ?_) ?_
          rotate_left
          · (try dsimp only at hSw); go_simp; (try with_reducible rfl)
          (try simp only [Act.put, List.setIfInBounds_toArray, List.set_cons_zero, List.set_cons_succ])
          refine wpPT_take (v := ?_) (by kernel_rfl) (fun wS hSw => ?_) ?_
          rotate_left
          · (try dsimp only at hSw); go_simp; (try with_reducible rfl)
          (try simp only [Act.put, List.setIfInBounds_toArray, List.set_cons_zero, List.set_cons_succ])
          refine wpPT_take (v := ?_) (by kernel_rfl) (fun wS hSw => ?_) ?_
          rotate_left
          · (try dsimp only at hSw); go_simp; (try with_reducible rfl)
          (try simp only [Act.put, List.setIfInBounds_toArray, List.set_cons_zero, List.set_cons_succ])
          refine wpPT_take (v := ?_) (by kernel_rfl) (fun wS hSw => ?_) ?_
          rotate_left
          · (try dsimp only at hSw); go_simp; (try with_reducible rfl)
          (try simp only [Act.put, List.setIfInBounds_toArray, List.set_cons_zero, List.set_cons_succ])
          refine wpPT_take (v := ?_) (by kernel_rfl) (fun wS hSw => ?_) ?_
          rotate_left
          · (try dsimp only at hSw); go_simp; (try with_reducible rfl)
          (try simp only [Act.put, List.setIfInBounds_toArray, List.set_cons_zero, List.set_cons_succ])
          refine wpPT_take (v := ?_) (by kernel_rfl) (fun wS hSw => ?_) ?_
          rotate_left
          · (try dsimp only at hSw); go_simp; (try with_reducible rfl)
          (try simp only [Act.put, List.setIfInBounds_toArray, List.set_cons_zero, List.set_cons_succ])
          refine wpPT_take (v := ?_) (by kernel_rfl) (fun wS hSw => ?_) ?_
          rotate_left
          · (try dsimp only at hSw); go_simp; (try with_reducible rfl)
          (try simp only [Act.put, List.setIfInBounds_toArray, List.set_cons_zero, List.set_cons_succ])
          refine wpPT_take (v := ?_) (by kernel_rfl) (fun wS hSw => ?_) ?_
          rotate_left
          · (try dsimp only at hSw); go_simp; (try with_reducible rfl)
          (try simp only [Act.put, List.setIfInBounds_toArray, List.set_cons_zero, List.set_cons_succ])
          refine wpPT_take (v := ?_) (by kernel_rfl) (fun wS hSw => ?_) ?_
          rotate_left
          · (try dsimp only at hSw); go_simp; (try with_reducible rfl)
          (try simp only [Act.put, List.setIfInBounds_toArray, List.set_cons_zero, List.set_cons_succ])
          refine wpPT_take (v := ?_) (by kernel_rfl) (fun wS hSw => ?_) ?_
          rotate_left
          · (try dsimp only at hSw); go_simp; (try with_reducible rfl)
          (try simp only [Act.put, List.setIfInBounds_toArray, List.set_cons_zero, List.set_cons_succ])
          refine wpPT_take (v := ?_) (by kernel_rfl) (fun wS hSw => ?_) ?_
          rotate_left
          · (try dsimp only at hSw); go_simp; (try with_reducible rfl)
          (try simp only [Act.put, List.setIfInBounds_toArray, List.set_cons_zero, List.set_cons_succ])
          refine wpPT_take (v := ?_) (by kernel_rfl) (fun wS hSw => ?_) ?_
          rotate_left
          · (try dsimp only at hSw); go_simp; (try with_reducible rfl)
          (try simp only [Act.put, List.setIfInBounds_toArray, List.set_cons_zero, List.set_cons_succ])
          refine wpPT_take (v := ?_) (by kernel_rfl) (fun wS hSw => ?_) ?_
          rotate_left
          · (try dsimp only at hSw); go_simp; (try with_reducible rfl)
          (try simp only [Act.put, List.setIfInBounds_toArray, List.set_cons_zero, List.set_cons_succ])
          refine wpPT_alt (by kernel_rfl) (fun K hK => ?_) ?_
          rotate_left
          · exact wpPT_stop
          have hOld := hide hHeld
          clear hHeld
          go_simp
          go_at_call 63
          refine (has_b (b := 2) hh0 hh1 (by omega) HP1.out _).mono ?_
          rintro e w' ⟨rfl, rfl⟩
          refine hK.out _ _ (hOld.out) (fun hHeld => ?_)
          clear hK K
          (try simp only [Act.put, List.setIfInBounds_toArray, List.set_cons_zero, List.set_cons_succ])
          refine wpPT_take (v := ?_) (by kernel_rfl) (fun wS hSw => ?_) ?_
          rotate_left
          · (try dsimp only at hSw); go_simp; (try with_reducible rfl)
          (try simp only [Act.put, List.setIfInBounds_toArray, List.set_cons_zero, List.set_cons_succ])
          refine wpPT_take (v := ?_) (by kernel_rfl) (fun wS hSw => ?_) ?_
          rotate_left
          · (try dsimp only at hSw); go_simp; (try with_reducible rfl)
          (try simp only [Act.put, List.setIfInBounds_toArray, List.set_cons_zero, List.set_cons_succ])
          refine wpPT_leaf ?_
          have HBD := hide (HB2.out.trans (hHeld.2.2.mono HB2.out.size))
          clear hHeld
          have d0 : w2.drew.cell? ⟨w.heap.size + 1, 0, none⟩ = some (.int .i64 x.l) := HO2.out.drew.cell 0
          have d1 : w2.drew.cell? ⟨w.heap.size + 1, 1, none⟩ = some (.int .i64 x.i) := HO2.out.drew.cell 1
          have d2 : w2.drew.cell? ⟨w.heap.size + 1, 2, none⟩ = some (.int .i64 x.g) := HO2.out.drew.cell 2
          have d6 : w2.drew.cell? ⟨w.heap.size, 6, none⟩ = some (.int .i64 x.s) := HR2.out.drew.cell 6
          have d7 : w2.drew.cell? ⟨w.heap.size, 0, none⟩ = some (.int .i64 x.h) := HR2.out.drew.cell 0
          go_wp2_with fail
          go_ret
          exact BoolB.eq (by rw [← HRES.out, HEQ.out, hc1, hc2, hc3, hc4, hc5, hc6, hc7, HQ0.out, HDO.out, HQ1.out, HDQ.out]; rfl) HBD.out
        · have HDQ := hide hq
          refine wp_region_G (fun w' => (w'.cell? ⟨w.heap.size, 0, none⟩ = some (.int .i64 x.h) ∧ w'.cell? ⟨w.heap.size, 1, none⟩ = some (.int .i64 x.o)) ∧ w'.cell? ⟨w.heap.size, 2, none⟩ = some (.string ⟨x.r.toArray⟩) ∧ Below w2.heap.size w2 w') (.take 0 (.take 1 (.alt 2 (.take 3 (.take 4 (.take 5 (.take 6 (.take 7 (.take 8 (.take 9 (.take 10 (.take 11 (.take 13 (.take 14 (.take 15 (.take 16 (.alt 12 (.take 17 (.take 18 .leaf)) .stop)))))))))))))) .stop))) (by kernel_rfl) (by kernel_rfl) (by kernel_rfl) (by kernel_rfl) rfl (fun _ _ _ _ _ h => h) ⟨⟨c0, c1⟩, c2, below_drew (below_self w2)⟩ (fun hHeld => ?_)
          simp only [PT.map, List.getElem?_toArray, List.getElem?_cons_succ, List.getElem?_cons_zero]
          refine wpPT_take (v := ?_) (by kernel_rfl) (fun wS hSw => ?_) ?_
          rotate_left
          · (try dsimp only at hSw); go_simp; (try with_reducible rfl)
          (try simp only [Act.put, List.setIfInBounds_toArray, List.set_cons_zero, List.set_cons_succ])
          refine wpPT_take (v := ?_) (by kernel_rfl) (fun wS hSw => ?_) ?_
          rotate_left
          · (try dsimp only at hSw); go_simp; (try with_reducible rfl)
          (try simp only [Act.put, List.setIfInBounds_toArray, List.set_cons_zero, List.set_cons_succ])
          refine wpPT_alt (by kernel_rfl) (fun K hK => ?_) ?_
          rotate_left
          · exact wpPT_stop
          have hOld := hide hHeld
          clear hHeld
          go_simp
          go_at_call 63
          refine (has_b (b := 1) hh0 hh1 (by omega) HP0.out _).mono ?_
          rintro e w' ⟨rfl, rfl⟩
          refine hK.out _ _ (hOld.out) (fun hHeld => ?_)
          clear hK K
          (try simp only [Act.put, List.setIfInBounds_toArray, List.set_cons_zero, List.set_cons_succ])
          refine wpPT_take (v := ?_) (by kernel_rfl) (fun wS hSw => ?_) ?_
          rotate_left
          · (try dsimp only at hSw); go_simp; (try with_reducible rfl)
          (try simp only [Act.put, List.setIfInBounds_toArray, List.set_cons_zero, List.set_cons_succ])
          refine wpPT_take (v := ?_) (by kernel_rfl) (fun wS hSw => ?_) ?_
          rotate_left
          · (try dsimp only at hSw); go_simp; (try with_reducible rfl)
          (try simp only [Act.put, List.setIfInBounds_toArray, List.set_cons_zero, List.set_cons_succ])
          refine wpPT_take (v := ?_) (by kernel_rfl) (fun wS hSw => ?_) ?_
          rotate_left
          · (try dsimp only at hSw); go_simp; (try with_reducible rfl)
          (try simp only [Act.put, List.setIfInBounds_toArray, List.set_cons_zero, List.set_cons_succ])
          refine wpPT_take (v := ?_) (by kernel_rfl) (fun wS hSw => ?_) ?_
          rotate_left
          · (try dsimp only at hSw); go_simp; (try with_reducible rfl)
          (try simp only [Act.put, List.setIfInBounds_toArray, List.set_cons_zero, List.set_cons_succ])
          refine wpPT_take (v := ?_) (by kernel_rfl) (fun wS hSw => ?_) ?_
          rotate_left
          · (try dsimp only at hSw); go_simp; (try with_reducible rfl)
          (try simp only [Act.put, List.setIfInBounds_toArray, List.set_cons_zero, List.set_cons_succ])
          refine wpPT_take (v := ?_) (by kernel_rfl) (fun wS hSw => ?_) ?_
          rotate_left
          · (try dsimp only at hSw); go_simp; (try with_reducible rfl)
          (try simp only [Act.put, List.setIfInBounds_toArray, List.set_cons_zero, List.set_cons_succ])
          refine wpPT_take (v := ?_) (by kernel_rfl) (fun wS hSw => ?_) ?_
          rotate_left
          · (try dsimp only at hSw); go_simp; (try with_reducible rfl)
          (try simp only [Act.put, List.setIfInBounds_toArray, List.set_cons_zero, List.set_cons_succ])
          refine wpPT_take (v := ?_) (by kernel_rfl) (fun wS hSw => ?_) ?_
          rotate_left
          · (try dsimp only at hSw); go_simp; (try with_reducible rfl)
          (try simp only [Act.put, List.setIfInBounds_toArray, List.set_cons_zero, List.set_cons_succ])
          refine wpPT_take (v := ?_) (by kernel_rfl) (fun wS hSw => ?_) ?_
          rotate_left
          · (try dsimp only at hSw); go_simp; (try with_reducible rfl)
          (try simp only [Act.put, List.setIfInBounds_toArray, List.set_cons_zero, List.set_cons_succ])
          refine wpPT_take (v := ?_) (by kernel_rfl) (fun wS hSw => ?_) ?_
          rotate_left
          · (try dsimp only at hSw); go_simp; (try with_reducible rfl)
          (try simp only [Act.put, List.setIfInBounds_toArray, List.set_cons_zero, List.set_cons_succ])
          refine wpPT_take (v := ?_) (by kernel_rfl) (fun wS hSw => ?_) ?_
          rotate_left
          · (try dsimp only at hSw); go_simp; (try with_reducible rfl)
          (try simp only [Act.put, List.setIfInBounds_toArray, List.set_cons_zero, List.set_cons_succ])
          refine wpPT_take (v := ?_) (by kernel_rfl) (fun wS hSw => ?_) ?_
          rotate_left
          · (try dsimp only at hSw); go_simp; (try with_reducible rfl)
          (try simp only [Act.put, List.setIfInBounds_toArray, List.set_cons_zero, List.set_cons_succ])
          refine wpPT_take (v := ?_) (by kernel_rfl) (fun wS hSw => ?_) ?_
          rotate_left
          · (try dsimp only at hSw); go_simp; (try with_reducible rfl)
          (try simp only [Act.put, List.setIfInBounds_toArray, List.set_cons_zero, List.set_cons_succ])
          refine wpPT_alt (by kernel_rfl) (fun K hK => ?_) ?_
          rotate_left
          · exact wpPT_stop
          have hOld := hide hHeld
          clear hHeld
          go_simp
          go_at_call 63
          refine (has_b (b := 2) hh0 hh1 (by omega) HP1.out _).mono ?_
          rintro e w' ⟨rfl, rfl⟩
          refine hK.out _ _ (hOld.out) (fun hHeld => ?_)
          clear hK K
          (try simp only [Act.put, List.setIfInBounds_toArray, List.set_cons_zero, List.set_cons_succ])
          refine wpPT_take (v := ?_) (by kernel_rfl) (fun wS hSw => ?_) ?_
          rotate_left
          · (try dsimp only at hSw); go_simp; (try with_reducible rfl)
          (try simp only [Act.put, List.setIfInBounds_toArray, List.set_cons_zero, List.set_cons_succ])
          refine wpPT_take (v := ?_) (by kernel_rfl) (fun wS hSw => ?_) ?_
          rotate_left
          · (try dsimp only at hSw); go_simp; (try with_reducible rfl)
          (try simp only [Act.put, List.setIfInBounds_toArray, List.set_cons_zero, List.set_cons_succ])
          refine wpPT_leaf ?_
          have HBD := hide (HB2.out.trans (hHeld.2.2.mono HB2.out.size))
          clear hHeld
          have d0 : w2.drew.cell? ⟨w.heap.size + 1, 0, none⟩ = some (.int .i64 x.l) := HO2.out.drew.cell 0
          have d1 : w2.drew.cell? ⟨w.heap.size + 1, 1, none⟩ = some (.int .i64 x.i) := HO2.out.drew.cell 1
          have d2 : w2.drew.cell? ⟨w.heap.size + 1, 2, none⟩ = some (.int .i64 x.g) := HO2.out.drew.cell 2
          have d6 : w2.drew.cell? ⟨w.heap.size, 6, none⟩ = some (.int .i64 x.s) := HR2.out.drew.cell 6
          have d7 : w2.drew.cell? ⟨w.heap.size, 0, none⟩ = some (.int .i64 x.h) := HR2.out.drew.cell 0
          cases hp2 : bitI x.h 2
          · have HP2 : Hid (decide (x.h / 4 % 2 = 1) = false) := hide (by rw [← hb2, hp2])
            have HQ2 := hide hp2
            clear hp2
            cases hz : decide (x.l = 0 ∧ x.i = 0 ∧ x.g = 0)
            · have hEZ := eq_orz hz
              have HZD := hide hz
              clear hz
              go_wp2_with (go_at_call 63; first | ((with_reducible refine (has_b (b := 4) hh0 hh1 (by omega) HP2.out _).mono ?_); rintro e w' ⟨rfl, rfl⟩))
              go_ret
              exact BoolB.eq (by rw [← HRES.out, HEQ.out, hc1, hc2, hc3, hc4, hc5, hc6, hc7, HQ0.out, HDO.out, HQ1.out, HDQ.out, HQ2.out, HZD.out]; rfl) HBD.out
            · have hEZ := eq_orz hz
              have HZD := hide hz
              clear hz
              cases hp3 : bitI x.h 3
              · have HP3 : Hid (decide (x.h / 8 % 2 = 1) = false) := hide (by rw [← hb3, hp3])
                have HQ3 := hide hp3
                clear hp3
                cases hs : decide (x.s = 0)
                · have hs2 : (x.s == 0) = false := hs
                  have HSD := hide hs
                  clear hs
                  go_wp2_with (go_at_call 63; first | ((with_reducible refine (has_b (b := 4) hh0 hh1 (by omega) HP2.out _).mono ?_); rintro e w' ⟨rfl, rfl⟩) | ((with_reducible refine (has_b (b := 8) hh0 hh1 (by omega) HP3.out _).mono ?_); rintro e w' ⟨rfl, rfl⟩))
                  go_ret
                  exact BoolB.eq (by rw [← HRES.out, HEQ.out, hc1, hc2, hc3, hc4, hc5, hc6, hc7, HQ0.out, HDO.out, HQ1.out, HDQ.out, HQ2.out, HZD.out, HQ3.out, HSD.out]; rfl) HBD.out
                · have hs2 : (x.s == 0) = true := hs
                  have HSD := hide hs
                  clear hs
                  go_wp2_with (go_at_call 63; first | ((with_reducible refine (has_b (b := 4) hh0 hh1 (by omega) HP2.out _).mono ?_); rintro e w' ⟨rfl, rfl⟩) | ((with_reducible refine (has_b (b := 8) hh0 hh1 (by omega) HP3.out _).mono ?_); rintro e w' ⟨rfl, rfl⟩))
                  go_ret
                  exact BoolB.eq (by rw [← HRES.out, HEQ.out, hc1, hc2, hc3, hc4, hc5, hc6, hc7, HQ0.out, HDO.out, HQ1.out, HDQ.out, HQ2.out, HZD.out, HQ3.out, HSD.out]; rfl) HBD.out
              · have HP3 : Hid (decide (x.h / 8 % 2 = 1) = true) := hide (by rw [← hb3, hp3])
                have HQ3 := hide hp3
                clear hp3
                go_wp2_with (go_at_call 63; first | ((with_reducible refine (has_b (b := 4) hh0 hh1 (by omega) HP2.out _).mono ?_); rintro e w' ⟨rfl, rfl⟩) | ((with_reducible refine (has_b (b := 8) hh0 hh1 (by omega) HP3.out _).mono ?_); rintro e w' ⟨rfl, rfl⟩))
                go_ret
                exact BoolB.eq (by rw [← HRES.out, HEQ.out, hc1, hc2, hc3, hc4, hc5, hc6, hc7, HQ0.out, HDO.out, HQ1.out, HDQ.out, HQ2.out, HZD.out, HQ3.out]; rfl) HBD.out
          · have HP2 : Hid (decide (x.h / 4 % 2 = 1) = true) := hide (by rw [← hb2, hp2])
            have HQ2 := hide hp2
            clear hp2
            cases hp3 : bitI x.h 3
            · have HP3 : Hid (decide (x.h / 8 % 2 = 1) = false) := hide (by rw [← hb3, hp3])
              have HQ3 := hide hp3
              clear hp3
              cases hs : decide (x.s = 0)
              · have hs2 : (x.s == 0) = false := hs
                have HSD := hide hs
                clear hs
                go_wp2_with (go_at_call 63; first | ((with_reducible refine (has_b (b := 4) hh0 hh1 (by omega) HP2.out _).mono ?_); rintro e w' ⟨rfl, rfl⟩) | ((with_reducible refine (has_b (b := 8) hh0 hh1 (by omega) HP3.out _).mono ?_); rintro e w' ⟨rfl, rfl⟩))
                go_ret
                exact BoolB.eq (by rw [← HRES.out, HEQ.out, hc1, hc2, hc3, hc4, hc5, hc6, hc7, HQ0.out, HDO.out, HQ1.out, HDQ.out, HQ2.out, HQ3.out, HSD.out]; rfl) HBD.out
              · have hs2 : (x.s == 0) = true := hs
                have HSD := hide hs
                clear hs
                go_wp2_with (go_at_call 63; first | ((with_reducible refine (has_b (b := 4) hh0 hh1 (by omega) HP2.out _).mono ?_); rintro e w' ⟨rfl, rfl⟩) | ((with_reducible refine (has_b (b := 8) hh0 hh1 (by omega) HP3.out _).mono ?_); rintro e w' ⟨rfl, rfl⟩))
                go_ret
                exact BoolB.eq (by rw [← HRES.out, HEQ.out, hc1, hc2, hc3, hc4, hc5, hc6, hc7, HQ0.out, HDO.out, HQ1.out, HDQ.out, HQ2.out, HQ3.out, HSD.out]; rfl) HBD.out
            · have HP3 : Hid (decide (x.h / 8 % 2 = 1) = true) := hide (by rw [← hb3, hp3])
              have HQ3 := hide hp3
              clear hp3
              go_wp2_with (go_at_call 63; first | ((with_reducible refine (has_b (b := 4) hh0 hh1 (by omega) HP2.out _).mono ?_); rintro e w' ⟨rfl, rfl⟩) | ((with_reducible refine (has_b (b := 8) hh0 hh1 (by omega) HP3.out _).mono ?_); rintro e w' ⟨rfl, rfl⟩))
              go_ret
              exact BoolB.eq (by rw [← HRES.out, HEQ.out, hc1, hc2, hc3, hc4, hc5, hc6, hc7, HQ0.out, HDO.out, HQ1.out, HDQ.out, HQ2.out, HQ3.out]; rfl) HBD.out
  · have HP0 : Hid (decide (x.h / 1 % 2 = 1) = true) := hide (by rw [← hb0, hp0])
    have HQ0 := hide hp0
    clear hp0
    cases hp1 : bitI x.h 1
    · have HP1 : Hid (decide (x.h / 2 % 2 = 1) = false) := hide (by rw [← hb1, hp1])
      have HQ1 := hide hp1
      clear hp1
      cases hq : decide (0 < x.r.length)
      · have HDQ := hide hq
        refine wp_region_G (fun w' => (w'.cell? ⟨w.heap.size, 0, none⟩ = some (.int .i64 x.h) ∧ w'.cell? ⟨w.heap.size, 1, none⟩ = some (.int .i64 x.o)) ∧ w'.cell? ⟨w.heap.size, 2, none⟩ = some (.string ⟨x.r.toArray⟩) ∧ Below w2.heap.size w2 w') (.take 0 (.take 1 (.alt 2 (.take 3 (.take 4 (.take 5 (.take 6 (.take 7 (.take 8 (.take 9 (.take 10 (.take 11 (.take 13 (.take 14 (.take 15 (.take 16 (.alt 12 (.take 17 (.take 18 .leaf)) .stop)))))))))))))) .stop))) (by kernel_rfl) (by kernel_rfl) (by kernel_rfl) (by kernel_rfl) rfl (fun _ _ _ _ _ h => h) ⟨⟨c0, c1⟩, c2, below_drew (below_self w2)⟩ (fun hHeld => ?_)
        simp only [PT.map, List.getElem?_toArray, List.getElem?_cons_succ, List.getElem?_cons_zero]
        refine wpPT_take (v := ?_) (by kernel_rfl) (fun wS hSw => ?_) ?_
        rotate_left
        · (try dsimp only at hSw); go_simp; (try with_reducible rfl)
        (try simp only [Act.put, List.setIfInBounds_toArray, List.set_cons_zero, List.set_cons_succ])
        refine wpPT_take (v := ?_) (by kernel_rfl) (fun wS hSw => ?_) ?_
        rotate_left
        · (try dsimp only at hSw); go_simp; (try with_reducible rfl)
        (try simp only [Act.put, List.setIfInBounds_toArray, List.set_cons_zero, List.set_cons_succ])
        refine wpPT_alt (by kernel_rfl) (fun K hK => ?_) ?_
        rotate_left
        · exact wpPT_stop
        have hOld := hide hHeld
        clear hHeld
        go_simp
        go_at_call 63
        refine (has_b (b := 1) hh0 hh1 (by omega) HP0.out _).mono ?_
        rintro e w' ⟨rfl, rfl⟩
        refine hK.out _ _ (hOld.out) (fun hHeld => ?_)
        clear hK K
        (try simp only [Act.put, List.setIfInBounds_toArray, List.set_cons_zero, List.set_cons_succ])
        refine wpPT_take (v := ?_) (by kernel_rfl) (fun wS hSw => ?_) ?_
        rotate_left
        · (try dsimp only at hSw); go_simp; (try with_reducible rfl)
        (try simp only [Act.put, List.setIfInBounds_toArray, List.set_cons_zero, List.set_cons_succ])
        refine wpPT_take (v := ?_) (by kernel_rfl) (fun wS hSw => ?_) ?_
        rotate_left
        · (try dsimp only at hSw); go_simp; (try with_reducible rfl)
        (try simp only [Act.put, List.setIfInBounds_toArray, List.set_cons_zero, List.set_cons_succ])
        refine wpPT_skip (by kernel_rfl) ?_
        (try simp only [Act.put, List.setIfInBounds_toArray, List.set_cons_zero, List.set_cons_succ])
        refine wpPT_skip (by kernel_rfl) ?_
        (try simp only [Act.put, List.setIfInBounds_toArray, List.set_cons_zero, List.set_cons_succ])
        refine wpPT_skip (by kernel_rfl) ?_
        (try simp only [Act.put, List.setIfInBounds_toArray, List.set_cons_zero, List.set_cons_succ])
        refine wpPT_take (v := ?_) (by kernel_rfl) (fun wS hSw => ?_) ?_
        rotate_left
        · (try dsimp only at hSw); go_simp; (try with_reducible rfl)
        (try simp only [Act.put, List.setIfInBounds_toArray, List.set_cons_zero, List.set_cons_succ])
        refine wpPT_take (v := ?_) (by kernel_rfl) (fun wS hSw => ?_) ?_
        rotate_left
        · (try dsimp only at hSw); go_simp; (try with_reducible rfl)
        (try simp only [Act.put, List.setIfInBounds_toArray, List.set_cons_zero, List.set_cons_succ])
        refine wpPT_take (v := ?_) (by kernel_rfl) (fun wS hSw => ?_) ?_
        rotate_left
        · (try dsimp only at hSw); go_simp; (try with_reducible rfl)
        (try simp only [Act.put, List.setIfInBounds_toArray, List.set_cons_zero, List.set_cons_succ])
        refine wpPT_take (v := ?_) (by kernel_rfl) (fun wS hSw => ?_) ?_
        rotate_left
        · (try dsimp only at hSw); go_simp; (try with_reducible rfl)
        (try simp only [Act.put, List.setIfInBounds_toArray, List.set_cons_zero, List.set_cons_succ])
        refine wpPT_take (v := ?_) (by kernel_rfl) (fun wS hSw => ?_) ?_
        rotate_left
        · (try dsimp only at hSw); go_simp; (try with_reducible rfl)
        (try simp only [Act.put, List.setIfInBounds_toArray, List.set_cons_zero, List.set_cons_succ])
        refine wpPT_take (v := ?_) (by kernel_rfl) (fun wS hSw => ?_) ?_
        rotate_left
        · (try dsimp only at hSw); go_simp; (try with_reducible rfl)
        (try simp only [Act.put, List.setIfInBounds_toArray, List.set_cons_zero, List.set_cons_succ])
        refine wpPT_take (v := ?_) (by kernel_rfl) (fun wS hSw => ?_) ?_
        rotate_left
        · (try dsimp only at hSw); go_simp; (try with_reducible rfl)
        (try simp only [Act.put, List.setIfInBounds_toArray, List.set_cons_zero, List.set_cons_succ])
        refine wpPT_take (v := ?_) (by kernel_rfl) (fun wS hSw => ?_) ?_
        rotate_left
        · (try dsimp only at hSw); go_simp; (try with_reducible rfl)
        (try simp only [Act.put, List.setIfInBounds_toArray, List.set_cons_zero, List.set_cons_succ])
        refine wpPT_alt (by kernel_rfl) (fun K hK => ?_) ?_
        rotate_left
        · exact wpPT_stop
        have hOld := hide hHeld
        clear hHeld
        go_simp
        go_at_call 63
        refine (has_b (b := 2) hh0 hh1 (by omega) HP1.out _).mono ?_
        rintro e w' ⟨rfl, rfl⟩
        refine hK.out _ _ (hOld.out) (fun hHeld => ?_)
        clear hK K
        (try simp only [Act.put, List.setIfInBounds_toArray, List.set_cons_zero, List.set_cons_succ])
        refine wpPT_take (v := ?_) (by kernel_rfl) (fun wS hSw => ?_) ?_
        rotate_left
        · (try dsimp only at hSw); go_simp; (try with_reducible rfl)
        (try simp only [Act.put, List.setIfInBounds_toArray, List.set_cons_zero, List.set_cons_succ])
        refine wpPT_take (v := ?_) (by kernel_rfl) (fun wS hSw => ?_) ?_
        rotate_left
        · (try dsimp only at hSw); go_simp; (try with_reducible rfl)
        (try simp only [Act.put, List.setIfInBounds_toArray, List.set_cons_zero, List.set_cons_succ])
        refine wpPT_leaf ?_
        have HBD := hide (HB2.out.trans (hHeld.2.2.mono HB2.out.size))
        clear hHeld
        have d0 : w2.drew.cell? ⟨w.heap.size + 1, 0, none⟩ = some (.int .i64 x.l) := HO2.out.drew.cell 0
        have d1 : w2.drew.cell? ⟨w.heap.size + 1, 1, none⟩ = some (.int .i64 x.i) := HO2.out.drew.cell 1
        have d2 : w2.drew.cell? ⟨w.heap.size + 1, 2, none⟩ = some (.int .i64 x.g) := HO2.out.drew.cell 2
        have d6 : w2.drew.cell? ⟨w.heap.size, 6, none⟩ = some (.int .i64 x.s) := HR2.out.drew.cell 6
        have d7 : w2.drew.cell? ⟨w.heap.size, 0, none⟩ = some (.int .i64 x.h) := HR2.out.drew.cell 0
        cases hp2 : bitI x.h 2
        · have HP2 : Hid (decide (x.h / 4 % 2 = 1) = false) := hide (by rw [← hb2, hp2])
          have HQ2 := hide hp2
          clear hp2
          cases hz : decide (x.l = 0 ∧ x.i = 0 ∧ x.g = 0)
          · have hEZ := eq_orz hz
            have HZD := hide hz
            clear hz
            go_wp2_with (go_at_call 63; first | ((with_reducible refine (has_b (b := 4) hh0 hh1 (by omega) HP2.out _).mono ?_); rintro e w' ⟨rfl, rfl⟩))
            go_ret
            exact BoolB.eq (by rw [← HRES.out, HEQ.out, hc1, hc2, hc3, hc4, hc5, hc6, hc7, HQ0.out, HQ1.out, HDQ.out, HQ2.out, HZD.out]; rfl) HBD.out
          · have hEZ := eq_orz hz
            have HZD := hide hz
            clear hz
            cases hp3 : bitI x.h 3
            · have HP3 : Hid (decide (x.h / 8 % 2 = 1) = false) := hide (by rw [← hb3, hp3])
              have HQ3 := hide hp3
              clear hp3
              cases hs : decide (x.s = 0)
              · have hs2 : (x.s == 0) = false := hs
                have HSD := hide hs
                clear hs
                go_wp2_with (go_at_call 63; first | ((with_reducible refine (has_b (b := 4) hh0 hh1 (by omega) HP2.out _).mono ?_); rintro e w' ⟨rfl, rfl⟩) | ((with_reducible refine (has_b (b := 8) hh0 hh1 (by omega) HP3.out _).mono ?_); rintro e w' ⟨rfl, rfl⟩))
                go_ret
                exact BoolB.eq (by rw [← HRES.out, HEQ.out, hc1, hc2, hc3, hc4, hc5, hc6, hc7, HQ0.out, HQ1.out, HDQ.out, HQ2.out, HZD.out, HQ3.out, HSD.out]; rfl) HBD.out
              · have hs2 : (x.s == 0) = true := hs
                have HSD := hide hs
                clear hs
                go_wp2_with (go_at_call 63; first | ((with_reducible refine (has_b (b := 4) hh0 hh1 (by omega) HP2.out _).mono ?_); rintro e w' ⟨rfl, rfl⟩) | ((with_reducible refine (has_b (b := 8) hh0 hh1 (by omega) HP3.out _).mono ?_); rintro e w' ⟨rfl, rfl⟩))
                go_ret
                exact BoolB.eq (by rw [← HRES.out, HEQ.out, hc1, hc2, hc3, hc4, hc5, hc6, hc7, HQ0.out, HQ1.out, HDQ.out, HQ2.out, HZD.out, HQ3.out, HSD.out]; rfl) HBD.out
            · have HP3 : Hid (decide (x.h / 8 % 2 = 1) = true) := hide (by rw [← hb3, hp3])
              have HQ3 := hide hp3
              clear hp3
              go_wp2_with (go_at_call 63; first | ((with_reducible refine (has_b (b := 4) hh0 hh1 (by omega) HP2.out _).mono ?_); rintro e w' ⟨rfl, rfl⟩) | ((with_reducible refine (has_b (b := 8) hh0 hh1 (by omega) HP3.out _).mono ?_); rintro e w' ⟨rfl, rfl⟩))
              go_ret
              exact BoolB.eq (by rw [← HRES.out, HEQ.out, hc1, hc2, hc3, hc4, hc5, hc6, hc7, HQ0.out, HQ1.out, HDQ.out, HQ2.out, HZD.out, HQ3.out]; rfl) HBD.out
        · have HP2 : Hid (decide (x.h / 4 % 2 = 1) = true) := hide (by rw [← hb2, hp2])
          have HQ2 := hide hp2
          clear hp2
          cases hp3 : bitI x.h 3
          · have HP3 : Hid (decide (x.h / 8 % 2 = 1) = false) := hide (by rw [← hb3, hp3])
            have HQ3 := hide hp3
            clear hp3
            cases hs : decide (x.s = 0)
            · have hs2 : (x.s == 0) = false := hs
              have HSD := hide hs
              clear hs
              go_wp2_with (go_at_call 63; first | ((with_reducible refine (has_b (b := 4) hh0 hh1 (by omega) HP2.out _).mono ?_); rintro e w' ⟨rfl, rfl⟩) | ((with_reducible refine (has_b (b := 8) hh0 hh1 (by omega) HP3.out _).mono ?_); rintro e w' ⟨rfl, rfl⟩))
              go_ret
              exact BoolB.eq (by rw [← HRES.out, HEQ.out, hc1, hc2, hc3, hc4, hc5, hc6, hc7, HQ0.out, HQ1.out, HDQ.out, HQ2.out, HQ3.out, HSD.out]; rfl) HBD.out
            · have hs2 : (x.s == 0) = true := hs
              have HSD := hide hs
              clear hs
              go_wp2_with (go_at_call 63; first | ((with_reducible refine (has_b (b := 4) hh0 hh1 (by omega) HP2.out _).mono ?_); rintro e w' ⟨rfl, rfl⟩) | ((with_reducible refine (has_b (b := 8) hh0 hh1 (by omega) HP3.out _).mono ?_); rintro e w' ⟨rfl, rfl⟩))
              go_ret
              exact BoolB.eq (by rw [← HRES.out, HEQ.out, hc1, hc2, hc3, hc4, hc5, hc6, hc7, HQ0.out, HQ1.out, HDQ.out, HQ2.out, HQ3.out, HSD.out]; rfl) HBD.out
          · have HP3 : Hid (decide (x.h / 8 % 2 = 1) = true) := hide (by rw [← hb3, hp3])
            have HQ3 := hide hp3
            clear hp3
            go_wp2_with (go_at_call 63; first | ((with_reducible refine (has_b (b := 4) hh0 hh1 (by omega) HP2.out _).mono ?_); rintro e w' ⟨rfl, rfl⟩) | ((with_reducible refine (has_b (b := 8) hh0 hh1 (by omega) HP3.out _).mono ?_); rintro e w' ⟨rfl, rfl⟩))
            go_ret
            exact BoolB.eq (by rw [← HRES.out, HEQ.out, hc1, hc2, hc3, hc4, hc5, hc6, hc7, HQ0.out, HQ1.out, HDQ.out, HQ2.out, HQ3.out]; rfl) HBD.out
      · have HDQ := hide hq
        refine wp_region_G (fun w' => (w'.cell? ⟨w.heap.size, 0, none⟩ = some (.int .i64 x.h) ∧ w'.cell? ⟨w.heap.size, 1, none⟩ = some (.int .i64 x.o)) ∧ w'.cell? ⟨w.heap.size, 2, none⟩ = some (.string ⟨x.r.toArray⟩) ∧ Below w2.heap.size w2 w') (.take 0 (.take 1 (.alt 2 (.take 3 (.take 4 (.take 5 (.take 6 (.take 7 (.take 8 (.take 9 (.take 10 (.take 11 (.take 13 (.take 14 (.take 15 (.take 16 (.alt 12 (.take 17 (.take 18 .leaf)) .stop)))))))))))))) .stop))) (by kernel_rfl) (by kernel_rfl) (by kernel_rfl) (by kernel_rfl) rfl (fun _ _ _ _ _ h => h) ⟨⟨c0, c1⟩, c2, below_drew (below_self w2)⟩ (fun hHeld => ?_)
        simp only [PT.map, List.getElem?_toArray, List.getElem?_cons_succ, List.getElem?_cons_zero]
        refine wpPT_take (v := ?_) (by kernel_rfl) (fun wS hSw => ?_) ?_
        rotate_left
        · (try dsimp only at hSw); go_simp; (try with_reducible rfl)
        (try simp only [Act.put, List.setIfInBounds_toArray, List.set_cons_zero, List.set_cons_succ])
        refine wpPT_take (v := ?_) (by kernel_rfl) (fun wS hSw => ?_) ?_
        rotate_left
        · (try dsimp only at hSw); go_simp; (try with_reducible rfl)
        (try simp only [Act.put, List.setIfInBounds_toArray, List.set_cons_zero, List.set_cons_succ])
        refine wpPT_alt (by kernel_rfl) (fun K hK => ?_) ?_
        rotate_left
        · exact wpPT_stop
        have hOld := hide hHeld
        clear hHeld
        go_simp
        go_at_call 63
        refine (has_b (b := 1) hh0 hh1 (by omega) HP0.out _).mono ?_
        rintro e w' ⟨rfl, rfl⟩
        refine hK.out _ _ (hOld.out) (fun hHeld => ?_)
        clear hK K
        (try simp only [Act.put, List.setIfInBounds_toArray, List.set_cons_zero, List.set_cons_succ])
        refine wpPT_take (v := ?_) (by kernel_rfl) (fun wS hSw => ?_) ?_
        rotate_left
        · (try dsimp only at hSw); go_simp; (try with_reducible rfl)
        (try simp only [Act.put, List.setIfInBounds_toArray, List.set_cons_zero, List.set_cons_succ])
        refine wpPT_take (v := ?_) (by kernel_rfl) (fun wS hSw => ?_) ?_
        rotate_left
        · (try dsimp only at hSw); go_simp; (try with_reducible rfl)
        (try simp only [Act.put, List.setIfInBounds_toArray, List.set_cons_zero, List.set_cons_succ])
        refine wpPT_skip (by kernel_rfl) ?_
        (try simp only [Act.put, List.setIfInBounds_toArray, List.set_cons_zero, List.set_cons_succ])
        refine wpPT_skip (by kernel_rfl) ?_
        (try simp only [Act.put, List.setIfInBounds_toArray, List.set_cons_zero, List.set_cons_succ])
        refine wpPT_skip (by kernel_rfl) ?_
        (try simp only [Act.put, List.setIfInBounds_toArray, List.set_cons_zero, List.set_cons_succ])
        refine wpPT_take (v := ?_) (by kernel_rfl) (fun wS hSw => ?_) ?_
        rotate_left
        · (try dsimp only at hSw); go_simp; (try with_reducible rfl)
        (try simp only [Act.put, List.setIfInBounds_toArray, List.set_cons_zero, List.set_cons_succ])
        refine wpPT_take (v := ?_) (by kernel_rfl) (fun wS hSw => ?_) ?_
        rotate_left
        · (try dsimp only at hSw); go_simp; (try with_reducible rfl)
        (try simp only [Act.put, List.setIfInBounds_toArray, List.set_cons_zero, List.set_cons_succ])
        refine wpPT_take (v := ?_) (by kernel_rfl) (fun wS hSw => ?_) ?_
        rotate_left
        · (try dsimp only at hSw); go_simp; (try with_reducible rfl)
        (try simp only [Act.put, List.setIfInBounds_toArray, List.set_cons_zero, List.set_cons_succ])
        refine wpPT_take (v := ?_) (by kernel_rfl) (fun wS hSw => ?_) ?_
        rotate_left
        · (try dsimp only at hSw); go_simp; (try with_reducible rfl)
        (try simp only [Act.put, List.setIfInBounds_toArray, List.set_cons_zero, List.set_cons_succ])
        refine wpPT_take (v := ?_) (by kernel_rfl) (fun wS hSw => ?_) ?_
        rotate_left
        · (try dsimp only at hSw); go_simp; (try with_reducible rfl)
        (try simp only [Act.put, List.setIfInBounds_toArray, List.set_cons_zero, List.set_cons_succ])
        refine wpPT_take (v := ?_) (by kernel_rfl) (fun wS hSw => ?_) ?_
        rotate_left
        · (try dsimp only at hSw); go_simp; (try with_reducible rfl)
        (try simp only [Act.put, List.setIfInBounds_toArray, List.set_cons_zero, List.set_cons_succ])
        refine wpPT_take (v := ?_) (by kernel_rfl) (fun wS hSw => ?_) ?_
        rotate_left
        · (try dsimp only at hSw); go_simp; (try with_reducible rfl)
        (try simp only [Act.put, List.setIfInBounds_toArray, List.set_cons_zero, List.set_cons_succ])
        refine wpPT_take (v := ?_) (by kernel_rfl) (fun wS hSw => ?_) ?_
        rotate_left
        · (try dsimp only at hSw); go_simp; (try with_reducible rfl)
        (try simp only [Act.put, List.setIfInBounds_toArray, List.set_cons_zero, List.set_cons_succ])
        refine wpPT_alt (by kernel_rfl) (fun K hK => ?_) ?_
        rotate_left
        · exact wpPT_stop
        have hOld := hide hHeld
        clear hHeld
        go_simp
        go_at_call 63
        refine (has_b (b := 2) hh0 hh1 (by omega) HP1.out _).mono ?_
        rintro e w' ⟨rfl, rfl⟩
        refine hK.out _ _ (hOld.out) (fun hHeld => ?_)
        clear hK K
        (try simp only [Act.put, List.setIfInBounds_toArray, List.set_cons_zero, List.set_cons_succ])
        refine wpPT_take (v := ?_) (by kernel_rfl) (fun wS hSw => ?_) ?_
        rotate_left
        · (try dsimp only at hSw); go_simp; (try with_reducible rfl)
        (try simp only [Act.put, List.setIfInBounds_toArray, List.set_cons_zero, List.set_cons_succ])
        refine wpPT_take (v := ?_) (by kernel_rfl) (fun wS hSw => ?_) ?_
        rotate_left
        · (try dsimp only at hSw); go_simp; (try with_reducible rfl)
        (try simp only [Act.put, List.setIfInBounds_toArray, List.set_cons_zero, List.set_cons_succ])
        refine wpPT_leaf ?_
        have HBD := hide (HB2.out.trans (hHeld.2.2.mono HB2.out.size))
        clear hHeld
        have d0 : w2.drew.cell? ⟨w.heap.size + 1, 0, none⟩ = some (.int .i64 x.l) := HO2.out.drew.cell 0
        have d1 : w2.drew.cell? ⟨w.heap.size + 1, 1, none⟩ = some (.int .i64 x.i) := HO2.out.drew.cell 1
        have d2 : w2.drew.cell? ⟨w.heap.size + 1, 2, none⟩ = some (.int .i64 x.g) := HO2.out.drew.cell 2
        have d6 : w2.drew.cell? ⟨w.heap.size, 6, none⟩ = some (.int .i64 x.s) := HR2.out.drew.cell 6
        have d7 : w2.drew.cell? ⟨w.heap.size, 0, none⟩ = some (.int .i64 x.h) := HR2.out.drew.cell 0
        go_wp2_with fail
        go_ret
        exact BoolB.eq (by rw [← HRES.out, HEQ.out, hc1, hc2, hc3, hc4, hc5, hc6, hc7, HQ0.out, HQ1.out, HDQ.out]; rfl) HBD.out
    · have HP1 : Hid (decide (x.h / 2 % 2 = 1) = true) := hide (by rw [← hb1, hp1])
      have HQ1 := hide hp1
      clear hp1
      cases hq : decide (0 < x.r.length)
      · have HDQ := hide hq
        refine wp_region_G (fun w' => (w'.cell? ⟨w.heap.size, 0, none⟩ = some (.int .i64 x.h) ∧ w'.cell? ⟨w.heap.size, 1, none⟩ = some (.int .i64 x.o)) ∧ w'.cell? ⟨w.heap.size, 2, none⟩ = some (.string ⟨x.r.toArray⟩) ∧ Below w2.heap.size w2 w') (.take 0 (.take 1 (.alt 2 (.take 3 (.take 4 (.take 5 (.take 6 (.take 7 (.take 8 (.take 9 (.take 10 (.take 11 (.take 13 (.take 14 (.take 15 (.take 16 (.alt 12 (.take 17 (.take 18 .leaf)) .stop)))))))))))))) .stop))) (by kernel_rfl) (by kernel_rfl) (by kernel_rfl) (by kernel_rfl) rfl (fun _ _ _ _ _ h => h) ⟨⟨c0, c1⟩, c2, below_drew (below_self w2)⟩ (fun hHeld => ?_)
        simp only [PT.map, List.getElem?_toArray, List.getElem?_cons_succ, List.getElem?_cons_zero]
        refine wpPT_take (v := ?_) (by kernel_rfl) (fun wS hSw => ?_) ?_
        rotate_left
        · (try dsimp only at hSw); go_simp; (try with_reducible rfl)
        (try simp only [Act.put, List.setIfInBounds_toArray, List.set_cons_zero, List.set_cons_succ])
        refine wpPT_take (v := ?_) (by kernel_rfl) (fun wS hSw => ?_) ?_
        rotate_left
        · (try dsimp only at hSw); go_simp; (try with_reducible rfl)
        (try simp only [Act.put, List.setIfInBounds_toArray, List.set_cons_zero, List.set_cons_succ])
        refine wpPT_alt (by kernel_rfl) (fun K hK => ?_) ?_
        rotate_left
        · exact wpPT_stop
        have hOld := hide hHeld
        clear hHeld
        go_simp
        go_at_call 63
        refine (has_b (b := 1) hh0 hh1 (by omega) HP0.out _).mono ?_
        rintro e w' ⟨rfl, rfl⟩
        refine hK.out _ _ (hOld.out) (fun hHeld => ?_)
        clear hK K
        (try simp only [Act.put, List.setIfInBounds_toArray, List.set_cons_zero, List.set_cons_succ])
        refine wpPT_take (v := ?_) (by kernel_rfl) (fun wS hSw => ?_) ?_
        rotate_left
        · (try dsimp only at hSw); go_simp; (try with_reducible rfl)
        (try simp only [Act.put, List.setIfInBounds_toArray, List.set_cons_zero, List.set_cons_succ])
        refine wpPT_take (v := ?_) (by kernel_rfl) (fun wS hSw => ?_) ?_
        rotate_left
        · (try dsimp only at hSw); go_simp; (try with_reducible rfl)
        (try simp only [Act.put, List.setIfInBounds_toArray, List.set_cons_zero, List.set_cons_succ])
        refine wpPT_skip (by kernel_rfl) ?_
        (try simp only [Act.put, List.setIfInBounds_toArray, List.set_cons_zero, List.set_cons_succ])
        refine wpPT_skip (by kernel_rfl) ?_
        (try simp only [Act.put, List.setIfInBounds_toArray, List.set_cons_zero, List.set_cons_succ])
        refine wpPT_skip (by kernel_rfl) ?_
        (try simp only [Act.put, List.setIfInBounds_toArray, List.set_cons_zero, List.set_cons_succ])
        refine wpPT_take (v := ?_) (by kernel_rfl) (fun wS hSw => ?_) ?_
        rotate_left
        · (try dsimp only at hSw); go_simp; (try with_reducible rfl)
        (try simp only [Act.put, List.setIfInBounds_toArray, List.set_cons_zero, List.set_cons_succ])
        refine wpPT_take (v := ?_) (by kernel_rfl) (fun wS hSw => ?_) ?_
        rotate_left
        · (try dsimp only at hSw); go_simp; (try with_reducible rfl)
        (try simp only [Act.put, List.setIfInBounds_toArray, List.set_cons_zero, List.set_cons_succ])
        refine wpPT_take (v := ?_) (by kernel_rfl) (fun wS hSw => ?_) ?_
        rotate_left
        · (try dsimp only at hSw); go_simp; (try with_reducible rfl)
        (try simp only [Act.put, List.setIfInBounds_toArray, List.set_cons_zero, List.set_cons_succ])
        refine wpPT_take (v := ?_) (by kernel_rfl) (fun wS hSw => ?_) ?_
        rotate_left
        · (try dsimp only at hSw); go_simp; (try with_reducible rfl)
        (try simp only [Act.put, List.setIfInBounds_toArray, List.set_cons_zero, List.set_cons_succ])
        refine wpPT_take (v := ?_) (by kernel_rfl) (fun wS hSw => ?_) ?_
        rotate_left
        · (try dsimp only at hSw); go_simp; (try with_reducible rfl)
        (try simp only [Act.put, List.setIfInBounds_toArray, List.set_cons_zero, List.set_cons_succ])
        refine wpPT_take (v := ?_) (by kernel_rfl) (fun wS hSw => ?_) ?_
        rotate_left
        · (try dsimp only at hSw); go_simp; (try with_reducible rfl)
        (try simp only [Act.put, List.setIfInBounds_toArray, List.set_cons_zero, List.set_cons_succ])
        refine wpPT_take (v := ?_) (by kernel_rfl) (fun wS hSw => ?_) ?_
        rotate_left
        · (try dsimp only at hSw); go_simp; (try with_reducible rfl)
        (try simp only [Act.put, List.setIfInBounds_toArray, List.set_cons_zero, List.set_cons_succ])
        refine wpPT_take (v := ?_) (by kernel_rfl) (fun wS hSw => ?_) ?_
        rotate_left
        · (try dsimp only at hSw); go_simp; (try with_reducible rfl)
        (try simp only [Act.put, List.setIfInBounds_toArray, List.set_cons_zero, List.set_cons_succ])
        refine wpPT_alt (by kernel_rfl) (fun K hK => ?_) ?_
        rotate_left
        · exact wpPT_stop
        have hOld := hide hHeld
        clear hHeld
        go_simp
        go_at_call 63
        refine (has_b (b := 2) hh0 hh1 (by omega) HP1.out _).mono ?_
        rintro e w' ⟨rfl, rfl⟩
        refine hK.out _ _ (hOld.out) (fun hHeld => ?_)
        clear hK K
        (try simp only [Act.put, List.setIfInBounds_toArray, List.set_cons_zero, List.set_cons_succ])
        refine wpPT_take (v := ?_) (by kernel_rfl) (fun wS hSw => ?_) ?_
        rotate_left
        · (try dsimp only at hSw); go_simp; (try with_reducible rfl)
        (try simp only [Act.put, List.setIfInBounds_toArray, List.set_cons_zero, List.set_cons_succ])
        refine wpPT_take (v := ?_) (by kernel_rfl) (fun wS hSw => ?_) ?_
        rotate_left
        · (try dsimp only at hSw); go_simp; (try with_reducible rfl)
        (try simp only [Act.put, List.setIfInBounds_toArray, List.set_cons_zero, List.set_cons_succ])
        refine wpPT_leaf ?_
        have HBD := hide (HB2.out.trans (hHeld.2.2.mono HB2.out.size))
        clear hHeld
        have d0 : w2.drew.cell? ⟨w.heap.size + 1, 0, none⟩ = some (.int .i64 x.l) := HO2.out.drew.cell 0
        have d1 : w2.drew.cell? ⟨w.heap.size + 1, 1, none⟩ = some (.int .i64 x.i) := HO2.out.drew.cell 1
        have d2 : w2.drew.cell? ⟨w.heap.size + 1, 2, none⟩ = some (.int .i64 x.g) := HO2.out.drew.cell 2
        have d6 : w2.drew.cell? ⟨w.heap.size, 6, none⟩ = some (.int .i64 x.s) := HR2.out.drew.cell 6
        have d7 : w2.drew.cell? ⟨w.heap.size, 0, none⟩ = some (.int .i64 x.h) := HR2.out.drew.cell 0
        go_wp2_with fail
        go_ret
        exact BoolB.eq (by rw [← HRES.out, HEQ.out, hc1, hc2, hc3, hc4, hc5, hc6, hc7, HQ0.out, HQ1.out, HDQ.out]; rfl) HBD.out
      · have HDQ := hide hq
        refine wp_region_G (fun w' => (w'.cell? ⟨w.heap.size, 0, none⟩ = some (.int .i64 x.h) ∧ w'.cell? ⟨w.heap.size, 1, none⟩ = some (.int .i64 x.o)) ∧ w'.cell? ⟨w.heap.size, 2, none⟩ = some (.string ⟨x.r.toArray⟩) ∧ Below w2.heap.size w2 w') (.take 0 (.take 1 (.alt 2 (.take 3 (.take 4 (.take 5 (.take 6 (.take 7 (.take 8 (.take 9 (.take 10 (.take 11 (.take 13 (.take 14 (.take 15 (.take 16 (.alt 12 (.take 17 (.take 18 .leaf)) .stop)))))))))))))) .stop))) (by kernel_rfl) (by kernel_rfl) (by kernel_rfl) (by kernel_rfl) rfl (fun _ _ _ _ _ h => h) ⟨⟨c0, c1⟩, c2, below_drew (below_self w2)⟩ (fun hHeld => ?_)
        simp only [PT.map, List.getElem?_toArray, List.getElem?_cons_succ, List.getElem?_cons_zero]
        refine wpPT_take (v := ?_) (by kernel_rfl) (fun wS hSw => ?_) ?_
        rotate_left
        · (try dsimp only at hSw); go_simp; (try with_reducible rfl)
        (try simp only [Act.put, List.setIfInBounds_toArray, List.set_cons_zero, List.set_cons_succ])
        refine wpPT_take (v := ?_) (by kernel_rfl) (fun wS hSw => ?_) ?_
        rotate_left
        · (try dsimp only at hSw); go_simp; (try with_reducible rfl)
        (try simp only [Act.put, List.setIfInBounds_toArray, List.set_cons_zero, List.set_cons_succ])
        refine wpPT_alt (by kernel_rfl) (fun K hK => ?_) ?_
        rotate_left
        · exact wpPT_stop
        have hOld := hide hHeld
        clear hHeld
        go_simp
        go_at_call 63
        refine (has_b (b := 1) hh0 hh1 (by omega) HP0.out _).mono ?_
        rintro e w' ⟨rfl, rfl⟩
        refine hK.out _ _ (hOld.out) (fun hHeld => ?_)
        clear hK K
        (try simp only [Act.put, List.setIfInBounds_toArray, List.set_cons_zero, List.set_cons_succ])
        refine wpPT_take (v := ?_) (by kernel_rfl) (fun wS hSw => ?_) ?_
        rotate_left
        · (try dsimp only at hSw); go_simp; (try with_reducible rfl)
        (try simp only [Act.put, List.setIfInBounds_toArray, List.set_cons_zero, List.set_cons_succ])
        refine wpPT_take (v := ?_) (by kernel_rfl) (fun wS hSw => ?_) ?_
        rotate_left
        · (try dsimp only at hSw); go_simp; (try with_reducible rfl)
        (try simp only [Act.put, List.setIfInBounds_toArray, List.set_cons_zero, List.set_cons_succ])
        refine wpPT_skip (by kernel_rfl) ?_
        (try simp only [Act.put, List.setIfInBounds_toArray, List.set_cons_zero, List.set_cons_succ])
        refine wpPT_skip (by kernel_rfl) ?_
        (try simp only [Act.put, List.setIfInBounds_toArray, List.set_cons_zero, List.set_cons_succ])
        refine wpPT_skip (by kernel_rfl) ?_
        (try simp only [Act.put, List.setIfInBounds_toArray, List.set_cons_zero, List.set_cons_succ])
        refine wpPT_take (v := ?_) (by kernel_rfl) (fun wS hSw => ?_) ?_
        rotate_left
        · (try dsimp only at hSw); go_simp; (try with_reducible rfl)
        (try simp only [Act.put, List.setIfInBounds_toArray, List.set_cons_zero, List.set_cons_succ])
        refine wpPT_take (v := ?_) (by kernel_rfl) (fun wS hSw => ?_) ?_
        rotate_left
        · (try dsimp only at hSw); go_simp; (try with_reducible rfl)
        (try simp only [Act.put, List.setIfInBounds_toArray, List.set_cons_zero, List.set_cons_succ])
        refine wpPT_take (v := ?_) (by kernel_rfl) (fun wS hSw => ?_) ?_
        rotate_left
        · (try dsimp only at hSw); go_simp; (try with_reducible rfl)
        (try simp only [Act.put, List.setIfInBounds_toArray, List.set_cons_zero, List.set_cons_succ])
        refine wpPT_take (v := ?_) (by kernel_rfl) (fun wS hSw => ?_) ?_
        rotate_left
        · (try dsimp only at hSw); go_simp; (try with_reducible rfl)
        (try simp only [Act.put, List.setIfInBounds_toArray, List.set_cons_zero, List.set_cons_succ])
        refine wpPT_take (v := ?_) (by kernel_rfl) (fun wS hSw => ?_) ?_
        rotate_left
        · (try dsimp only at hSw); go_simp; (try with_reducible rfl)
        (try simp only [Act.put, List.setIfInBounds_toArray, List.set_cons_zero, List.set_cons_succ])
        refine wpPT_take (v := ?_) (by kernel_rfl) (fun wS hSw => ?_) ?_
        rotate_left
        · (try dsimp only at hSw); go_simp; (try with_reducible rfl)
        (try simp only [Act.put, List.setIfInBounds_toArray, List.set_cons_zero, List.set_cons_succ])
        refine wpPT_take (v := ?_) (by kernel_rfl) (fun wS hSw => ?_) ?_
        rotate_left
        · (try dsimp only at hSw); go_simp; (try with_reducible rfl)
        (try simp only [Act.put, List.setIfInBounds_toArray, List.set_cons_zero, List.set_cons_succ])
        refine wpPT_take (v := ?_) (by kernel_rfl) (fun wS hSw => ?_) ?_
        rotate_left
        · (try dsimp only at hSw); go_simp; (try with_reducible rfl)
        (try simp only [Act.put, List.setIfInBounds_toArray, List.set_cons_zero, List.set_cons_succ])
        refine wpPT_alt (by kernel_rfl) (fun K hK => ?_) ?_
        rotate_left
        · exact wpPT_stop
        have hOld := hide hHeld
        clear hHeld
        go_simp
        go_at_call 63
        refine (has_b (b := 2) hh0 hh1 (by omega) HP1.out _).mono ?_
        rintro e w' ⟨rfl, rfl⟩
        refine hK.out _ _ (hOld.out) (fun hHeld => ?_)
        clear hK K
        (try simp only [Act.put, List.setIfInBounds_toArray, List.set_cons_zero, List.set_cons_succ])
        refine wpPT_take (v := ?_) (by kernel_rfl) (fun wS hSw => ?_) ?_
        rotate_left
        · (try dsimp only at hSw); go_simp; (try with_reducible rfl)
        (try simp only [Act.put, List.setIfInBounds_toArray, List.set_cons_zero, List.set_cons_succ])
        refine wpPT_take (v := ?_) (by kernel_rfl) (fun wS hSw => ?_) ?_
        rotate_left
        · (try dsimp only at hSw); go_simp; (try with_reducible rfl)
        (try simp only [Act.put, List.setIfInBounds_toArray, List.set_cons_zero, List.set_cons_succ])
        refine wpPT_leaf ?_
        have HBD := hide (HB2.out.trans (hHeld.2.2.mono HB2.out.size))
        clear hHeld
        have d0 : w2.drew.cell? ⟨w.heap.size + 1, 0, none⟩ = some (.int .i64 x.l) := HO2.out.drew.cell 0
        have d1 : w2.drew.cell? ⟨w.heap.size + 1, 1, none⟩ = some (.int .i64 x.i) := HO2.out.drew.cell 1
        have d2 : w2.drew.cell? ⟨w.heap.size + 1, 2, none⟩ = some (.int .i64 x.g) := HO2.out.drew.cell 2
        have d6 : w2.drew.cell? ⟨w.heap.size, 6, none⟩ = some (.int .i64 x.s) := HR2.out.drew.cell 6
        have d7 : w2.drew.cell? ⟨w.heap.size, 0, none⟩ = some (.int .i64 x.h) := HR2.out.drew.cell 0
        cases hp2 : bitI x.h 2
        · have HP2 : Hid (decide (x.h / 4 % 2 = 1) = false) := hide (by rw [← hb2, hp2])
          have HQ2 := hide hp2
          clear hp2
          cases hz : decide (x.l = 0 ∧ x.i = 0 ∧ x.g = 0)
          · have hEZ := eq_orz hz
            have HZD := hide hz
            clear hz
            go_wp2_with (go_at_call 63; first | ((with_reducible refine (has_b (b := 4) hh0 hh1 (by omega) HP2.out _).mono ?_); rintro e w' ⟨rfl, rfl⟩))
            go_ret
            exact BoolB.eq (by rw [← HRES.out, HEQ.out, hc1, hc2, hc3, hc4, hc5, hc6, hc7, HQ0.out, HQ1.out, HDQ.out, HQ2.out, HZD.out]; rfl) HBD.out
          · have hEZ := eq_orz hz
            have HZD := hide hz
            clear hz
            cases hp3 : bitI x.h 3
            · have HP3 : Hid (decide (x.h / 8 % 2 = 1) = false) := hide (by rw [← hb3, hp3])
              have HQ3 := hide hp3
              clear hp3
              cases hs : decide (x.s = 0)
              · have hs2 : (x.s == 0) = false := hs
                have HSD := hide hs
                clear hs
                go_wp2_with (go_at_call 63; first | ((with_reducible refine (has_b (b := 4) hh0 hh1 (by omega) HP2.out _).mono ?_); rintro e w' ⟨rfl, rfl⟩) | ((with_reducible refine (has_b (b := 8) hh0 hh1 (by omega) HP3.out _).mono ?_); rintro e w' ⟨rfl, rfl⟩))
                go_ret
                exact BoolB.eq (by rw [← HRES.out, HEQ.out, hc1, hc2, hc3, hc4, hc5, hc6, hc7, HQ0.out, HQ1.out, HDQ.out, HQ2.out, HZD.out, HQ3.out, HSD.out]; rfl) HBD.out
              · have hs2 : (x.s == 0) = true := hs
                have HSD := hide hs
                clear hs
                go_wp2_with (go_at_call 63; first | ((with_reducible refine (has_b (b := 4) hh0 hh1 (by omega) HP2.out _).mono ?_); rintro e w' ⟨rfl, rfl⟩) | ((with_reducible refine (has_b (b := 8) hh0 hh1 (by omega) HP3.out _).mono ?_); rintro e w' ⟨rfl, rfl⟩))
                go_ret
                exact BoolB.eq (by rw [← HRES.out, HEQ.out, hc1, hc2, hc3, hc4, hc5, hc6, hc7, HQ0.out, HQ1.out, HDQ.out, HQ2.out, HZD.out, HQ3.out, HSD.out]; rfl) HBD.out
            · have HP3 : Hid (decide (x.h / 8 % 2 = 1) = true) := hide (by rw [← hb3, hp3])
              have HQ3 := hide hp3
              clear hp3
              go_wp2_with (go_at_call 63; first | ((with_reducible refine (has_b (b := 4) hh0 hh1 (by omega) HP2.out _).mono ?_); rintro e w' ⟨rfl, rfl⟩) | ((with_reducible refine (has_b (b := 8) hh0 hh1 (by omega) HP3.out _).mono ?_); rintro e w' ⟨rfl, rfl⟩))
              go_ret
              exact BoolB.eq (by rw [← HRES.out, HEQ.out, hc1, hc2, hc3, hc4, hc5, hc6, hc7, HQ0.out, HQ1.out, HDQ.out, HQ2.out, HZD.out, HQ3.out]; rfl) HBD.out
        · have HP2 : Hid (decide (x.h / 4 % 2 = 1) = true) := hide (by rw [← hb2, hp2])
          have HQ2 := hide hp2
          clear hp2
          cases hp3 : bitI x.h 3
          · have HP3 : Hid (decide (x.h / 8 % 2 = 1) = false) := hide (by rw [← hb3, hp3])
            have HQ3 := hide hp3
            clear hp3
            cases hs : decide (x.s = 0)
            · have hs2 : (x.s == 0) = false := hs
              have HSD := hide hs
              clear hs
              go_wp2_with (go_at_call 63; first | ((with_reducible refine (has_b (b := 4) hh0 hh1 (by omega) HP2.out _).mono ?_); rintro e w' ⟨rfl, rfl⟩) | ((with_reducible refine (has_b (b := 8) hh0 hh1 (by omega) HP3.out _).mono ?_); rintro e w' ⟨rfl, rfl⟩))
              go_ret
              exact BoolB.eq (by rw [← HRES.out, HEQ.out, hc1, hc2, hc3, hc4, hc5, hc6, hc7, HQ0.out, HQ1.out, HDQ.out, HQ2.out, HQ3.out, HSD.out]; rfl) HBD.out
            · have hs2 : (x.s == 0) = true := hs
              have HSD := hide hs
              clear hs
              go_wp2_with (go_at_call 63; first | ((with_reducible refine (has_b (b := 4) hh0 hh1 (by omega) HP2.out _).mono ?_); rintro e w' ⟨rfl, rfl⟩) | ((with_reducible refine (has_b (b := 8) hh0 hh1 (by omega) HP3.out _).mono ?_); rintro e w' ⟨rfl, rfl⟩))
              go_ret
              exact BoolB.eq (by rw [← HRES.out, HEQ.out, hc1, hc2, hc3, hc4, hc5, hc6, hc7, HQ0.out, HQ1.out, HDQ.out, HQ2.out, HQ3.out, HSD.out]; rfl) HBD.out
          · have HP3 : Hid (decide (x.h / 8 % 2 = 1) = true) := hide (by rw [← hb3, hp3])
            have HQ3 := hide hp3
            clear hp3
            go_wp2_with (go_at_call 63; first | ((with_reducible refine (has_b (b := 4) hh0 hh1 (by omega) HP2.out _).mono ?_); rintro e w' ⟨rfl, rfl⟩) | ((with_reducible refine (has_b (b := 8) hh0 hh1 (by omega) HP3.out _).mono ?_); rintro e w' ⟨rfl, rfl⟩))
            go_ret
            exact BoolB.eq (by rw [← HRES.out, HEQ.out, hc1, hc2, hc3, hc4, hc5, hc6, hc7, HQ0.out, HQ1.out, HDQ.out, HQ2.out, HQ3.out]; rfl) HBD.out
end Go.Proofs.Ythjjjeolpdekoaa
