/- The contract of the program's dev Write that comes through. -/
import Derived.Test.YtnjmddmiebofeaaDevG
import Derived.Test.YtnjmddmiebofeaaPlanM
namespace Go.Proofs.Ytnjmddmiebofeaa
open Go.RowKit Plain

set_option maxRecDepth 100000 in
set_option maxHeartbeats 3200000 in
theorem DWrite_raw {w : World} {base dp k gs cs gl cl n m c i : Nat} {A B : Option Addr} {safe last : List (List UInt8)} {wait : List (Int × List UInt8)} {armed off : Bool} {left wn fl : Int} {x : List UInt8}
    (hne : gs ≠ gl) (hbd : base ≤ dp) (hr : RowL w dp 79 [.slice (some ⟨gs, 0, none⟩) n cs, .slice (some ⟨gl, 0, none⟩) n cl, .slice A m c, .bool armed, .bool off, .int .i64 left, .int .i64 wn, .int .i64 fl])
    (hs : SecR w base gs n cs safe) (hl : SecR w base gl n cl last) (hw : w.ownsRow base 90 65 (.slice A m c) m (wcells wait)) (hi : i < n) (hm : m ≤ 100000) (hx : RdE Enc.byte w (Far w base) B 64 x)
    (hf : fails armed off left = false) (hl0 : armed = true → 0 ≤ left) (hl1 : left ≤ 9223372036854775807) (hw0 : 0 ≤ wn) (hw1 : wn ≤ 100000) :
    Calls Try.prog 42 #[dptr dp, .int .i64 i, .slice B 64 k] w (fun e w' => e = .returned (.int .i64 0) ∧ DFr base w w' ∧ ∃ A' c',
      RowL w' dp 79 [.slice (some ⟨gs, 0, none⟩) n cs, .slice (some ⟨gl, 0, none⟩) n cl, .slice A' (m + 1) c', .bool armed, .bool off, .int .i64 (leftD armed left), .int .i64 (wn + 1), .int .i64 fl] ∧
      SecR w' base gs n cs safe ∧ SecR w' base gl n cl (last.set i x) ∧ w'.ownsRow base 90 65 (.slice A' (m + 1) c') (m + 1) (wcells (wait ++ [((i : Int), x)]))) := by
  obtain ⟨lf, hlf⟩ : ∃ l, leftD armed left = l := ⟨_, rfl⟩
  have hxl := hx.len
  have hk1 : (i : Int) < (n : Int) := by omega
  have HNE := hide hne
  have HBD := hide hbd
  have HR := hide hr
  have HS := hide hs
  have HL := hide hl
  have HW := hide hw
  have HX := hide hx
  have HF := hide hf
  have HL0 := hide hl0
  have HLF := hide hlf
  have HXL := hide hxl
  clear hne hbd hr hs hl hw hx hf hl0 hxl
  rw [hlf]
  clear hlf
  unfold dptr
  go_enter Try.func42, Try.ntmps42
  go_wp2_with fail
  refine (DReach_ok HR.out (by omega) hk1).mono ?_
  rintro e w' ⟨rfl, rfl⟩
  go_wp2_with fail
  refine (DDraw_yes HR.out HF.out HL0.out hl1).mono ?_
  rw [HLF.out]
  rintro e w1 ⟨rfl, hr1, hg1, hz1⟩
  have HF1 : Hid (DFr base w w1) := hide (DFr.of_grown hg1 HBD.out HR.out (.inr (.inl rfl)))
  have HS1 := hide (HS.out.other hg1 HR.out (by decide))
  have HL1 := hide (HL.out.other hg1 HR.out (by decide))
  have HW1 := hide (ownsRow_other HW.out hg1 HR.out (by decide))
  have HR1 := hide hr1
  have HX1' := hide (HF1.out.rd HX.out)
  clear hr1 hg1 hz1
  obtain ⟨bb, oo, rfl, hbb, hcell⟩ := HX1'.out.2 (by omega)
  have hcx : ∀ j v, (bvs x)[j]? = some v → w1.cell? ⟨bb, oo + j, none⟩ = some v := fun j v hv => by
    obtain ⟨y, hy, rfl⟩ := bvs_of_get hv
    obtain ⟨ys, hys, hc⟩ := hcell j y hy
    obtain rfl : ys = [bv y] := hys
    have := hc 0 _ rfl
    rwa [show oo + (j * Enc.byte.k + 0) = oo + j from by show oo + (j * 1 + 0) = _; omega] at this
  have HCX := hide hcx
  have HX64 : Hid ((bvs x).length = 64) := hide (by rw [bvs_length]; exact HXL.out)
  have HW65 : Hid ((wcell ((i : Int), x)).length = 65) := hide (wcell_len HXL.out)
  have HX1 : Hid (((wcell ((i : Int), x)).drop 1).take 64 = bvs x) := hide (by
    show (bvs x).take 64 = _
    rw [List.take_of_length_le (by rw [HX64.out]; exact Nat.le_refl _)])
  have hat := fun (W : World) => run_arrayAt (P := Try.prog) W 76 5 64 (some ⟨bb, oo, none⟩) 64 k Try.underlying76 (Nat.le_refl _)
  have HBL := hide (build_wrt (p := ((i : Int), x)) HXL.out)
  clear hcell hbb hcx
  go_wp2_with (first
    | ((with_reducible refine wpList_loadX rfl 76 (.tmp 26) rfl 64 sec_agg sec_size bb oo rfl (bvs x) HCX.out HX64.out ?_))
    | ((with_reducible refine wpList_build2 rfl 90 0 1 (.tmp 24) (.tmp 27) rfl (.int .i64 i) (.agg (bvs x).toArray) (.agg (wcell (↑i, x)).toArray) rfl rfl (HBL.out _) ?_))
    | ((with_reducible refine wpList_allocC rfl 90 rfl zwrt wrt_zero ?_); intro w2 hr2 hb2 hz2; have HR2 := hide hr2; have HB2 := hide hb2; clear hr2 hb2 hz2)
    | ((with_reducible refine wpList_storeC rfl 90 (.tmp 9) (.tmp 28) rfl 65 wrt_size w1.heap.size 0 90 rfl _ (wcell (↑i, x)) rfl HR2.out HW65.out (by decide) (wcell_one _) ?_); intro w3 hr3 hb3 hz3; have HB3 : Hid (RowL w3 w1.heap.size 90 (wcell (↑i, x))) := hide (box_wrt hr3 HXL.out); have HBL3 : Hid (Below w1.heap.size w1 w3) := hide (HB2.out.grown hb3 HB2.out.size (by intro q hq; cases hq; exact Nat.le_refl _)); clear hr3 hb3 hz3))
  have HSZ := hide HBL3.out.size
  have HLT := hide HB3.out.lt
  have HR3 : Hid (RowL w3 dp 79 [.slice (some ⟨gs, 0, none⟩) n cs, .slice (some ⟨gl, 0, none⟩) n cl, .slice A m c, .bool armed, .bool off, .int .i64 lf, .int .i64 wn, .int .i64 fl]) := hide ((HBL3.out.block dp HR1.out.lt).trans HR1.out)
  have HS3 := hide (HS1.out.keep (HBL3.out.block gs HS1.out.lt))
  have HL3 := hide (HL1.out.keep (HBL3.out.block gl HL1.out.lt))
  have HW3 := hide (ownsRow_keep (w' := w3) HW1.out fun g cs hr => HBL3.out.block g hr.lt)
  have HF3 : Hid (DFr base w w3) := hide (HF1.out.trans (DFr.of_below HBL3.out))
  obtain ⟨gcs, hgr, hgl⟩ := HL3.out.row
  have HGR := hide hgr
  have HGL := hide hgl
  have hnc := HL3.out.2.1
  clear hgr hgl hat
  obtain ⟨⟨c0, c1, c2, c3, c4, c5, c6, c7⟩, f0, f1, f2, f3, f4, f5, f6, f7⟩ := RowL.eight HR3.out
  clear f0 f1 f2 f3 f4 f5 f6 f7 c0 c3 c4 c5 c6 c7
  refine wp_region_planL (fun w' => w' = w3.drew) [(0, true), (1, true), (2, true), (3, true), (4, true), (5, true), (6, true), (7, true)] 8 (by kernel_rfl) (by kernel_rfl) (by kernel_rfl) (by kernel_rfl) (by kernel_rfl) rfl (fun _ _ _ _ _ h => h) rfl (fun hHeld => ?_)
  simp only [planOps, List.filterMap_cons, List.filterMap_nil, List.getElem?_toArray, List.getElem?_cons_succ, List.getElem?_cons_zero, Option.map_some]
  refine wpPlan_take (v := ?_) (by kernel_rfl) (fun wS hSw => ?_) ?_
  rotate_left
  · (try dsimp only at hSw); go_simp; (try with_reducible rfl)
  (try simp only [Act.put, List.setIfInBounds_toArray, List.set_cons_zero, List.set_cons_succ])
  refine wpPlan_take (v := ?_) (by kernel_rfl) (fun wS hSw => ?_) ?_
  rotate_left
  · (try dsimp only at hSw); go_simp; (try with_reducible rfl)
  (try simp only [Act.put, List.setIfInBounds_toArray, List.set_cons_zero, List.set_cons_succ])
  refine wpPlan_take (v := ?_) (by kernel_rfl) (fun wS hSw => ?_) ?_
  rotate_left
  · (try dsimp only at hSw); go_simp; (try with_reducible rfl)
  (try simp only [Act.put, List.setIfInBounds_toArray, List.set_cons_zero, List.set_cons_succ])
  refine wpPlan_take (v := ?_) (by kernel_rfl) (fun wS hSw => ?_) ?_
  rotate_left
  · (try dsimp only at hSw); go_simp; (try with_reducible rfl)
  (try simp only [Act.put, List.setIfInBounds_toArray, List.set_cons_zero, List.set_cons_succ])
  refine wpPlan_take (v := ?_) (by kernel_rfl) (fun wS hSw => ?_) ?_
  rotate_left
  · (try dsimp only at hSw); go_simp; (try with_reducible rfl)
  (try simp only [Act.put, List.setIfInBounds_toArray, List.set_cons_zero, List.set_cons_succ])
  refine wpPlan_take (v := ?_) (by kernel_rfl) (fun wS hSw => ?_) ?_
  rotate_left
  · (try dsimp only at hSw); go_simp; (try with_reducible rfl)
  (try simp only [Act.put, List.setIfInBounds_toArray, List.set_cons_zero, List.set_cons_succ])
  refine wpPlan_take (v := ?_) (by kernel_rfl) (fun wS hSw => ?_) ?_
  rotate_left
  · subst hSw; (refine exec_loadC (w := w3.drew) 76 (.tmp 34) ?_ 64 sec_agg sec_size w1.heap.size 1 90 ?_ (wcell (↑i, x)) (bvs x) HB3.out HX1.out HX64.out <;> rfl)
  (try simp only [Act.put, List.setIfInBounds_toArray, List.set_cons_zero, List.set_cons_succ])
  refine wpPlan_take (v := ?_) (by kernel_rfl) (fun wS hSw => ?_) ?_
  rotate_left
  · (try dsimp only at hSw); go_simp; (try with_reducible rfl)
  (try simp only [Act.put, List.setIfInBounds_toArray, List.set_cons_zero, List.set_cons_succ])
  refine wpPlan_end ?_
  refine postL_go rfl (by kernel_rfl) ?_
  clear hHeld
  refine wp_storeC 76 (.tmp 36) (.tmp 35) rfl 64 sec_size gl (i * 64) 76 rfl gcs (bvs x) rfl HGR.out HX64.out (by have := HGL.out; omega) (bvs_one _) ?_
  intro w4 hr4 hg4' hz4
  have hg4 := grown_drew hg4'
  have HR4 := hide (HR3.out.other hg4 HGR.out (by decide))
  have HBX4 := hide (HB3.out.other hg4 HGR.out (by decide))
  have HS4 := hide (HS3.out.apart hg4 HNE.out)
  have HL4 := hide (HL3.out.store HGR.out hi HXL.out hr4)
  have HW4 := hide (ownsRow_other HW3.out hg4 HGR.out (by decide))
  have HF4 := hide (HF3.out.trans (DFr.of_grown hg4 HL3.out.base HGR.out (.inl rfl)))
  have HLT1 := hide (lit_wrt (p := ((i : Int), x)) HXL.out)
  have hal := below_new (below_self w4.drew) (.cells (wcell (↑i, x)).toArray 90)
  have HAL := hide hal
  have HR5 : Hid (RowL (w4.drew.alloc (.cells (wcell (↑i, x)).toArray 90)) dp 79 [.slice (some ⟨gs, 0, none⟩) n cs, .slice (some ⟨gl, 0, none⟩) n cl, .slice A m c, .bool armed, .bool off, .int .i64 lf, .int .i64 wn, .int .i64 fl]) := hide ((hal.block dp HR4.out.lt).trans HR4.out)
  have HBX5 : Hid (RowL (w4.drew.alloc (.cells (wcell (↑i, x)).toArray 90)) w1.heap.size 90 (wcell (↑i, x))) := hide ((hal.block _ HBX4.out.lt).trans HBX4.out)
  have HW5 : Hid (World.ownsRow (w4.drew.alloc (.cells (wcell (↑i, x)).toArray 90)) base 90 65 (.slice A m c) m (wcells wait)) := hide (ownsRow_keep HW4.out fun g cs hr => hal.block g hr.lt)
  have HLR : Hid (RowL (w4.drew.alloc (.cells (wcell (↑i, x)).toArray 90)) w4.heap.size 90 (wcell (↑i, x))) := hide (RowL.new w4.drew 90 _)
  have HF5 : Hid (DFr base w (w4.drew.alloc (.cells (wcell (↑i, x)).toArray 90))) := hide (HF4.out.trans ((DFr.drew base w4).trans (DFr.of_below hal)))
  have HBS : Hid (base ≤ (World.heap (w4.drew.alloc (.cells (wcell (↑i, x)).toArray 90))).size) := hide (Nat.le_trans (Nat.le_trans HBD.out (Nat.le_of_lt HR4.out.lt)) hal.size)
  clear hal
  have HZ4 := hide (show w4.heap.size = w3.heap.size from hz4)
  clear hr4 hg4 hg4' hz4 c1 c2 hnc
  go_simp
  go_wp2_with fail
  refine wp_region_planM (fun w' => RowL w' dp 79 [.slice (some ⟨gs, 0, none⟩) n cs, .slice (some ⟨gl, 0, none⟩) n cl, .slice A m c, .bool armed, .bool off, .int .i64 lf, .int .i64 wn, .int .i64 fl] ∧ RowL w' w1.heap.size 90 (wcell (↑i, x)) ∧ w'.cell? ⟨dp, 2, none⟩ = some (.slice A m c)) [(0, true), (1, true), (2, true), (3, true), (4, true), (5, true), (6, false), (7, false), (8, true), (9, true)] 10 (by kernel_rfl) (by kernel_rfl) (by kernel_rfl) (by kernel_rfl) (by kernel_rfl) rfl (fun _ _ _ _ _ h => h) ⟨HR4.out, HBX4.out, HR4.out.cell 2⟩ (fun hHeld => ?_)
  simp only [planOps, List.filterMap_cons, List.filterMap_nil, List.getElem?_toArray, List.getElem?_cons_succ, List.getElem?_cons_zero, Option.map_some]
  refine wpPlan_take (v := ?_) (by kernel_rfl) (fun wS hSw => ?_) ?_
  rotate_left
  · (try dsimp only at hSw); go_simp; (try with_reducible rfl)
  (try simp only [Act.put, List.setIfInBounds_toArray, List.set_cons_zero, List.set_cons_succ])
  refine wpPlan_take (v := ?_) (by kernel_rfl) (fun wS hSw => ?_) ?_
  rotate_left
  · (try dsimp only at hSw); go_simp; (try with_reducible rfl)
  (try simp only [Act.put, List.setIfInBounds_toArray, List.set_cons_zero, List.set_cons_succ])
  refine wpPlan_take (v := ?_) (by kernel_rfl) (fun wS hSw => ?_) ?_
  rotate_left
  · (try dsimp only at hSw); go_simp; (try with_reducible rfl)
  (try simp only [Act.put, List.setIfInBounds_toArray, List.set_cons_zero, List.set_cons_succ])
  refine wpPlan_take (v := ?_) (by kernel_rfl) (fun wS hSw => ?_) ?_
  rotate_left
  · (try dsimp only at hSw); go_simp; (try with_reducible rfl)
  (try simp only [Act.put, List.setIfInBounds_toArray, List.set_cons_zero, List.set_cons_succ])
  refine wpPlan_take (v := ?_) (by kernel_rfl) (fun wS hSw => ?_) ?_
  rotate_left
  · (try dsimp only at hSw); go_simp; (try with_reducible rfl)
  (try simp only [Act.put, List.setIfInBounds_toArray, List.set_cons_zero, List.set_cons_succ])
  refine wpPlan_take (v := ?_) (by kernel_rfl) (fun wS hSw => ?_) ?_
  rotate_left
  · (refine exec_loadC 90 (.tmp 9) ?_ 65 wrt_agg wrt_size w1.heap.size 0 90 ?_ (wcell (↑i, x)) (wcell (↑i, x)) hSw.2.1 (by rw [List.drop_zero, List.take_of_length_le (by rw [HW65.out]; exact Nat.le_refl _)]) HW65.out <;> rfl)
  (try simp only [Act.put, List.setIfInBounds_toArray, List.set_cons_zero, List.set_cons_succ])
  refine wpPlan_call (by kernel_rfl) (fun K hK => ?_)
  have hOld := hide hHeld
  clear hHeld
  refine wp_lit1 77 (.tmp 42) ?_ (.agg (wcell (↑i, x)).toArray) _ ?_ (HLT1.out w4.drew) ?_
  · rfl
  · rfl
  refine hK.out _ _ (⟨HR5.out, HBX5.out, HR5.out.cell 2⟩) (fun hHeld => ?_)
  clear hK K
  (try simp only [Act.put, List.setIfInBounds_toArray, List.set_cons_zero, List.set_cons_succ])
  refine wpPlan_call (by kernel_rfl) (fun K hK => ?_)
  have hOld := hide hHeld
  clear hHeld
  obtain ⟨it, hti, htz, hts, htb⟩ := info_parts wrt_info
  refine wp_append_own _ (.tmp 41) (.tmp 43) 77 rfl base 90 it zwrt 65 72 Try.underlying77 hti htz hts htb rfl (by omega) (.slice A m c) m (wcells wait) rfl HW5.out ⟨w4.heap.size, 0, none⟩ 1 1 (wcell (↑i, x)) rfl (by rw [HW65.out]) (fun j u hu => by rw [Addr.add_lit, Nat.zero_add]; exact (RowL.cell HLR.out j).trans hu) (wcell_one _) (by unfold maxLen; omega) (by omega) HBS.out ?_
  intro v6 w6 hown6 hg6 hne6
  obtain ⟨g6, k6, hv6⟩ := own_form hown6
  subst hv6
  have HO6 := hide hown6
  have HR6 : Hid (RowL w6 dp 79 [.slice (some ⟨gs, 0, none⟩) n cs, .slice (some ⟨gl, 0, none⟩) n cl, .slice A m c, .bool armed, .bool off, .int .i64 lf, .int .i64 wn, .int .i64 fl]) := hide (own_other HW5.out hg6 HR5.out (by decide))
  have HBX6 : Hid (RowL w6 w1.heap.size 90 (wcell (↑i, x))) := hide (HBX5.out.grown hg6 (fun eq => by have := (World.ownsRow.lt HW1.out _ eq.symm).2; omega))
  have HS6 := hide (HS4.out.of_row fun cs hr => own_other HW5.out hg6 (show RowL (w4.drew.alloc (.cells (wcell (↑i, x)).toArray 90)) gs 76 cs from (HAL.out.block gs hr.lt).trans hr) (by decide))
  have HL6 := hide (HL4.out.of_row fun cs hr => own_other HW5.out hg6 (show RowL (w4.drew.alloc (.cells (wcell (↑i, x)).toArray 90)) gl 76 cs from (HAL.out.block gl hr.lt).trans hr) (by decide))
  have HF6 : Hid (DFr base w w6) := hide (HF5.out.trans (DFr.of_own HW5.out hg6 (.inr (.inr rfl))))
  clear hown6 hg6 hne6 hti htz hts htb
  refine hK.out _ _ (⟨HR6.out, HBX6.out, HR6.out.cell 2⟩) (fun hHeld => ?_)
  clear hK K
  (try simp only [Act.put, List.setIfInBounds_toArray, List.set_cons_zero, List.set_cons_succ])
  refine wpPlan_take (v := ?_) (by kernel_rfl) (fun wS hSw => ?_) ?_
  rotate_left
  · (try dsimp only at hSw); go_simp; (try with_reducible rfl)
  (try simp only [Act.put, List.setIfInBounds_toArray, List.set_cons_zero, List.set_cons_succ])
  refine wpPlan_take (v := ?_) (by kernel_rfl) (fun wS hSw => ?_) ?_
  rotate_left
  · (try dsimp only at hSw); go_simp; (try with_reducible rfl)
  (try simp only [Act.put, List.setIfInBounds_toArray, List.set_cons_zero, List.set_cons_succ])
  refine wpPlan_end ?_
  refine postL_go rfl (by kernel_rfl) ?_
  obtain ⟨⟨c0, c1, c2, c3, c4, c5, c6, c7⟩, f0, f1, f2, f3, f4, f5, f6, f7⟩ := RowL.eight HR6.out
  have hwn : IntKind.i64.wrap (wn + 1) = wn + 1 := IntWalk.i64_in _ (by omega)
  have hr8 := (HR6.out.set_ 2 (.slice (some ⟨g6, 0, none⟩) (m + 1) k6)).set_ 6 (.int .i64 (wn + 1))
  have hg8 := only_setCell (grown_set w6 dp 2 (.slice (some ⟨g6, 0, none⟩) (m + 1) k6)) 6 (.int .i64 (wn + 1))
  have HR8 := hide hr8
  have HG8 := hide hg8
  clear hHeld hr8 hg8
  unfold Oper.wp execOp
  go_simp
  go_wp2_with fail
  go_ret
  refine ⟨rfl, HF6.out.trans (DFr.of_grown HG8.out HBD.out HR6.out (.inr (.inl rfl))), _, _, HR8.out, HS6.out.other HG8.out HR6.out (by decide), HL6.out.other HG8.out HR6.out (by decide), ?_⟩
  rw [wcells_snoc]
  exact ownsRow_other HO6.out HG8.out HR6.out (by decide)
theorem DWrite_ok {w : World} {base dp k i : Nat} {s : DSt} {B : Option Addr} {x : List UInt8} (h : DK w base dp s) (ok : DOk s) (hi : i < s.safe.length) (hx : RdE Enc.byte w (Far w base) B 64 x) (hf : fails s.armed s.off s.left = false) :
    Calls Try.prog 42 #[dptr dp, .int .i64 i, .slice B 64 k] w (StepRet base w dp (writeD s i x) 0) := by
  obtain ⟨gs, cs, gl, cl, A, c, hne, hbd, hr, hs, hl, hw⟩ := h
  refine (DWrite_raw hne hbd hr hs hl hw hi ok.m hx hf ok.left0 ok.left1 ok.wr.1 ok.wr.2).mono ?_
  rintro e w' ⟨he, hfr, A', c', h1, h2, h3, h4⟩
  have hml : (s.wait ++ [((i : Int), x)]).length = s.wait.length + 1 := by simp
  refine ⟨he, ⟨gs, cs, gl, cl, A', c', hne, hbd, ?_, h2, h3, ?_⟩, hfr⟩
  · simpa [dcells, writeD] using h1
  · simpa [writeD] using h4
end Go.Proofs.Ytnjmddmiebofeaa
