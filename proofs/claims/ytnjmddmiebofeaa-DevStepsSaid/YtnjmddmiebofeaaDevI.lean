/- The contract of the program's dev Flush. -/
import Derived.Test.YtnjmddmiebofeaaDevH
namespace Go.Proofs.Ytnjmddmiebofeaa
open Go.RowKit Plain

def flushD (s : DSt) : DSt := { s with safe := flushTo s.safe s.wait s.wait.length, wait := [], left := leftD s.armed s.left, fl := s.fl + 1 }
set_option maxRecDepth 100000 in
set_option maxHeartbeats 3200000 in
theorem DFlush_dark {w : World} {base dp : Nat} {s : DSt} (h : DK w base dp s) (hf : fails s.armed s.off s.left = true) :
    Calls Try.prog 47 #[dptr dp] w (StepRet base w dp (dark s) 4) := by
  obtain ⟨safe, last, wait, armed, off, left, wn, fl⟩ := s
  obtain ⟨gs, cs, gl, cl, A, c, hne, hbd, hr, hs, hl, hw⟩ := h
  simp only [dcells] at hr hs hl hw
  dsimp only at hf
  have HR := hide hr
  have HF := hide hf
  have HH : Hid (∀ w', w.grownBy w' (some dp) → RowL w' dp 79 (dcells gs cs gl cl A c ⟨safe, last, wait, armed, true, left, wn, fl⟩) → DK w' base dp (dark ⟨safe, last, wait, armed, off, left, wn, fl⟩)) := hide fun w' hg hr' => DK.head (s := dark ⟨safe, last, wait, armed, off, left, wn, fl⟩) hne hbd hs hl hw hr hg hr'
  have HD := hide hbd
  clear hs hl hw hr hf hbd hne
  unfold dptr
  go_enter Try.func47, Try.ntmps47
  go_wp2_with fail
  refine (DDraw_no HR.out HF.out).mono ?_
  rintro e w1 ⟨rfl, hr1, hg1, hz1⟩
  have HK1 := hide (HH.out w1 hg1 hr1)
  have HF1 := hide (DFr.of_grown (base := base) hg1 HD.out HR.out (.inr (.inl rfl)))
  clear hr1 hg1 hz1
  go_wp2_with fail
  go_ret
  exact ⟨rfl, HK1.out, HF1.out⟩
set_option maxRecDepth 100000 in
set_option maxHeartbeats 3200000 in
theorem DFlush_raw {w : World} {base dp gs cs gl cl n m c : Nat} {A : Option Addr} {safe last : List (List UInt8)} {wait : List (Int × List UInt8)} {armed off : Bool} {left wn fl : Int} (hne : gs ≠ gl) (hbd : base ≤ dp) (hr : RowL w dp 79 [.slice (some ⟨gs, 0, none⟩) n cs, .slice (some ⟨gl, 0, none⟩) n cl, .slice A m c, .bool armed, .bool off, .int .i64 left, .int .i64 wn, .int .i64 fl])
    (hs : SecR w base gs n cs safe) (hl : SecR w base gl n cl last) (hw : w.ownsRow base 90 65 (.slice A m c) m (wcells wait)) (hml : wait.length = m) (hat : ∀ p ∈ wait, 0 ≤ p.1 ∧ p.1 < n ∧ p.2.length = 64) (hm : m ≤ 100000)
    (hf : fails armed off left = false) (hl0 : armed = true → 0 ≤ left) (hl1 : left ≤ 9223372036854775807) (hw0 : 0 ≤ fl) (hw1 : fl ≤ 100000) :
    Calls Try.prog 47 #[dptr dp] w (fun e w' => e = .returned (.int .i64 0) ∧ DFr base w w' ∧
      RowL w' dp 79 [.slice (some ⟨gs, 0, none⟩) n cs, .slice (some ⟨gl, 0, none⟩) n cl, .slice none 0 0, .bool armed, .bool off, .int .i64 (leftD armed left), .int .i64 wn, .int .i64 (fl + 1)] ∧
      SecR w' base gs n cs (flushTo safe wait m) ∧ SecR w' base gl n cl last) := by
  obtain ⟨lf, hlf⟩ : ∃ l, leftD armed left = l := ⟨_, rfl⟩
  have HNE := hide hne
  have HBD := hide hbd
  have HR := hide hr
  have HS := hide hs
  have HL := hide hl
  have HW := hide hw
  have HM := hide hml
  have HAT := hide hat
  have HF := hide hf
  have HL0 := hide hl0
  have HLF := hide hlf
  clear hne hbd hr hs hl hw hml hat hf hl0
  rw [hlf]
  clear hlf
  unfold dptr
  go_enter Try.func47, Try.ntmps47
  go_wp2_with fail
  refine (DDraw_yes HR.out HF.out HL0.out hl1).mono ?_
  rw [HLF.out]
  rintro e w1 ⟨rfl, hr1, hg1, hz1⟩
  have HF1 : Hid (DFr base w w1) := hide (DFr.of_grown hg1 HBD.out HR.out (.inr (.inl rfl)))
  have HS1 := hide (HS.out.other hg1 HR.out (by decide))
  have HL1 := hide (HL.out.other hg1 HR.out (by decide))
  have HW1 := hide (ownsRow_other HW.out hg1 HR.out (by decide))
  have HR1 := hide hr1
  clear hr1 hg1 hz1
  obtain ⟨⟨c0, c1, c2, c3, c4, c5, c6, c7⟩, f0, f1, f2, f3, f4, f5, f6, f7⟩ := RowL.eight HR1.out
  clear f0 f1 f2 f3 f4 f5 f6 f7 c0 c1 c3 c4 c5 c6 c7
  go_wp2_with fail
  clear c2
  go_loopw [18] (fun iv wr => ∃ k : Nat, k ≤ m ∧ iv = .int .i64 k ∧ RowL wr dp 79 [.slice (some ⟨gs, 0, none⟩) n cs, .slice (some ⟨gl, 0, none⟩) n cl, .slice A m c, .bool armed, .bool off, .int .i64 lf, .int .i64 wn, .int .i64 fl] ∧ SecR wr base gs n cs (flushTo safe wait k) ∧ SecR wr base gl n cl last ∧ wr.ownsRow base 90 65 (.slice A m c) m (wcells wait) ∧ DFr base w wr) (fun iv _ => m - (intOf iv).toNat)
  case atStart => exact ⟨0, by omega, rfl, HR1.out, HS1.out, HL1.out, HW1.out, HF1.out⟩
  case round =>
    obtain ⟨k, hk, rfl, hr, hs, hl, hw, hfr⟩ := hrel
    have HRr := hide hr
    have HSr := hide hs
    have HLr := hide hl
    have HWr := hide hw
    have HFr := hide hfr
    clear hr hs hl hw hfr
    by_cases hlt : k < m
    · obtain ⟨p, hp⟩ : ∃ p, wait[k]? = some p := ⟨_, List.getElem?_eq_getElem (by have := HM.out; omega)⟩
      have hpm := List.mem_of_getElem? hp
      obtain ⟨hp0, hpn, hp64⟩ := HAT.out p hpm
      obtain ⟨gw, ws, rfl, hgb, hgr, hgc, hg65⟩ := wt_get HWr.out HM.out (fun p hp => (HAT.out p hp).2.2) hp
      obtain ⟨q, hq⟩ : ∃ q : Nat, p.1 = q := ⟨p.1.toNat, by omega⟩
      have hqn : q < n := by omega
      have HGR := hide hgr
      have HGC := hide hgc
      have HW65 := hide hg65
      have HP64 := hide hp64
      have HQ := hide hq
      have HX64 : Hid ((bvs p.2).length = 64) := hide (by rw [bvs_length]; exact hp64)
      have HX1 : Hid (((wcell p).drop 1).take 64 = bvs p.2) := hide (by
        show (bvs p.2).take 64 = _
        rw [List.take_of_length_le (by rw [bvs_length, hp64]; exact Nat.le_refl _)])
      have HGD : Hid (wait.getD k (0, []) = p) := hide (by simp [List.getD, hp])
      have hw0 : (wcell p)[0]? = some (.int .i64 q) := by rw [← hq]; rfl
      have HW0 := hide hw0
      clear hp hpm hp0 hpn hp64 hgb hgr hgc hg65 hq hw0
      go_wp2_with (first
  | ((with_reducible refine wpList_loadC rfl 90 (.tmp 20) rfl 65 wrt_agg wrt_size gw (k * 65) 90 rfl ws (wcell p) HGR.out HGC.out HW65.out ?_))
  | ((with_reducible refine wpList_allocC rfl 90 rfl zwrt wrt_zero ?_); intro w2 hr2 hb2 hz2; have HR2 := hide hr2; have HB2 := hide hb2; clear hr2 hb2 hz2)
  | ((with_reducible refine wpList_storeC rfl 90 (.tmp 5) (.tmp 21) rfl 65 wrt_size wr.heap.size 0 90 rfl _ (wcell p) rfl HR2.out HW65.out (by decide) (wcell_one _) ?_); intro w3 hr3 hb3 hz3; have HBX3 : Hid (RowL w3 wr.heap.size 90 (wcell p)) := hide (box_wrt hr3 HP64.out); have HB3 : Hid (Below wr.heap.size wr w3) := hide (HB2.out.grown hb3 HB2.out.size (by intro q hq; cases hq; exact Nat.le_refl _)); clear hr3 hb3 hz3))
      have HR3 : Hid (RowL w3 dp 79 [.slice (some ⟨gs, 0, none⟩) n cs, .slice (some ⟨gl, 0, none⟩) n cl, .slice (some ⟨gw, 0, none⟩) m c, .bool armed, .bool off, .int .i64 lf, .int .i64 wn, .int .i64 fl]) := hide ((HB3.out.block dp HRr.out.lt).trans HRr.out)
      have HS3 := hide (HSr.out.keep (HB3.out.block gs HSr.out.lt))
      have HL3 := hide (HLr.out.keep (HB3.out.block gl HLr.out.lt))
      have HW3 := hide (ownsRow_keep (w' := w3) HWr.out fun g cs hr => HB3.out.block g hr.lt)
      have HF3 : Hid (DFr base w w3) := hide (HFr.out.trans (DFr.of_below HB3.out))
      obtain ⟨gcs, hgr, hgl⟩ := HS3.out.row
      have HGS := hide hgr
      have HGL := hide hgl
      have hnc := HS3.out.2.1
      have b0 : w3.cell? ⟨wr.heap.size, 0, none⟩ = some (.int .i64 q) := (HBX3.out.cell 0).trans HW0.out
      clear hgr hgl
      obtain ⟨⟨c0, c1, c2, c3, c4, c5, c6, c7⟩, f0, f1, f2, f3, f4, f5, f6, f7⟩ := RowL.eight HR3.out
      clear f0 f1 f2 f3 f4 f5 f6 f7 c3 c4 c5 c6 c7
      refine wp_region_planM (fun w' => w' = w3.drew) [(0, true), (1, true), (2, true), (3, true), (4, true), (5, true), (6, true), (7, true), (8, true)] 9 (by kernel_rfl) (by kernel_rfl) (by kernel_rfl) (by kernel_rfl) (by kernel_rfl) rfl (fun _ _ _ _ _ h => h) rfl (fun hHeld => ?_)
      simp only [planOps, List.filterMap_cons, List.filterMap_nil, List.getElem?_toArray, List.getElem?_cons_succ, List.getElem?_cons_zero, Option.map_some]
      refine wpPlan_take (v := ?_) (by kernel_rfl) (fun wS hSw => ?_) ?_
      rotate_left
      · (try dsimp only at hSw); go_simp; (try with_reducible rfl)
      (try simp only [Act.put, List.setIfInBounds_toArray, List.set_cons_zero, List.set_cons_succ])
      refine wpPlan_take (v := ?_) (by kernel_rfl) (fun wS hSw => ?_) ?_
      rotate_left
      · (try dsimp only at hSw); go_simp; (try with_reducible rfl)
      (try simp only [Act.put, List.setIfInBounds_toArray, List.set_cons_zero, List.set_cons_succ])
      refine wpPlan_take (v := ?_) (by kernel_rfl) (fun wS hSw => ?_) ?_
      rotate_left
      · (try dsimp only at hSw); go_simp; (try with_reducible rfl)
      (try simp only [Act.put, List.setIfInBounds_toArray, List.set_cons_zero, List.set_cons_succ])
      refine wpPlan_take (v := ?_) (by kernel_rfl) (fun wS hSw => ?_) ?_
      rotate_left
      · (try dsimp only at hSw); go_simp; (try with_reducible rfl)
      (try simp only [Act.put, List.setIfInBounds_toArray, List.set_cons_zero, List.set_cons_succ])
      refine wpPlan_take (v := ?_) (by kernel_rfl) (fun wS hSw => ?_) ?_
      rotate_left
      · (try dsimp only at hSw); go_simp; (try with_reducible rfl)
      (try simp only [Act.put, List.setIfInBounds_toArray, List.set_cons_zero, List.set_cons_succ])
      refine wpPlan_take (v := ?_) (by kernel_rfl) (fun wS hSw => ?_) ?_
      rotate_left
      · (try dsimp only at hSw); go_simp; (try with_reducible rfl)
      (try simp only [Act.put, List.setIfInBounds_toArray, List.set_cons_zero, List.set_cons_succ])
      refine wpPlan_take (v := ?_) (by kernel_rfl) (fun wS hSw => ?_) ?_
      rotate_left
      · (try dsimp only at hSw); go_simp; (try with_reducible rfl)
      (try simp only [Act.put, List.setIfInBounds_toArray, List.set_cons_zero, List.set_cons_succ])
      refine wpPlan_take (v := ?_) (by kernel_rfl) (fun wS hSw => ?_) ?_
      rotate_left
      · subst hSw; (refine exec_loadC (w := w3.drew) 76 (.tmp 28) ?_ 64 sec_agg sec_size wr.heap.size 1 90 ?_ (wcell p) (bvs p.2) HBX3.out HX1.out HX64.out <;> rfl)
      (try simp only [Act.put, List.setIfInBounds_toArray, List.set_cons_zero, List.set_cons_succ])
      refine wpPlan_take (v := ?_) (by kernel_rfl) (fun wS hSw => ?_) ?_
      rotate_left
      · (try dsimp only at hSw); go_simp; (try with_reducible rfl)
      (try simp only [Act.put, List.setIfInBounds_toArray, List.set_cons_zero, List.set_cons_succ])
      refine wpPlan_end ?_
      refine postL_go rfl (by kernel_rfl) ?_
      clear hHeld
      refine wp_storeC 76 (.tmp 30) (.tmp 29) rfl 64 sec_size gs (q * 64) 76 rfl gcs (bvs p.2) rfl HGS.out HX64.out (by have := HGL.out; omega) (bvs_one _) ?_
      intro w4 hr4 hg4' hz4
      have hg4 := grown_drew hg4'
      have HR4 := hide (HR3.out.other hg4 HGS.out (by decide))
      have HS4 := hide (HS3.out.store HGS.out hqn HP64.out hr4)
      have HL4 := hide (HL3.out.apart hg4 HNE.out.symm)
      have HW4 := hide (ownsRow_other HW3.out hg4 HGS.out (by decide))
      have HF4 := hide (HF3.out.trans (DFr.of_grown hg4 HS3.out.base HGS.out (.inl rfl)))
      clear hr4 hg4 hg4' hz4 c0 c1 c2 hnc b0
      go_simp
      go_wp2_with fail
      go_roundw
      case rel =>
        refine ⟨k + 1, by omega, by go_num, HR4.out, ?_, HL4.out, HW4.out, HF4.out⟩
        rw [flushTo_succ]
        unfold layS
        rw [HGD.out, HQ.out]
        exact HS4.out
      case measure => simp [intOf]; omega
    · have HKM : Hid (k = m) := hide (by omega)
      have hwn : IntKind.i64.wrap (fl + 1) = fl + 1 := IntWalk.i64_in _ (by omega)
      obtain ⟨⟨c0, c1, c2, c3, c4, c5, c6, c7⟩, f0, f1, f2, f3, f4, f5, f6, f7⟩ := RowL.eight HRr.out
      have hr8 := (HRr.out.set_ 2 (.slice none 0 0)).set_ 7 (.int .i64 (fl + 1))
      have hg8 := only_setCell (grown_set wr dp 2 (.slice none 0 0)) 7 (.int .i64 (fl + 1))
      have HR8 := hide hr8
      have HG8 := hide hg8
      clear hr8 hg8
      go_wp2_with fail
      go_ret
      refine ⟨rfl, HFr.out.trans (DFr.of_grown HG8.out HBD.out HRr.out (.inr (.inl rfl))), HR8.out, ?_, HLr.out.other HG8.out HRr.out (by decide)⟩
      rw [← HKM.out]
      exact HSr.out.other HG8.out HRr.out (by decide)
theorem DFlush_ok {w : World} {base dp : Nat} {s : DSt} (h : DK w base dp s) (ok : DOk s) (hf : fails s.armed s.off s.left = false) :
    Calls Try.prog 47 #[dptr dp] w (StepRet base w dp (flushD s) 0) := by
  obtain ⟨gs, cs, gl, cl, A, c, hne, hbd, hr, hs, hl, hw⟩ := h
  refine (DFlush_raw hne hbd hr hs hl hw rfl ok.at_ ok.m hf ok.left0 ok.left1 ok.fl.1 ok.fl.2).mono ?_
  rintro e w' ⟨he, hfr, h1, h2, h3⟩
  have hfl : (flushTo s.safe s.wait s.wait.length).length = s.safe.length := flushTo_len _ _ _
  refine ⟨he, ⟨gs, cs, gl, cl, none, 0, hne, hbd, ?_, ?_, ?_, World.ownsRow_nil _ _ _ _⟩, hfr⟩
  · simpa [dcells, flushD, hfl] using h1
  · simpa [flushD, hfl] using h2
  · simpa [flushD, hfl] using h3
end Go.Proofs.Ytnjmddmiebofeaa
