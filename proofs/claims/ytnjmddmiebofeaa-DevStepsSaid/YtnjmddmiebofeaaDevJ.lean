/- The contract of the program's dev Crash. -/
import Derived.Test.YtnjmddmiebofeaaDevI
namespace Go.Proofs.Ytnjmddmiebofeaa
open Go.RowKit Plain

theorem SecR.whole {w w' : World} {base base' g g' n c c' : Nat} {l l' : List (List UInt8)} {cs : List Value} (h : SecR w base g n c l) (hr : RowL w g 76 cs) (h2 : SecR w base' g' n c' l') (hr' : RowL w' g 76 (splice cs 0 (bvs l'.flatten))) : SecR w' base g n c l' := by
  obtain ⟨h1, hnc, h3, h4, h5, cs', h6, h7, h8⟩ := h
  have e : cs' = cs := by
    have := h6.symm.trans hr
    simpa [RowL] using this
  subst e
  have hfl : (bvs l'.flatten).length = 64 * n := by rw [bvs_length, flat64 h2.all, h2.len]
  refine ⟨h1, hnc, h3, h2.len, h2.all, _, hr', ?_, ?_⟩
  · rw [length_splice _ _ _ (by rw [hfl]; omega)]
    exact h7
  · unfold splice
    rw [List.take_zero, List.nil_append, ← hfl]
    exact List.take_left
def crashD (s : DSt) (kept : List Bool) : DSt := { s with safe := crashTo s.safe s.wait kept s.wait.length, last := crashTo s.safe s.wait kept s.wait.length, wait := [], armed := false, off := false }
theorem crashTo_len (safe : List (List UInt8)) (wait : List (Int × List UInt8)) (kept : List Bool) (k : Nat) : (crashTo safe wait kept k).length = safe.length := by
  induction k with
  | zero => rfl
  | succ k ih =>
    rw [crashTo_succ]
    split
    · rw [layS_length, ih]
    · exact ih

set_option maxRecDepth 100000 in
set_option maxHeartbeats 3200000 in
theorem DCrash_raw {w : World} {base dp gs cs gl cl n m c : Nat} {A : Option Addr} {safe last : List (List UInt8)} {wait : List (Int × List UInt8)} {armed off : Bool} {left wn fl : Int} {AK : Option Addr} {mk ck : Nat} {kept : List Bool} (hne : gs ≠ gl) (hbd : base ≤ dp) (hr : RowL w dp 79 [.slice (some ⟨gs, 0, none⟩) n cs, .slice (some ⟨gl, 0, none⟩) n cl, .slice A m c, .bool armed, .bool off, .int .i64 left, .int .i64 wn, .int .i64 fl])
    (hs : SecR w base gs n cs safe) (hl : SecR w base gl n cl last) (hw : w.ownsRow base 90 65 (.slice A m c) m (wcells wait)) (hml : wait.length = m) (hat : ∀ p ∈ wait, 0 ≤ p.1 ∧ p.1 < n ∧ p.2.length = 64) (hm : m ≤ 100000) (hkept : RdE Enc.bool w (Far w base) AK mk kept) :
    Calls Try.prog 43 #[dptr dp, .slice AK mk ck] w (fun e w' => e = .returned (.tuple #[]) ∧ DFr base w w' ∧
      RowL w' dp 79 [.slice (some ⟨gs, 0, none⟩) n cs, .slice (some ⟨gl, 0, none⟩) n cl, .slice none 0 0, .bool false, .bool false, .int .i64 left, .int .i64 wn, .int .i64 fl] ∧
      SecR w' base gs n cs (crashTo safe wait kept m) ∧ SecR w' base gl n cl (crashTo safe wait kept m)) := by
  have HNE := hide hne
  have HBD := hide hbd
  have HR := hide hr
  have HS := hide hs
  have HL := hide hl
  have HW := hide hw
  have HM := hide hml
  have HAT := hide hat
  have HKE := hide hkept
  have hkl := hkept.len
  have HKL := hide hkl
  obtain ⟨⟨c0, c1, c2, c3, c4, c5, c6, c7⟩, f0, f1, f2, f3, f4, f5, f6, f7⟩ := RowL.eight hr
  clear f0 f1 f2 f3 f4 f5 f6 f7 c0 c1 c3 c4 c5 c6 c7
  clear hne hbd hr hs hl hw hml hat hkept hkl
  unfold dptr
  go_enter Try.func43, Try.ntmps43
  go_wp2_with fail
  clear c2
  go_loopw [13] (fun iv wr => ∃ k : Nat, k ≤ m ∧ iv = .int .i64 k ∧ RowL wr dp 79 [.slice (some ⟨gs, 0, none⟩) n cs, .slice (some ⟨gl, 0, none⟩) n cl, .slice A m c, .bool armed, .bool off, .int .i64 left, .int .i64 wn, .int .i64 fl] ∧ SecR wr base gs n cs (crashTo safe wait kept k) ∧ SecR wr base gl n cl last ∧ wr.ownsRow base 90 65 (.slice A m c) m (wcells wait) ∧ DFr base w wr) (fun iv _ => m - (intOf iv).toNat)
  case atStart => exact ⟨0, by omega, rfl, HR.out, HS.out, HL.out, HW.out, DFr.refl _ _⟩
  case round =>
    obtain ⟨k, hk, rfl, hr, hs, hl, hw, hfr⟩ := hrel
    have HRr := hide hr
    have HSr := hide hs
    have HLr := hide hl
    have HWr := hide hw
    have HFr := hide hfr
    clear hr hs hl hw hfr
    by_cases hlt : k < m
    · obtain ⟨p, hp⟩ : ∃ p, wait[k]? = some p := ⟨_, List.getElem?_eq_getElem (by have := HM.out; omega)⟩
      have hpm := List.mem_of_getElem? hp
      obtain ⟨hp0, hpn, hp64⟩ := HAT.out p hpm
      obtain ⟨gw, ws, rfl, hgb, hgr, hgc, hg65⟩ := wt_get HWr.out HM.out (fun p hp => (HAT.out p hp).2.2) hp
      obtain ⟨q, hq⟩ : ∃ q : Nat, p.1 = q := ⟨p.1.toNat, by omega⟩
      have hqn : q < n := by omega
      have HGR := hide hgr
      have HGC := hide hgc
      have HW65 := hide hg65
      have HP64 := hide hp64
      have HQ := hide hq
      have HX64 : Hid ((bvs p.2).length = 64) := hide (by rw [bvs_length]; exact hp64)
      have HX1 : Hid (((wcell p).drop 1).take 64 = bvs p.2) := hide (by
        show (bvs p.2).take 64 = _
        rw [List.take_of_length_le (by rw [bvs_length, hp64]; exact Nat.le_refl _)])
      have HGD : Hid (wait.getD k (0, []) = p) := hide (by simp [List.getD, hp])
      have hw0 : (wcell p)[0]? = some (.int .i64 q) := by rw [← hq]; rfl
      have HW0 := hide hw0
      clear hp hpm hp0 hpn hp64 hgb hgr hgc hg65 hq hw0
      by_cases hkm : k < mk
      · obtain ⟨kv, hkv⟩ : ∃ kv, kept[k]? = some kv := ⟨_, List.getElem?_eq_getElem (by have := HKL.out; omega)⟩
        obtain ⟨bk, okk, rfl, hbk, hck⟩ := (HFr.out.rd HKE.out).get_bool hkv
        have HBK := hide hbk.1
        have HCK := hide hck
        cases kv with
        | true =>
          have HKD : Hid (kept.getD k false = true) := hide (by simp [List.getD, hkv])
          clear hkv hbk hck
          go_wp2_with (first
            | ((with_reducible refine wpList_loadC rfl 90 (.tmp 16) rfl 65 wrt_agg wrt_size gw (k * 65) 90 rfl ws (wcell p) HGR.out HGC.out HW65.out ?_))
            | ((with_reducible refine wpList_allocC rfl 90 rfl zwrt wrt_zero ?_); intro w2 hr2 hb2 hz2; have HR2 := hide hr2; have HB2 := hide hb2; clear hr2 hb2 hz2)
            | ((with_reducible refine wpList_storeC rfl 90 (.tmp 5) (.tmp 17) rfl 65 wrt_size wr.heap.size 0 90 rfl _ (wcell p) rfl HR2.out HW65.out (by decide) (wcell_one _) ?_); intro w3 hr3 hb3 hz3; have HBX3 : Hid (RowL w3 wr.heap.size 90 (wcell p)) := hide (box_wrt hr3 HP64.out); have HB3 : Hid (Below wr.heap.size wr w3) := hide (HB2.out.grown hb3 HB2.out.size (by intro q hq; cases hq; exact Nat.le_refl _)); have ck := (HB3.out.cell (p := ⟨bk, okk + k, none⟩) HBK.out).trans HCK.out; clear hr3 hb3 hz3))
          have HR3 : Hid (RowL w3 dp 79 [.slice (some ⟨gs, 0, none⟩) n cs, .slice (some ⟨gl, 0, none⟩) n cl, .slice (some ⟨gw, 0, none⟩) m c, .bool armed, .bool off, .int .i64 left, .int .i64 wn, .int .i64 fl]) := hide ((HB3.out.block dp HRr.out.lt).trans HRr.out)
          have HS3 := hide (HSr.out.keep (HB3.out.block gs HSr.out.lt))
          have HL3 := hide (HLr.out.keep (HB3.out.block gl HLr.out.lt))
          have HW3 := hide (ownsRow_keep (w' := w3) HWr.out fun g cs hr => HB3.out.block g hr.lt)
          have HF3 : Hid (DFr base w w3) := hide (HFr.out.trans (DFr.of_below HB3.out))
          obtain ⟨gcs, hgr, hgl⟩ := HS3.out.row
          have HGS := hide hgr
          have HGL := hide hgl
          have hnc := HS3.out.2.1
          have b0 : w3.cell? ⟨wr.heap.size, 0, none⟩ = some (.int .i64 q) := (HBX3.out.cell 0).trans HW0.out
          clear hgr hgl
          obtain ⟨⟨c0, c1, c2, c3, c4, c5, c6, c7⟩, f0, f1, f2, f3, f4, f5, f6, f7⟩ := RowL.eight HR3.out
          clear f0 f1 f2 f3 f4 f5 f6 f7 c3 c4 c5 c6 c7
          clear ck
          refine wp_region_planM (fun w' => w' = w3.drew) [(0, true), (1, true), (2, true), (3, true), (4, true), (5, true), (6, true), (7, true), (8, true)] 9 (by kernel_rfl) (by kernel_rfl) (by kernel_rfl) (by kernel_rfl) (by kernel_rfl) rfl (fun _ _ _ _ _ h => h) rfl (fun hHeld => ?_)
          simp only [planOps, List.filterMap_cons, List.filterMap_nil, List.getElem?_toArray, List.getElem?_cons_succ, List.getElem?_cons_zero, Option.map_some]
          refine wpPlan_take (v := ?_) (by kernel_rfl) (fun wS hSw => ?_) ?_
          rotate_left
          · (try dsimp only at hSw); go_simp; (try with_reducible rfl)
          (try simp only [Act.put, List.setIfInBounds_toArray, List.set_cons_zero, List.set_cons_succ])
          refine wpPlan_take (v := ?_) (by kernel_rfl) (fun wS hSw => ?_) ?_
          rotate_left
          · (try dsimp only at hSw); go_simp; (try with_reducible rfl)
          (try simp only [Act.put, List.setIfInBounds_toArray, List.set_cons_zero, List.set_cons_succ])
          refine wpPlan_take (v := ?_) (by kernel_rfl) (fun wS hSw => ?_) ?_
          rotate_left
          · (try dsimp only at hSw); go_simp; (try with_reducible rfl)
          (try simp only [Act.put, List.setIfInBounds_toArray, List.set_cons_zero, List.set_cons_succ])
          refine wpPlan_take (v := ?_) (by kernel_rfl) (fun wS hSw => ?_) ?_
          rotate_left
          · (try dsimp only at hSw); go_simp; (try with_reducible rfl)
          (try simp only [Act.put, List.setIfInBounds_toArray, List.set_cons_zero, List.set_cons_succ])
          refine wpPlan_take (v := ?_) (by kernel_rfl) (fun wS hSw => ?_) ?_
          rotate_left
          · (try dsimp only at hSw); go_simp; (try with_reducible rfl)
          (try simp only [Act.put, List.setIfInBounds_toArray, List.set_cons_zero, List.set_cons_succ])
          refine wpPlan_take (v := ?_) (by kernel_rfl) (fun wS hSw => ?_) ?_
          rotate_left
          · (try dsimp only at hSw); go_simp; (try with_reducible rfl)
          (try simp only [Act.put, List.setIfInBounds_toArray, List.set_cons_zero, List.set_cons_succ])
          refine wpPlan_take (v := ?_) (by kernel_rfl) (fun wS hSw => ?_) ?_
          rotate_left
          · (try dsimp only at hSw); go_simp; (try with_reducible rfl)
          (try simp only [Act.put, List.setIfInBounds_toArray, List.set_cons_zero, List.set_cons_succ])
          refine wpPlan_take (v := ?_) (by kernel_rfl) (fun wS hSw => ?_) ?_
          rotate_left
          · subst hSw; (refine exec_loadC (w := w3.drew) 76 (.tmp 34) ?_ 64 sec_agg sec_size wr.heap.size 1 90 ?_ (wcell p) (bvs p.2) HBX3.out HX1.out HX64.out <;> rfl)
          (try simp only [Act.put, List.setIfInBounds_toArray, List.set_cons_zero, List.set_cons_succ])
          refine wpPlan_take (v := ?_) (by kernel_rfl) (fun wS hSw => ?_) ?_
          rotate_left
          · (try dsimp only at hSw); go_simp; (try with_reducible rfl)
          (try simp only [Act.put, List.setIfInBounds_toArray, List.set_cons_zero, List.set_cons_succ])
          refine wpPlan_end ?_
          refine postL_go rfl (by kernel_rfl) ?_
          clear hHeld
          refine wp_storeC 76 (.tmp 36) (.tmp 35) rfl 64 sec_size gs (q * 64) 76 rfl gcs (bvs p.2) rfl HGS.out HX64.out (by have := HGL.out; omega) (bvs_one _) ?_
          intro w4 hr4 hg4' hz4
          have hg4 := grown_drew hg4'
          have HR4 := hide (HR3.out.other hg4 HGS.out (by decide))
          have HS4 := hide (HS3.out.store HGS.out hqn HP64.out hr4)
          have HL4 := hide (HL3.out.apart hg4 HNE.out.symm)
          have HW4 := hide (ownsRow_other HW3.out hg4 HGS.out (by decide))
          have HF4 := hide (HF3.out.trans (DFr.of_grown hg4 HS3.out.base HGS.out (.inl rfl)))
          clear hr4 hg4 hg4' hz4 c0 c1 c2 hnc b0
          go_simp
          go_wp2_with fail
          go_roundw
          case rel =>
            refine ⟨k + 1, by omega, by go_num, HR4.out, ?_, HL4.out, HW4.out, HF4.out⟩
            rw [crashTo_succ, if_pos HKD.out]
            unfold layS
            rw [HGD.out, HQ.out]
            exact HS4.out
          case measure => simp [intOf]; omega
        | false =>
          have HKD : Hid (kept.getD k false = false) := hide (by simp [List.getD, hkv])
          clear hkv hbk hck
          go_wp2_with (first
            | ((with_reducible refine wpList_loadC rfl 90 (.tmp 16) rfl 65 wrt_agg wrt_size gw (k * 65) 90 rfl ws (wcell p) HGR.out HGC.out HW65.out ?_))
            | ((with_reducible refine wpList_allocC rfl 90 rfl zwrt wrt_zero ?_); intro w2 hr2 hb2 hz2; have HR2 := hide hr2; have HB2 := hide hb2; clear hr2 hb2 hz2)
            | ((with_reducible refine wpList_storeC rfl 90 (.tmp 5) (.tmp 17) rfl 65 wrt_size wr.heap.size 0 90 rfl _ (wcell p) rfl HR2.out HW65.out (by decide) (wcell_one _) ?_); intro w3 hr3 hb3 hz3; have HBX3 : Hid (RowL w3 wr.heap.size 90 (wcell p)) := hide (box_wrt hr3 HP64.out); have HB3 : Hid (Below wr.heap.size wr w3) := hide (HB2.out.grown hb3 HB2.out.size (by intro q hq; cases hq; exact Nat.le_refl _)); have ck := (HB3.out.cell (p := ⟨bk, okk + k, none⟩) HBK.out).trans HCK.out; clear hr3 hb3 hz3))
          have HR3 : Hid (RowL w3 dp 79 [.slice (some ⟨gs, 0, none⟩) n cs, .slice (some ⟨gl, 0, none⟩) n cl, .slice (some ⟨gw, 0, none⟩) m c, .bool armed, .bool off, .int .i64 left, .int .i64 wn, .int .i64 fl]) := hide ((HB3.out.block dp HRr.out.lt).trans HRr.out)
          have HS3 := hide (HSr.out.keep (HB3.out.block gs HSr.out.lt))
          have HL3 := hide (HLr.out.keep (HB3.out.block gl HLr.out.lt))
          have HW3 := hide (ownsRow_keep (w' := w3) HWr.out fun g cs hr => HB3.out.block g hr.lt)
          have HF3 : Hid (DFr base w w3) := hide (HFr.out.trans (DFr.of_below HB3.out))
          go_roundw
          case rel =>
            refine ⟨k + 1, by omega, by go_num, HR3.out, ?_, HL3.out, HW3.out, HF3.out⟩
            rw [crashTo_succ, if_neg (by rw [HKD.out]; simp)]
            exact HS3.out
          case measure => simp [intOf]; omega
      · have HKD : Hid (kept.getD k false = false) := hide (by
          have hk0 := HKL.out
          simp [List.getD, List.getElem?_eq_none (show kept.length ≤ k by omega)])
        go_wp2_with (first
          | ((with_reducible refine wpList_loadC rfl 90 (.tmp 16) rfl 65 wrt_agg wrt_size gw (k * 65) 90 rfl ws (wcell p) HGR.out HGC.out HW65.out ?_))
          | ((with_reducible refine wpList_allocC rfl 90 rfl zwrt wrt_zero ?_); intro w2 hr2 hb2 hz2; have HR2 := hide hr2; have HB2 := hide hb2; clear hr2 hb2 hz2)
          | ((with_reducible refine wpList_storeC rfl 90 (.tmp 5) (.tmp 17) rfl 65 wrt_size wr.heap.size 0 90 rfl _ (wcell p) rfl HR2.out HW65.out (by decide) (wcell_one _) ?_); intro w3 hr3 hb3 hz3; have HBX3 : Hid (RowL w3 wr.heap.size 90 (wcell p)) := hide (box_wrt hr3 HP64.out); have HB3 : Hid (Below wr.heap.size wr w3) := hide (HB2.out.grown hb3 HB2.out.size (by intro q hq; cases hq; exact Nat.le_refl _)); clear hr3 hb3 hz3))
        have HR3 : Hid (RowL w3 dp 79 [.slice (some ⟨gs, 0, none⟩) n cs, .slice (some ⟨gl, 0, none⟩) n cl, .slice (some ⟨gw, 0, none⟩) m c, .bool armed, .bool off, .int .i64 left, .int .i64 wn, .int .i64 fl]) := hide ((HB3.out.block dp HRr.out.lt).trans HRr.out)
        have HS3 := hide (HSr.out.keep (HB3.out.block gs HSr.out.lt))
        have HL3 := hide (HLr.out.keep (HB3.out.block gl HLr.out.lt))
        have HW3 := hide (ownsRow_keep (w' := w3) HWr.out fun g cs hr => HB3.out.block g hr.lt)
        have HF3 : Hid (DFr base w w3) := hide (HFr.out.trans (DFr.of_below HB3.out))
        go_roundw
        case rel =>
          refine ⟨k + 1, by omega, by go_num, HR3.out, ?_, HL3.out, HW3.out, HF3.out⟩
          rw [crashTo_succ, if_neg (by rw [HKD.out]; simp)]
          exact HS3.out
        case measure => simp [intOf]; omega
    · have HKM : Hid (k = m) := hide (by omega)
      obtain ⟨⟨c0, c1, c2, c3, c4, c5, c6, c7⟩, f0, f1, f2, f3, f4, f5, f6, f7⟩ := RowL.eight HRr.out
      have HR5 : Hid (RowL (wr.setCell ⟨dp, 2, none⟩ (.slice none 0 0)) dp 79 [.slice (some ⟨gs, 0, none⟩) n cs, .slice (some ⟨gl, 0, none⟩) n cl, .slice none 0 0, .bool armed, .bool off, .int .i64 left, .int .i64 wn, .int .i64 fl]) := hide (HRr.out.set_ 2 (.slice none 0 0))
      have hg5 := grown_set wr dp 2 (.slice none 0 0)
      have HS5 : Hid (SecR (wr.setCell ⟨dp, 2, none⟩ (.slice none 0 0)) base gs n cs (crashTo safe wait kept m)) := hide (by rw [← HKM.out]; exact HSr.out.other hg5 HRr.out (by decide))
      have HL5 : Hid (SecR (wr.setCell ⟨dp, 2, none⟩ (.slice none 0 0)) base gl n cl last) := hide (HLr.out.other hg5 HRr.out (by decide))
      have HF5 : Hid (DFr base w (wr.setCell ⟨dp, 2, none⟩ (.slice none 0 0))) := hide (HFr.out.trans (DFr.of_grown hg5 HBD.out HRr.out (.inr (.inl rfl))))
      obtain ⟨lcs, hgr, hgl⟩ := HL5.out.row
      have HGL := hide hgr
      have HGLL := hide hgl
      clear hg5 hgr hgl
      go_wp2_with fail
      clear c0 c1 c2 c3 c4 c5 c6 c7 f0 f1 f2 f3 f4 f5 f6 f7
      refine wp_region_plan (fun w' => RowL w' dp 79 [.slice (some ⟨gs, 0, none⟩) n cs, .slice (some ⟨gl, 0, none⟩) n cl, .slice none 0 0, .bool armed, .bool off, .int .i64 left, .int .i64 wn, .int .i64 fl] ∧ w'.cell? ⟨dp, 0, none⟩ = some (.slice (some ⟨gs, 0, none⟩) n cs) ∧ w'.cell? ⟨dp, 1, none⟩ = some (.slice (some ⟨gl, 0, none⟩) n cl)) [(0, true), (1, true), (2, true), (3, true), (4, true), (5, true), (6, true), (7, true), (8, false)] (by kernel_rfl) (by kernel_rfl) (by kernel_rfl) (by kernel_rfl) rfl (fun _ _ _ _ _ h => h) ⟨HR5.out, HR5.out.cell 0, HR5.out.cell 1⟩ (fun hHeld => ?_)
      simp only [planOps, List.filterMap_cons, List.filterMap_nil, List.getElem?_toArray, List.getElem?_cons_succ, List.getElem?_cons_zero, Option.map_some]
      refine wpPlan_take (v := ?_) (by kernel_rfl) (fun wS hSw => ?_) ?_
      rotate_left
      · (try dsimp only at hSw); go_simp; (try with_reducible rfl)
      (try simp only [Act.put, List.setIfInBounds_toArray, List.set_cons_zero, List.set_cons_succ])
      refine wpPlan_take (v := ?_) (by kernel_rfl) (fun wS hSw => ?_) ?_
      rotate_left
      · (try dsimp only at hSw); go_simp; (try with_reducible rfl)
      (try simp only [Act.put, List.setIfInBounds_toArray, List.set_cons_zero, List.set_cons_succ])
      refine wpPlan_take (v := ?_) (by kernel_rfl) (fun wS hSw => ?_) ?_
      rotate_left
      · (try dsimp only at hSw); go_simp; (try with_reducible rfl)
      (try simp only [Act.put, List.setIfInBounds_toArray, List.set_cons_zero, List.set_cons_succ])
      refine wpPlan_take (v := ?_) (by kernel_rfl) (fun wS hSw => ?_) ?_
      rotate_left
      · (try dsimp only at hSw); go_simp; (try with_reducible rfl)
      (try simp only [Act.put, List.setIfInBounds_toArray, List.set_cons_zero, List.set_cons_succ])
      refine wpPlan_take (v := ?_) (by kernel_rfl) (fun wS hSw => ?_) ?_
      rotate_left
      · (try dsimp only at hSw); go_simp; (try with_reducible rfl)
      (try simp only [Act.put, List.setIfInBounds_toArray, List.set_cons_zero, List.set_cons_succ])
      refine wpPlan_take (v := ?_) (by kernel_rfl) (fun wS hSw => ?_) ?_
      rotate_left
      · (try dsimp only at hSw); go_simp; (try with_reducible rfl)
      (try simp only [Act.put, List.setIfInBounds_toArray, List.set_cons_zero, List.set_cons_succ])
      refine wpPlan_take (v := ?_) (by kernel_rfl) (fun wS hSw => ?_) ?_
      rotate_left
      · (try dsimp only at hSw); go_simp; (try with_reducible rfl)
      (try simp only [Act.put, List.setIfInBounds_toArray, List.set_cons_zero, List.set_cons_succ])
      refine wpPlan_take (v := ?_) (by kernel_rfl) (fun wS hSw => ?_) ?_
      rotate_left
      · (try dsimp only at hSw); go_simp; (try with_reducible rfl)
      (try simp only [Act.put, List.setIfInBounds_toArray, List.set_cons_zero, List.set_cons_succ])
      refine wpPlan_call (by kernel_rfl) (fun K hK => ?_)
      have hOld := hide hHeld
      clear hHeld
      refine wp_copyC (.tmp 44) (.tmp 48) 72 72 rfl 76 64 Try.underlying72 sec_isize gl 0 n cl rfl lcs 76 HGL.out ⟨gs, 0, none⟩ n cs rfl n (by simp) (bvs (crashTo safe wait kept m).flatten) ?_ ?_ ?_ (bvs_one _) ?_
      · rw [bvs_length, flat64 HS5.out.all, HS5.out.len, Nat.mul_comm]
      · exact HS5.out.own.cells (g := gs) rfl
      · rw [bvs_length, flat64 HS5.out.all, HS5.out.len, HGLL.out]; have := HL5.out.2.1; omega
      intro w6 hr6 hg6' hz6
      have hg6 := grown_drew hg6'
      have HR6 := hide (HR5.out.other hg6 HGL.out (by decide))
      have HS6 := hide (HS5.out.apart hg6 HNE.out)
      have HL6 := hide (HL5.out.whole HGL.out HS5.out hr6)
      have HF6 := hide (HF5.out.trans (DFr.of_grown hg6 HL5.out.base HGL.out (.inl rfl)))
      clear hr6 hg6 hg6' hz6
      refine hK.out _ _ (⟨HR6.out, HR6.out.cell 0, HR6.out.cell 1⟩) (fun hHeld => ?_)
      clear hK K
      (try simp only [Act.put, List.setIfInBounds_toArray, List.set_cons_zero, List.set_cons_succ])
      refine wpPlan_end ?_
      clear hHeld
      obtain ⟨⟨c0, c1, c2, c3, c4, c5, c6, c7⟩, f0, f1, f2, f3, f4, f5, f6, f7⟩ := RowL.eight HR6.out
      have hr8 := (HR6.out.set_ 4 (.bool false)).set_ 3 (.bool false)
      have hg8 := only_setCell (grown_set w6 dp 4 (.bool false)) 3 (.bool false)
      have HR8 := hide hr8
      have HG8 := hide hg8
      clear hr8 hg8
      go_wp2_with fail
      refine bodyPost_end (v := .tuple #[]) (by simp [results, Try.results43, go_sem]) rfl ?_
      exact ⟨rfl, HF6.out.trans (DFr.of_grown HG8.out HBD.out HR6.out (.inr (.inl rfl))), HR8.out, HS6.out.other HG8.out HR6.out (by decide), HL6.out.other HG8.out HR6.out (by decide)⟩
theorem DCrash_any {w : World} {base dp mk ck : Nat} {s : DSt} {AK : Option Addr} {kept : List Bool} (h : DK w base dp s) (ok : DOk s) (hk : RdE Enc.bool w (Far w base) AK mk kept) :
    Calls Try.prog 43 #[dptr dp, .slice AK mk ck] w (fun e w' => e = .returned (.tuple #[]) ∧ DK w' base dp (crashD s kept) ∧ DFr base w w') := by
  obtain ⟨gs, cs, gl, cl, A, c, hne, hbd, hr, hs, hl, hw⟩ := h
  refine (DCrash_raw hne hbd hr hs hl hw rfl ok.at_ ok.m hk).mono ?_
  rintro e w' ⟨he, hfr, h1, h2, h3⟩
  have hfl : (crashTo s.safe s.wait kept s.wait.length).length = s.safe.length := crashTo_len _ _ _ _
  refine ⟨he, ⟨gs, cs, gl, cl, none, 0, hne, hbd, ?_, ?_, ?_, World.ownsRow_nil _ _ _ _⟩, hfr⟩
  · simpa [dcells, crashD, hfl] using h1
  · simpa [crashD, hfl] using h2
  · simpa [crashD, hfl] using h3
end Go.Proofs.Ytnjmddmiebofeaa
