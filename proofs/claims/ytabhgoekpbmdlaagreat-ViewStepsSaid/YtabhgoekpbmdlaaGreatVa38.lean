import Derived.Test.YtabhgoekpbmdlaaGreatVa34
import Derived.Test.YtabhgoekpbmdlaaGreatVa37

/- The law ViewSteps: its walk (layer 17). -/
namespace Go.Proofs.YtabhgoekpbmdlaaGreat
open Go.RowKit Go.Shelf Plain

set_option maxRecDepth 100000 in
set_option maxHeartbeats 16000000 in
theorem law_ViewSteps {g : GeoQ} {AU AL AV : Option Addr} {nU cU nL cL nV cV : Nat} {up : List NodV} {ls : List (List NodV)} {u ino : Int} {vl : List (Int × Int)} {nm : List UInt8} (w : World) (hu : RdE nodEn w (Under w.heap.size) AU nU up) (h : RdE layEn w (Under w.heap.size) AL nL ls) (hv : RdE prEn w (Under w.heap.size) AV nV vl) (hfu : FineN up) (hfl : ∀ ns ∈ ls, FineN ns) :
  Calls Tryz.prog 3 #[.agg (stkC g (.slice AU nU cU) (.slice AL nL cL)).toArray, .agg (viwC u (.slice AV nV cV)).toArray, .string ⟨nm.toArray⟩, .int .i64 ino] w (LawOk w) := by
 obtain ⟨W1, hW1⟩ : ∃ W1, ((w.alloc (.cells (stkC g (.slice AU nU cU) (.slice AL nL cL)).toArray 29)).alloc (.cells (viwC u (.slice AV nV cV)).toArray 32)) = W1 := ⟨_, rfl⟩
 obtain ⟨r0, r1, hb1, hs1⟩ := rowA2 w _ _ _ _ hW1
 have hW1' : ((w.alloc (.cells #[.int .i64 g.a, .int .i64 g.b, .int .i64 g.c, .int .i64 g.d, .slice AU nU cU, .slice AL nL cL] 29)).alloc (.cells #[.int .i64 u, .slice AV nV cV] 32)) = W1 := hW1
 have R4 := hide r0
 have R5 := hide r1
 have HB := hide hb1
 have hsz0 := hb1.size
 have HU := hide (hu.under hb1 (Nat.le_refl _))
 have HL := hide (h.under hb1 (Nat.le_refl _))
 have HV := hide (hv.under hb1 (Nat.le_refl _))
 have HFN := hide hfu
 have HFL := hide hfl
 have hvn := hv.1
 have q5_1 : W1.cell? ⟨w.heap.size + 1, 1, none⟩ = some (.slice AV nV cV) := R5.out.cell 1
 have q4_0 : W1.cell? ⟨w.heap.size, 0, none⟩ = some (.int .i64 g.a) := R4.out.cell 0
 have q4_1 : W1.cell? ⟨w.heap.size, 1, none⟩ = some (.int .i64 g.b) := R4.out.cell 1
 have q4_2 : W1.cell? ⟨w.heap.size, 2, none⟩ = some (.int .i64 g.c) := R4.out.cell 2
 have q4_3 : W1.cell? ⟨w.heap.size, 3, none⟩ = some (.int .i64 g.d) := R4.out.cell 3
 have q4_4 : W1.cell? ⟨w.heap.size, 4, none⟩ = some (.slice AU nU cU) := R4.out.cell 4
 have q4_5 : W1.cell? ⟨w.heap.size, 5, none⟩ = some (.slice AL nL cL) := R4.out.cell 5
 have q5_0 : W1.cell? ⟨w.heap.size + 1, 0, none⟩ = some (.int .i64 u) := R5.out.cell 0
 unfold stkC viwC
 clear r0 r1 hb1 hW1 hu h hv hfu hfl
 go_enter Tryz.func3, Tryz.ntmps3
 go_wp2_with (first | (refine wpList_loadW rfl 29 (.tmp 4) rfl 6 stk_agg stk_size (w.heap.size) 29 rfl (stkC g (.slice AU nU cU) (.slice AL nL cL)) R4.out rfl ?_))
 clear hW1'
 refine (PStack_any W1 (und_up HU.out (by omega)) (und_up HL.out (by omega)) HFN.out HFL.out).mono ?_
 rintro e w2 ⟨p, rfl, hb2, hq⟩
 have HQ := hide hq
 clear q5_1 q4_0 q4_1 q4_2 q4_3 q4_4 q4_5 q5_0
 replace HB := hide (HB.out.trans (hb2.mono HB.out.size))
 replace R4 := hide (R4.out.on hb2)
 replace R5 := hide (R5.out.on hb2)
 replace HU := hide (HU.out.under hb2 (by omega))
 replace HL := hide (HL.out.under hb2 (by omega))
 replace HV := hide (HV.out.under hb2 (by omega))
 have hsz1 := hb2.size
 have q5_1 : w2.cell? ⟨w.heap.size + 1, 1, none⟩ = some (.slice AV nV cV) := R5.out.cell 1
 have q4_0 : w2.cell? ⟨w.heap.size, 0, none⟩ = some (.int .i64 g.a) := R4.out.cell 0
 have q4_1 : w2.cell? ⟨w.heap.size, 1, none⟩ = some (.int .i64 g.b) := R4.out.cell 1
 have q4_2 : w2.cell? ⟨w.heap.size, 2, none⟩ = some (.int .i64 g.c) := R4.out.cell 2
 have q4_3 : w2.cell? ⟨w.heap.size, 3, none⟩ = some (.int .i64 g.d) := R4.out.cell 3
 have q4_4 : w2.cell? ⟨w.heap.size, 4, none⟩ = some (.slice AU nU cU) := R4.out.cell 4
 have q4_5 : w2.cell? ⟨w.heap.size, 5, none⟩ = some (.slice AL nL cL) := R4.out.cell 5
 have q5_0 : w2.cell? ⟨w.heap.size + 1, 0, none⟩ = some (.int .i64 u) := R5.out.cell 0
 clear hq hb2
 cases p
 ·go_wp2_with (go_at_call 13; refine (awake17_any _).mono ?_; rintro e98 wz ⟨rfl, hbz⟩; replace HB := hide (HB.out.trans (hbz.mono HB.out.size)); clear hbz)
  go_ret
  exact LawOk.of HB.out
 by_cases hk8 : (8 : Int) < (nV : Int)
 ·have dk8 : decide ((8 : Int) < (nV : Int)) = true := decide_eq_true hk8
  go_wp2_with (go_at_call 13; refine (awake17_any _).mono ?_; rintro e98 wz ⟨rfl, hbz⟩; replace HB := hide (HB.out.trans (hbz.mono HB.out.size)); clear hbz)
  go_ret
  exact LawOk.of HB.out
 have dk8 : decide ((8 : Int) < (nV : Int)) = false := decide_eq_false hk8
 by_cases hk : (40 : Int) < (nm.length : Int)
 ·have dk : decide ((40 : Int) < (nm.length : Int)) = true := decide_eq_true hk
  go_wp2_with (go_at_call 13; refine (awake17_any _).mono ?_; rintro e98 wz ⟨rfl, hbz⟩; replace HB := hide (HB.out.trans (hbz.mono HB.out.size)); clear hbz)
  go_ret
  exact LawOk.of HB.out
 have dk : decide ((40 : Int) < (nm.length : Int)) = false := decide_eq_false hk
 obtain ⟨hF, hfew⟩ := HQ.out (by first | rfl | trivial)
 have HF := hide hF
 have HFU := hide (show FewU up from ⟨by have := hfew.1; omega, hfew.2⟩)
 have hnV8 : nV ≤ 8 := by omega
 have hnV : nV ≤ 1000 := by omega
 have hls : ls.length ≤ 100 := by have := hF.1; omega
 obtain ⟨S, hS⟩ : ∃ S, stepV up ls (u, vl) nm = S := ⟨_, rfl⟩
 have HS := hide hS
 have HSL := hide (show S.2.1.2.length ≤ 100000 from by rw [← hS]; have := stepV_len up ls (u, vl) nm; dsimp only at this; omega)
 obtain ⟨V, hV⟩ : ∃ V, rootV up ls = V := ⟨_, rfl⟩
 have hvl : V.2.length ≤ 100000 := by
  rw [← hV]
  unfold rootV
  have h1 := rootsL_len ls 0
  dsimp only
  split
  ·simp
  ·omega
 have HVL := hide hvl
 have HRV := hide hV
 obtain ⟨P, hP⟩ : ∃ P, partV up ls vl ino nm = P := ⟨_, rfl⟩
 have HPL := hide (show P.length ≤ 100000 from by rw [← hP]; have := partV_len up ls vl ino nm; omega)
 have HP := hide hP
 obtain ⟨NL, hNL⟩ : ∃ NL, namesV up ls (u, vl) = NL := ⟨_, rfl⟩
 have HNL := hide (show NL.length ≤ 1000 from by
  rw [← hNL]
  refine Nat.le_trans (List.length_filter_le _ _) (Nat.le_trans (sortS_length _) ?_)
  unfold allV
  rw [List.length_append, List.length_map]
  have h1 : (namesL ls vl).length ≤ 16 * vl.length := Nat.le_trans (List.length_filter_le _ _) (Nat.le_trans (sortS_length _) (allN_len hF vl))
  have h2 := entB_len hfew.2 u
  dsimp only
  omega)
 have HNV := hide hNL
 have hss : (S.1 != S.1) = false := by simp
 clear hF hfew hk hk8 HQ HFN HFL hS hV hvl hP hNL hls
 go_wp2_with (first | (refine wpList_loadW rfl 29 (.tmp 4) rfl 6 stk_agg stk_size (w.heap.size) 29 rfl (stkC g (.slice AU nU cU) (.slice AL nL cL)) R4.out rfl ?_) | (refine wpList_loadW rfl 32 (.tmp 5) rfl 2 viw_agg viw_size (w.heap.size + 1) 32 rfl (viwC u (.slice AV nV cV)) R5.out rfl ?_) | (go_at_call 14; refine (VStep_any HS.out w2 HU.out HL.out (by omega) HF.out HFU.out HV.out (by omega) hnV).mono ?_; rintro e2 wV ⟨A3, c3, rfl, h9, hbel⟩; replace h9 : RdE prEn wV (Under wV.heap.size) A3 S.2.1.2.length S.2.1.2 := fr_under h9; clear q5_1 q4_0 q4_1 q4_2 q4_3 q4_4 q4_5 q5_0; replace HB := hide (HB.out.trans (hbel.mono HB.out.size)); replace R4 := hide (R4.out.on hbel); replace R5 := hide (R5.out.on hbel); replace HU := hide (HU.out.under hbel (by omega)); replace HL := hide (HL.out.under hbel (by omega)); replace HV := hide (HV.out.under hbel (by omega)); have hsz3 := hbel.size; have q5_1 : wV.cell? ⟨w.heap.size + 1, 1, none⟩ = some (.slice AV nV cV) := R5.out.cell 1; have q4_0 : wV.cell? ⟨w.heap.size, 0, none⟩ = some (.int .i64 g.a) := R4.out.cell 0; have q4_1 : wV.cell? ⟨w.heap.size, 1, none⟩ = some (.int .i64 g.b) := R4.out.cell 1; have q4_2 : wV.cell? ⟨w.heap.size, 2, none⟩ = some (.int .i64 g.c) := R4.out.cell 2; have q4_3 : wV.cell? ⟨w.heap.size, 3, none⟩ = some (.int .i64 g.d) := R4.out.cell 3; have q4_4 : wV.cell? ⟨w.heap.size, 4, none⟩ = some (.slice AU nU cU) := R4.out.cell 4; have q4_5 : wV.cell? ⟨w.heap.size, 5, none⟩ = some (.slice AL nL cL) := R4.out.cell 5; have q5_0 : wV.cell? ⟨w.heap.size + 1, 0, none⟩ = some (.int .i64 u) := R5.out.cell 0; have H3 := hide h9; clear h9; clear hbel) | (obtain ⟨hz10, hz11, hzb, hzs⟩ := rows2 wV (viwC 0 (.slice none 0 0)) (prC (0, 0)) 32 36; refine wpList_storeW rfl 32 (.tmp 10) (.tmp 36) rfl 2 viw_size (wV.heap.size) 32 rfl (viwC 0 (.slice none 0 0)) (viwC S.2.1.1 (.slice A3 S.2.1.2.length c3)) rfl hz10 rfl rfl (viwC_one _ _ _ _) ?_; intro wS4 hr4 hg4 hs4; replace hzb := hzb.grown hg4 hzb.size (fun k hk => by have := Option.some.inj hk; omega); replace hz11 := hz11.grown hg4 (fun e => by have := Option.some.inj e; omega); have hz10 := hr4; clear hg4 hs4 hr4) | (refine wpList_storeW rfl 36 (.tmp 11) (.tmp 37) rfl 2 plc_size (wV.heap.size + 1) 36 rfl (prC (0, 0)) (prC S.2.2) rfl hz11 rfl rfl (prC_one _) ?_; intro wS5 hr5 hg5 hs5; replace hzb := hzb.grown hg5 hzb.size (fun k hk => by have := Option.some.inj hk; omega); replace hz10 := hz10.grown hg5 (fun e => by have := Option.some.inj e; omega); have hz11 := hr5; clear q5_1 q4_0 q4_1 q4_2 q4_3 q4_4 q4_5 q5_0; replace HB := hide (HB.out.trans (hzb.mono HB.out.size)); replace R4 := hide (R4.out.on hzb); replace R5 := hide (R5.out.on hzb); replace HU := hide (HU.out.under hzb (by omega)); replace HL := hide (HL.out.under hzb (by omega)); replace HV := hide (HV.out.under hzb (by omega)); replace H3 := hide (H3.out.under hzb (by omega)); have hsz6 := hzb.size; have q5_1 : wS5.cell? ⟨w.heap.size + 1, 1, none⟩ = some (.slice AV nV cV) := R5.out.cell 1; have q4_0 : wS5.cell? ⟨w.heap.size, 0, none⟩ = some (.int .i64 g.a) := R4.out.cell 0; have q4_1 : wS5.cell? ⟨w.heap.size, 1, none⟩ = some (.int .i64 g.b) := R4.out.cell 1; have q4_2 : wS5.cell? ⟨w.heap.size, 2, none⟩ = some (.int .i64 g.c) := R4.out.cell 2; have q4_3 : wS5.cell? ⟨w.heap.size, 3, none⟩ = some (.int .i64 g.d) := R4.out.cell 3; have q4_4 : wS5.cell? ⟨w.heap.size, 4, none⟩ = some (.slice AU nU cU) := R4.out.cell 4; have q4_5 : wS5.cell? ⟨w.heap.size, 5, none⟩ = some (.slice AL nL cL) := R4.out.cell 5; have q5_0 : wS5.cell? ⟨w.heap.size + 1, 0, none⟩ = some (.int .i64 u) := R5.out.cell 0; have RA := hide hz10; have hlt4 := hz10.lt; have RP := hide hz11; have hlt5 := hz11.lt; have q10_0 : wS5.cell? ⟨wV.heap.size, 0, none⟩ = some (.int .i64 S.2.1.1) := RA.out.cell 0; have q10_1 : wS5.cell? ⟨wV.heap.size, 1, none⟩ = some (.slice A3 S.2.1.2.length c3) := RA.out.cell 1; have q11_0 : wS5.cell? ⟨wV.heap.size + 1, 0, none⟩ = some (.int .i64 S.2.2.1) := RP.out.cell 0; have q11_1 : wS5.cell? ⟨wV.heap.size + 1, 1, none⟩ = some (.int .i64 S.2.2.2) := RP.out.cell 1; clear hzb hzs hz10 hz11; clear hg5 hs5) | (refine wpList_loadW rfl 29 (.tmp 4) rfl 6 stk_agg stk_size (w.heap.size) 29 rfl (stkC g (.slice AU nU cU) (.slice AL nL cL)) R4.out rfl ?_) | (refine wpList_loadW rfl 32 (.tmp 5) rfl 2 viw_agg viw_size (w.heap.size + 1) 32 rfl (viwC u (.slice AV nV cV)) R5.out rfl ?_) | (go_at_call 15; refine (RVStep_e HS.out wS5 HU.out HL.out (by omega) HF.out HFU.out HV.out (by omega) hnV).mono ?_; rintro e7 wT ⟨A4, c4, rfl, h9, hbel⟩; replace h9 : RdE prEn wT (Under wT.heap.size) A4 S.2.1.2.length S.2.1.2 := fr_under h9; clear q5_1 q10_0 q10_1 q11_0 q11_1 q4_0 q4_1 q4_2 q4_3 q4_4 q4_5 q5_0; replace HB := hide (HB.out.trans (hbel.mono HB.out.size)); replace R4 := hide (R4.out.on hbel); replace R5 := hide (R5.out.on hbel); replace HU := hide (HU.out.under hbel (by omega)); replace HL := hide (HL.out.under hbel (by omega)); replace HV := hide (HV.out.under hbel (by omega)); replace H3 := hide (H3.out.under hbel (by omega)); replace RA := hide (RA.out.on hbel); replace RP := hide (RP.out.on hbel); have hsz8 := hbel.size; have q5_1 : wT.cell? ⟨w.heap.size + 1, 1, none⟩ = some (.slice AV nV cV) := R5.out.cell 1; have q10_0 : wT.cell? ⟨wV.heap.size, 0, none⟩ = some (.int .i64 S.2.1.1) := RA.out.cell 0; have q10_1 : wT.cell? ⟨wV.heap.size, 1, none⟩ = some (.slice A3 S.2.1.2.length c3) := RA.out.cell 1; have q11_0 : wT.cell? ⟨wV.heap.size + 1, 0, none⟩ = some (.int .i64 S.2.2.1) := RP.out.cell 0; have q11_1 : wT.cell? ⟨wV.heap.size + 1, 1, none⟩ = some (.int .i64 S.2.2.2) := RP.out.cell 1; have q4_0 : wT.cell? ⟨w.heap.size, 0, none⟩ = some (.int .i64 g.a) := R4.out.cell 0; have q4_1 : wT.cell? ⟨w.heap.size, 1, none⟩ = some (.int .i64 g.b) := R4.out.cell 1; have q4_2 : wT.cell? ⟨w.heap.size, 2, none⟩ = some (.int .i64 g.c) := R4.out.cell 2; have q4_3 : wT.cell? ⟨w.heap.size, 3, none⟩ = some (.int .i64 g.d) := R4.out.cell 3; have q4_4 : wT.cell? ⟨w.heap.size, 4, none⟩ = some (.slice AU nU cU) := R4.out.cell 4; have q4_5 : wT.cell? ⟨w.heap.size, 5, none⟩ = some (.slice AL nL cL) := R4.out.cell 5; have q5_0 : wT.cell? ⟨w.heap.size + 1, 0, none⟩ = some (.int .i64 u) := R5.out.cell 0; have H4 := hide h9; clear h9; clear hbel) | (obtain ⟨hz13, hz14, hzb, hzs⟩ := rows2 wT (viwC 0 (.slice none 0 0)) (prC (0, 0)) 32 36; refine wpList_storeW rfl 32 (.tmp 13) (.tmp 44) rfl 2 viw_size (wT.heap.size) 32 rfl (viwC 0 (.slice none 0 0)) (viwC S.2.1.1 (.slice A4 S.2.1.2.length c4)) rfl hz13 rfl rfl (viwC_one _ _ _ _) ?_; intro wS9 hr9 hg9 hs9; replace hzb := hzb.grown hg9 hzb.size (fun k hk => by have := Option.some.inj hk; omega); replace hz14 := hz14.grown hg9 (fun e => by have := Option.some.inj e; omega); have hz13 := hr9; clear hg9 hs9 hr9) | (refine wpList_storeW rfl 36 (.tmp 14) (.tmp 45) rfl 2 plc_size (wT.heap.size + 1) 36 rfl (prC (0, 0)) (prC S.2.2) rfl hz14 rfl rfl (prC_one _) ?_; intro wS10 hr10 hg10 hs10; replace hzb := hzb.grown hg10 hzb.size (fun k hk => by have := Option.some.inj hk; omega); replace hz13 := hz13.grown hg10 (fun e => by have := Option.some.inj e; omega); have hz14 := hr10; clear q5_1 q10_0 q10_1 q11_0 q11_1 q4_0 q4_1 q4_2 q4_3 q4_4 q4_5 q5_0; replace HB := hide (HB.out.trans (hzb.mono HB.out.size)); replace R4 := hide (R4.out.on hzb); replace R5 := hide (R5.out.on hzb); replace HU := hide (HU.out.under hzb (by omega)); replace HL := hide (HL.out.under hzb (by omega)); replace HV := hide (HV.out.under hzb (by omega)); replace H3 := hide (H3.out.under hzb (by omega)); replace RA := hide (RA.out.on hzb); replace RP := hide (RP.out.on hzb); replace H4 := hide (H4.out.under hzb (by omega)); have hsz11 := hzb.size; have q5_1 : wS10.cell? ⟨w.heap.size + 1, 1, none⟩ = some (.slice AV nV cV) := R5.out.cell 1; have q10_0 : wS10.cell? ⟨wV.heap.size, 0, none⟩ = some (.int .i64 S.2.1.1) := RA.out.cell 0; have q10_1 : wS10.cell? ⟨wV.heap.size, 1, none⟩ = some (.slice A3 S.2.1.2.length c3) := RA.out.cell 1; have q11_0 : wS10.cell? ⟨wV.heap.size + 1, 0, none⟩ = some (.int .i64 S.2.2.1) := RP.out.cell 0; have q11_1 : wS10.cell? ⟨wV.heap.size + 1, 1, none⟩ = some (.int .i64 S.2.2.2) := RP.out.cell 1; have q4_0 : wS10.cell? ⟨w.heap.size, 0, none⟩ = some (.int .i64 g.a) := R4.out.cell 0; have q4_1 : wS10.cell? ⟨w.heap.size, 1, none⟩ = some (.int .i64 g.b) := R4.out.cell 1; have q4_2 : wS10.cell? ⟨w.heap.size, 2, none⟩ = some (.int .i64 g.c) := R4.out.cell 2; have q4_3 : wS10.cell? ⟨w.heap.size, 3, none⟩ = some (.int .i64 g.d) := R4.out.cell 3; have q4_4 : wS10.cell? ⟨w.heap.size, 4, none⟩ = some (.slice AU nU cU) := R4.out.cell 4; have q4_5 : wS10.cell? ⟨w.heap.size, 5, none⟩ = some (.slice AL nL cL) := R4.out.cell 5; have q5_0 : wS10.cell? ⟨w.heap.size + 1, 0, none⟩ = some (.int .i64 u) := R5.out.cell 0; have RB := hide hz13; have hlt9 := hz13.lt; have RQ := hide hz14; have hlt10 := hz14.lt; have q13_0 : wS10.cell? ⟨wT.heap.size, 0, none⟩ = some (.int .i64 S.2.1.1) := RB.out.cell 0; have q13_1 : wS10.cell? ⟨wT.heap.size, 1, none⟩ = some (.slice A4 S.2.1.2.length c4) := RB.out.cell 1; have q14_0 : wS10.cell? ⟨wT.heap.size + 1, 0, none⟩ = some (.int .i64 S.2.2.1) := RQ.out.cell 0; have q14_1 : wS10.cell? ⟨wT.heap.size + 1, 1, none⟩ = some (.int .i64 S.2.2.2) := RQ.out.cell 1; clear hzb hzs hz13 hz14; clear hg10 hs10))
 refine wp_region_planN (fun w' => Below wS10.heap.size wS10 w') [(0, true), (1, true), (2, true), (3, true), (4, true), (5, true), (6, false), (7, true), (8, true), (9, true), (10, true), (11, true), (12, true), (13, true), (14, true), (15, true), (17, true), (16, false), (18, false), (19, false), (20, true), (21, true)] (by kernel_rfl) (by kernel_rfl) (by kernel_rfl) (by kernel_rfl) rfl (fun _ _ _ _ _ h => h) (below_drew (below_self wS10)) (fun hHeld => ?_)
 simp only [planOps, List.filterMap_cons, List.filterMap_nil, List.getElem?_toArray, List.getElem?_cons_succ, List.getElem?_cons_zero, Option.map_some]
 refine wpPlan_take (v := ?_) (by kernel_rfl) (fun wS hSw => ?_) ?_
 rotate_left
 ·(try dsimp only at hSw); go_simp; (try with_reducible rfl)
 (try simp only [Act.put, pu1, pu2, pu3])
 refine wpPlan_take (v := ?_) (by kernel_rfl) (fun wS hSw => ?_) ?_
 rotate_left
 ·(try dsimp only at hSw); go_simp; (try with_reducible rfl)
 (try simp only [Act.put, pu1, pu2, pu3])
 refine wpPlan_take (v := ?_) (by kernel_rfl) (fun wS hSw => ?_) ?_
 rotate_left
 ·(try dsimp only at hSw); go_simp; (try with_reducible rfl)
 (try simp only [Act.put, pu1, pu2, pu3])
 refine wpPlan_take (v := ?_) (by kernel_rfl) (fun wS hSw => ?_) ?_
 rotate_left
 ·(try dsimp only at hSw); go_simp; (try with_reducible rfl)
 (try simp only [Act.put, pu1, pu2, pu3])
 refine wpPlan_take (v := ?_) (by kernel_rfl) (fun wS hSw => ?_) ?_
 rotate_left
 ·refine execOp_load (x := .tmp 10) (k := 2) (g := wV.heap.size) (off := 0) (cs := (viwC S.2.1.1 (.slice A3 S.2.1.2.length c3))) ?_ viw_agg viw_size ?_ (fun j v hv => by rw [Nat.zero_add]; exact ((RA.out.on hSw).cell j).trans hv) rfl <;> rfl
 (try simp only [Act.put, pu1, pu2, pu3])
 refine wpPlan_take (v := ?_) (by kernel_rfl) (fun wS hSw => ?_) ?_
 rotate_left
 ·refine execOp_load (x := .tmp 13) (k := 2) (g := wT.heap.size) (off := 0) (cs := (viwC S.2.1.1 (.slice A4 S.2.1.2.length c4))) ?_ viw_agg viw_size ?_ (fun j v hv => by rw [Nat.zero_add]; exact ((RB.out.on hSw).cell j).trans hv) rfl <;> rfl
 (try simp only [Act.put, pu1, pu2, pu3])
 refine wpPlan_call (by kernel_rfl) (fun K hK => ?_)
 have hOld := hide hHeld
 clear hHeld
 go_simp
 go_at_call 16
 refine (SameView_same _ (und_up (H3.out.under hOld.out (by omega)) (by have := hOld.out.size; omega)) (und_up (H4.out.under hOld.out (by omega)) (by have := hOld.out.size; omega)) HSL.out).mono ?_
 rintro e w' ⟨rfl, hbel⟩
 refine hK.out _ _ (hOld.out.trans (hbel.mono hOld.out.size)) (fun hHeld => ?_)
 clear hK K
 (try simp only [Act.put, pu1, pu2, pu3])
 refine wpPlan_take (v := ?_) (by kernel_rfl) (fun wS hSw => ?_) ?_
 rotate_left
 ·(try dsimp only at hSw); go_simp; (try with_reducible rfl)
 (try simp only [Act.put, pu1, pu2, pu3])
 refine wpPlan_take (v := ?_) (by kernel_rfl) (fun wS hSw => ?_) ?_
 rotate_left
 ·(try dsimp only at hSw); go_simp; (try with_reducible rfl)
 (try simp only [Act.put, pu1, pu2, pu3])
 refine wpPlan_take (v := ?_) (by kernel_rfl) (fun wS hSw => ?_) ?_
 rotate_left
 ·(try dsimp only at hSw); go_simp; (try with_reducible rfl)
 (try simp only [Act.put, pu1, pu2, pu3])
 refine wpPlan_take (v := ?_) (by kernel_rfl) (fun wS hSw => ?_) ?_
 rotate_left
 ·refine execOp_load (x := .tmp 11) (k := 2) (g := wV.heap.size + 1) (off := 0) (cs := (prC S.2.2)) ?_ plc_agg plc_size ?_ (fun j v hv => by rw [Nat.zero_add]; exact ((RP.out.on hSw).cell j).trans hv) rfl <;> rfl
 (try simp only [Act.put, pu1, pu2, pu3])
 refine wpPlan_take (v := ?_) (by kernel_rfl) (fun wS hSw => ?_) ?_
 rotate_left
 ·refine execOp_load (x := .tmp 14) (k := 2) (g := wT.heap.size + 1) (off := 0) (cs := (prC S.2.2)) ?_ plc_agg plc_size ?_ (fun j v hv => by rw [Nat.zero_add]; exact ((RQ.out.on hSw).cell j).trans hv) rfl <;> rfl
 (try simp only [Act.put, pu1, pu2, pu3])
 refine wpPlan_take (v := ?_) (by kernel_rfl) (fun wS hSw => ?_) ?_
 rotate_left
 ·(try simp only [prC]); have qx := neq_plc S.2.2.1 S.2.2.2 wS; go_simp; (try with_reducible rfl)
 (try simp only [Act.put, pu1, pu2, pu3])
 refine wpPlan_take (v := ?_) (by kernel_rfl) (fun wS hSw => ?_) ?_
 rotate_left
 ·(try dsimp only at hSw); go_simp; (try with_reducible rfl)
 (try simp only [Act.put, pu1, pu2, pu3])
 refine wpPlan_take (v := ?_) (by kernel_rfl) (fun wS hSw => ?_) ?_
 rotate_left
 ·(try dsimp only at hSw); go_simp; (try with_reducible rfl)
 (try simp only [Act.put, pu1, pu2, pu3])
 refine wpPlan_take (v := ?_) (by kernel_rfl) (fun wS hSw => ?_) ?_
 rotate_left
 ·refine execOp_load (x := .tmp 4) (k := 6) (g := w.heap.size) (off := 0) (cs := (stkC g (.slice AU nU cU) (.slice AL nL cL))) ?_ stk_agg stk_size ?_ (fun j v hv => by rw [Nat.zero_add]; exact ((R4.out.on hSw).cell j).trans hv) rfl <;> rfl
 (try simp only [Act.put, pu1, pu2, pu3])
 refine wpPlan_take (v := ?_) (by kernel_rfl) (fun wS hSw => ?_) ?_
 rotate_left
 ·refine execOp_load (x := .tmp 4) (k := 6) (g := w.heap.size) (off := 0) (cs := (stkC g (.slice AU nU cU) (.slice AL nL cL))) ?_ stk_agg stk_size ?_ (fun j v hv => by rw [Nat.zero_add]; exact ((R4.out.on hSw).cell j).trans hv) rfl <;> rfl
 (try simp only [Act.put, pu1, pu2, pu3])
 refine wpPlan_call (by kernel_rfl) (fun K hK => ?_)
 have hOld := hide hHeld
 clear hHeld
 go_simp
 go_at_call 17
 refine (VRoot_e HRV.out (B := w.heap.size) _ (HU.out.under hOld.out (by omega)) (HL.out.under hOld.out (by omega)) (by have := hOld.out.size; omega) HF.out HFU.out).mono ?_
 rintro e w' ⟨A5, c5, rfl, h5, hbel⟩
 have H5 := hide (fr_under h5)
 clear h5
 refine hK.out _ _ (hOld.out.trans (hbel.mono hOld.out.size)) (fun hHeld => ?_)
 clear hK K
 (try simp only [Act.put, pu1, pu2, pu3])
 refine wpPlan_call (by kernel_rfl) (fun K hK => ?_)
 have hOld := hide hHeld
 clear hHeld
 go_simp
 go_at_call 18
 refine (RVRoot_e HRV.out (B := w.heap.size) _ (HU.out.under hOld.out (by omega)) (HL.out.under hOld.out (by omega)) (by have := hOld.out.size; omega) HF.out HFU.out).mono ?_
 rintro e w' ⟨A6, c6, rfl, h6, hbel⟩
 have H6 := hide (fr_under h6)
 have H5' := hide (und_up (H5.out.under hbel (Nat.le_refl _)) hbel.size)
 clear H5 h6
 refine hK.out _ _ (hOld.out.trans (hbel.mono hOld.out.size)) (fun hHeld => ?_)
 clear hK K
 (try simp only [Act.put, pu1, pu2, pu3])
 refine wpPlan_call (by kernel_rfl) (fun K hK => ?_)
 have hOld := hide hHeld
 clear hHeld
 go_simp
 go_at_call 16
 refine (SameView_same _ H5'.out H6.out HVL.out).mono ?_
 rintro e w' ⟨rfl, hbel⟩
 clear H5' H6
 refine hK.out _ _ (hOld.out.trans (hbel.mono hOld.out.size)) (fun hHeld => ?_)
 clear hK K
 (try simp only [Act.put, pu1, pu2, pu3])
 refine wpPlan_take (v := ?_) (by kernel_rfl) (fun wS hSw => ?_) ?_
 rotate_left
 ·(try dsimp only at hSw); go_simp; (try with_reducible rfl)
 (try simp only [Act.put, pu1, pu2, pu3])
 refine wpPlan_take (v := ?_) (by kernel_rfl) (fun wS hSw => ?_) ?_
 rotate_left
 ·(try dsimp only at hSw); go_simp; (try with_reducible rfl)
 (try simp only [Act.put, pu1, pu2, pu3])
 refine wpPlan_end ?_
 have hh := hHeld
 clear hHeld q5_1 q10_0 q10_1 q13_0 q13_1 q11_0 q11_1 q14_0 q14_1 q4_0 q4_1 q4_2 q4_3 q4_4 q4_5 q5_0
 rename World => w7
 replace HB := hide (HB.out.trans (hh.mono HB.out.size))
 replace R4 := hide (R4.out.on hh)
 replace R5 := hide (R5.out.on hh)
 replace HU := hide (HU.out.under hh (by omega))
 replace HL := hide (HL.out.under hh (by omega))
 replace HV := hide (HV.out.under hh (by omega))
 have hsz12 := hh.size
 have q5_1 : w7.cell? ⟨w.heap.size + 1, 1, none⟩ = some (.slice AV nV cV) := R5.out.cell 1
 have q4_0 : w7.cell? ⟨w.heap.size, 0, none⟩ = some (.int .i64 g.a) := R4.out.cell 0
 have q4_1 : w7.cell? ⟨w.heap.size, 1, none⟩ = some (.int .i64 g.b) := R4.out.cell 1
 have q4_2 : w7.cell? ⟨w.heap.size, 2, none⟩ = some (.int .i64 g.c) := R4.out.cell 2
 have q4_3 : w7.cell? ⟨w.heap.size, 3, none⟩ = some (.int .i64 g.d) := R4.out.cell 3
 have q4_4 : w7.cell? ⟨w.heap.size, 4, none⟩ = some (.slice AU nU cU) := R4.out.cell 4
 have q4_5 : w7.cell? ⟨w.heap.size, 5, none⟩ = some (.slice AL nL cL) := R4.out.cell 5
 have q5_0 : w7.cell? ⟨w.heap.size + 1, 0, none⟩ = some (.int .i64 u) := R5.out.cell 0
 clear hh
 go_wp2_with fail
 refine wp_region_planN (fun w' => Below w7.heap.size w7 w') [(0, true), (1, true), (2, true), (3, true), (5, true), (6, true), (7, true), (8, true), (4, false), (9, false), (10, false), (11, true), (12, true), (13, true), (15, true), (16, true), (14, false), (17, false), (18, false), (19, true), (20, true), (21, false), (22, true), (23, true)] (by kernel_rfl) (by kernel_rfl) (by kernel_rfl) (by kernel_rfl) rfl (fun _ _ _ _ _ h => h) (below_drew (below_self w7)) (fun hHeld => ?_)
 simp only [planOps, List.filterMap_cons, List.filterMap_nil, List.getElem?_toArray, List.getElem?_cons_succ, List.getElem?_cons_zero, Option.map_some]
 refine wpPlan_take (v := ?_) (by kernel_rfl) (fun wS hSw => ?_) ?_
 rotate_left
 ·refine execOp_load (x := .tmp 4) (k := 6) (g := w.heap.size) (off := 0) (cs := (stkC g (.slice AU nU cU) (.slice AL nL cL))) ?_ stk_agg stk_size ?_ (fun j v hv => by rw [Nat.zero_add]; exact ((R4.out.on hSw).cell j).trans hv) rfl <;> rfl
 (try simp only [Act.put, pu1, pu2, pu3])
 refine wpPlan_take (v := ?_) (by kernel_rfl) (fun wS hSw => ?_) ?_
 rotate_left
 ·refine execOp_load (x := .tmp 5) (k := 2) (g := w.heap.size + 1) (off := 0) (cs := (viwC u (.slice AV nV cV))) ?_ viw_agg viw_size ?_ (fun j v hv => by rw [Nat.zero_add]; exact ((R5.out.on hSw).cell j).trans hv) rfl <;> rfl
 (try simp only [Act.put, pu1, pu2, pu3])
 refine wpPlan_take (v := ?_) (by kernel_rfl) (fun wS hSw => ?_) ?_
 rotate_left
 ·(try dsimp only at hSw); go_simp; (try with_reducible rfl)
 (try simp only [Act.put, pu1, pu2, pu3])
 refine wpPlan_take (v := ?_) (by kernel_rfl) (fun wS hSw => ?_) ?_
 rotate_left
 ·(try dsimp only at hSw); go_simp; (try with_reducible rfl)
 (try simp only [Act.put, pu1, pu2, pu3])
 refine wpPlan_take (v := ?_) (by kernel_rfl) (fun wS hSw => ?_) ?_
 rotate_left
 ·refine execOp_load (x := .tmp 4) (k := 6) (g := w.heap.size) (off := 0) (cs := (stkC g (.slice AU nU cU) (.slice AL nL cL))) ?_ stk_agg stk_size ?_ (fun j v hv => by rw [Nat.zero_add]; exact ((R4.out.on hSw).cell j).trans hv) rfl <;> rfl
 (try simp only [Act.put, pu1, pu2, pu3])
 refine wpPlan_take (v := ?_) (by kernel_rfl) (fun wS hSw => ?_) ?_
 rotate_left
 ·refine execOp_load (x := .tmp 5) (k := 2) (g := w.heap.size + 1) (off := 0) (cs := (viwC u (.slice AV nV cV))) ?_ viw_agg viw_size ?_ (fun j v hv => by rw [Nat.zero_add]; exact ((R5.out.on hSw).cell j).trans hv) rfl <;> rfl
 (try simp only [Act.put, pu1, pu2, pu3])
 refine wpPlan_take (v := ?_) (by kernel_rfl) (fun wS hSw => ?_) ?_
 rotate_left
 ·(try dsimp only at hSw); go_simp; (try with_reducible rfl)
 (try simp only [Act.put, pu1, pu2, pu3])
 refine wpPlan_take (v := ?_) (by kernel_rfl) (fun wS hSw => ?_) ?_
 rotate_left
 ·(try dsimp only at hSw); go_simp; (try with_reducible rfl)
 (try simp only [Act.put, pu1, pu2, pu3])
 refine wpPlan_call (by kernel_rfl) (fun K hK => ?_)
 have hOld := hide hHeld
 clear hHeld
 go_simp
 go_at_call 20
 refine (VPart_any HP.out _ (HU.out.under hOld.out (by omega)) (HL.out.under hOld.out (by omega)) (by have := hOld.out.size; omega) HF.out HFU.out (HV.out.under hOld.out (by omega)) (by have := hOld.out.size; omega) hnV).mono ?_
 rintro e w' ⟨A8, c8, rfl, h8, hbel⟩
 have HT := hide (fr_under h8)
 clear h8
 refine hK.out _ _ (hOld.out.trans (hbel.mono hOld.out.size)) (fun hHeld => ?_)
 clear hK K
 (try simp only [Act.put, pu1, pu2, pu3])
 refine wpPlan_call (by kernel_rfl) (fun K hK => ?_)
 have hOld := hide hHeld
 clear hHeld
 go_simp
 go_at_call 21
 refine (RVPart_e HP.out _ (HU.out.under hOld.out (by omega)) (HL.out.under hOld.out (by omega)) (by have := hOld.out.size; omega) HF.out HFU.out (HV.out.under hOld.out (by omega)) (by have := hOld.out.size; omega) hnV).mono ?_
 rintro e w' ⟨A9, c9, rfl, h9, hbel⟩
 have HW := hide (fr_under h9)
 have HT' := hide (HT.out.under hbel (Nat.le_refl _))
 clear HT h9
 refine hK.out _ _ (hOld.out.trans (hbel.mono hOld.out.size)) (fun hHeld => ?_)
 clear hK K
 (try simp only [Act.put, pu1, pu2, pu3])
 refine wpPlan_call (by kernel_rfl) (fun K hK => ?_)
 have hOld := hide hHeld
 clear hHeld
 go_simp
 go_at_call 19
 refine (EqPlc_same (L := P) _ HT'.out HW.out (by have := HPL.out; omega)).mono ?_
 rintro e w' ⟨rfl, hbel⟩
 clear HT' HW
 refine hK.out _ _ (hOld.out.trans (hbel.mono hOld.out.size)) (fun hHeld => ?_)
 clear hK K
 (try simp only [Act.put, pu1, pu2, pu3])
 refine wpPlan_take (v := ?_) (by kernel_rfl) (fun wS hSw => ?_) ?_
 rotate_left
 ·(try dsimp only at hSw); go_simp; (try with_reducible rfl)
 (try simp only [Act.put, pu1, pu2, pu3])
 refine wpPlan_take (v := ?_) (by kernel_rfl) (fun wS hSw => ?_) ?_
 rotate_left
 ·refine execOp_load (x := .tmp 4) (k := 6) (g := w.heap.size) (off := 0) (cs := (stkC g (.slice AU nU cU) (.slice AL nL cL))) ?_ stk_agg stk_size ?_ (fun j v hv => by rw [Nat.zero_add]; exact ((R4.out.on hSw).cell j).trans hv) rfl <;> rfl
 (try simp only [Act.put, pu1, pu2, pu3])
 refine wpPlan_take (v := ?_) (by kernel_rfl) (fun wS hSw => ?_) ?_
 rotate_left
 ·refine execOp_load (x := .tmp 5) (k := 2) (g := w.heap.size + 1) (off := 0) (cs := (viwC u (.slice AV nV cV))) ?_ viw_agg viw_size ?_ (fun j v hv => by rw [Nat.zero_add]; exact ((R5.out.on hSw).cell j).trans hv) rfl <;> rfl
 (try simp only [Act.put, pu1, pu2, pu3])
 refine wpPlan_take (v := ?_) (by kernel_rfl) (fun wS hSw => ?_) ?_
 rotate_left
 ·refine execOp_load (x := .tmp 4) (k := 6) (g := w.heap.size) (off := 0) (cs := (stkC g (.slice AU nU cU) (.slice AL nL cL))) ?_ stk_agg stk_size ?_ (fun j v hv => by rw [Nat.zero_add]; exact ((R4.out.on hSw).cell j).trans hv) rfl <;> rfl
 (try simp only [Act.put, pu1, pu2, pu3])
 refine wpPlan_take (v := ?_) (by kernel_rfl) (fun wS hSw => ?_) ?_
 rotate_left
 ·refine execOp_load (x := .tmp 5) (k := 2) (g := w.heap.size + 1) (off := 0) (cs := (viwC u (.slice AV nV cV))) ?_ viw_agg viw_size ?_ (fun j v hv => by rw [Nat.zero_add]; exact ((R5.out.on hSw).cell j).trans hv) rfl <;> rfl
 (try simp only [Act.put, pu1, pu2, pu3])
 refine wpPlan_call (by kernel_rfl) (fun K hK => ?_)
 have hOld := hide hHeld
 clear hHeld
 go_simp
 go_at_call 23
 refine (VNames_e HNV.out _ (HU.out.under hOld.out (by omega)) (HL.out.under hOld.out (by omega)) (by have := hOld.out.size; omega) HF.out HFU.out (HV.out.under hOld.out (by omega)) (by have := hOld.out.size; omega) hnV).mono ?_
 rintro e w' ⟨AA, na, ca, rfl, ha, hbel⟩
 have HT := hide ha.rd
 clear ha
 refine hK.out _ _ (hOld.out.trans (hbel.mono hOld.out.size)) (fun hHeld => ?_)
 clear hK K
 (try simp only [Act.put, pu1, pu2, pu3])
 refine wpPlan_call (by kernel_rfl) (fun K hK => ?_)
 have hOld := hide hHeld
 clear hHeld
 go_simp
 go_at_call 24
 refine (RVNames_e HNV.out _ (HU.out.under hOld.out (by omega)) (HL.out.under hOld.out (by omega)) (by have := hOld.out.size; omega) HF.out HFU.out (HV.out.under hOld.out (by omega)) (by have := hOld.out.size; omega) hnV).mono ?_
 rintro e w' ⟨AB, nb, cb, rfl, hb, hbel⟩
 have HW := hide hb.rd
 have HT' := hide (HT.out.on hbel)
 clear HT hb
 refine hK.out _ _ (hOld.out.trans (hbel.mono hOld.out.size)) (fun hHeld => ?_)
 clear hK K
 (try simp only [Act.put, pu1, pu2, pu3])
 refine wpPlan_call (by kernel_rfl) (fun K hK => ?_)
 have hOld := hide hHeld
 clear hHeld
 go_simp
 go_at_call 22
 refine (EqS_b (show (NL == NL) = true from by simp) _ HT'.out HW.out (by have := HNL.out; have := HT'.out.len; omega)).mono ?_
 rintro e w' ⟨rfl, hbel⟩
 clear HT' HW
 refine hK.out _ _ (hOld.out.trans (hbel.mono hOld.out.size)) (fun hHeld => ?_)
 clear hK K
 (try simp only [Act.put, pu1, pu2, pu3])
 refine wpPlan_take (v := ?_) (by kernel_rfl) (fun wS hSw => ?_) ?_
 rotate_left
 ·(try dsimp only at hSw); go_simp; (try with_reducible rfl)
 (try simp only [Act.put, pu1, pu2, pu3])
 refine wpPlan_take (v := ?_) (by kernel_rfl) (fun wS hSw => ?_) ?_
 rotate_left
 ·(try dsimp only at hSw); go_simp; (try with_reducible rfl)
 (try simp only [Act.put, pu1, pu2, pu3])
 refine wpPlan_call (by kernel_rfl) (fun K hK => ?_)
 have hOld := hide hHeld
 clear hHeld
 go_simp
 go_at_call 13
 refine (awake17_any _).mono ?_
 rintro e w' ⟨rfl, hbel⟩
 refine hK.out _ _ (hOld.out.trans (hbel.mono hOld.out.size)) (fun hHeld => ?_)
 clear hK K
 (try simp only [Act.put, pu1, pu2, pu3])
 refine wpPlan_take (v := ?_) (by kernel_rfl) (fun wS hSw => ?_) ?_
 rotate_left
 ·(try dsimp only at hSw); go_simp; (try with_reducible rfl)
 (try simp only [Act.put, pu1, pu2, pu3])
 refine wpPlan_take (v := ?_) (by kernel_rfl) (fun wS hSw => ?_) ?_
 rotate_left
 ·(try dsimp only at hSw); go_simp; (try with_reducible rfl)
 (try simp only [Act.put, pu1, pu2, pu3])
 refine wpPlan_end ?_
 have HBX := hide (HB.out.trans (hHeld.mono HB.out.size))
 clear hHeld
 go_wp2_with fail
 go_ret
 exact LawOk.of HBX.out
end Go.Proofs.YtabhgoekpbmdlaaGreat

