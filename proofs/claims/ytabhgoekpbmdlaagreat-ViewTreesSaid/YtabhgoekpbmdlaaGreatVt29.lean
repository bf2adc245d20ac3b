import Derived.Test.YtabhgoekpbmdlaaGreatVt22
import Derived.Test.YtabhgoekpbmdlaaGreatVt28
import Derived.Test.YtabhgoekpbmdlaaGreatVt10
import Derived.Test.YtabhgoekpbmdlaaGreatVt12
import Derived.Test.YtabhgoekpbmdlaaGreatVt21
import Derived.Test.YtabhgoekpbmdlaaGreatVt4

/- view.Root (layer 17). Written by gen_ViwB.py. -/
namespace Go.Proofs.YtabhgoekpbmdlaaGreat
open Go.RowKit Go.Shelf Plain

set_option maxRecDepth 100000 in
theorem plcs_size : ∀ w, (Go.sizeOf 30).run Tryz.prog w = .ok 1 w := fun w => by kernel_rfl
set_option maxRecDepth 100000 in
set_option maxHeartbeats 4000000 in
theorem VRoot_any {g : GeoQ} {AU AL : Option Addr} {nU cU nL cL B : Nat} {up : List NodV} {ls : List (List NodV)} (w : World) (hu : RdE nodEn w (Under B) AU nU up) (h : RdE layEn w (Under B) AL nL ls) (hB : B ≤ w.heap.size) (hF : FewL ls) (hup : FewU up) : Calls Tryz.prog 17 #[.agg (stkC g (.slice AU nU cU) (.slice AL nL cL)).toArray] w (ViewF w.heap.size w (rootV up ls)) := by
 obtain ⟨W1, hW1⟩ : ∃ W1, (((w.alloc (.cells (stkC g (.slice AU nU cU) (.slice AL nL cL)).toArray 29)).alloc (.cells (viwC 0 (.slice none 0 0)).toArray 32)).alloc (.cells (viwC 0 (.slice none 0 0)).toArray 32)) = W1 := ⟨_, rfl⟩
 obtain ⟨r0, r1, r2, hb1, hs1⟩ := rowA3 w _ _ _ _ _ _ hW1
 have hW1' : (((w.alloc (.cells #[.int .i64 g.a, .int .i64 g.b, .int .i64 g.c, .int .i64 g.d, .slice AU nU cU, .slice AL nL cL] 29)).alloc (.cells #[.int .i64 0, .slice none 0 0] 32)).alloc (.cells #[.int .i64 0, .slice none 0 0] 32)) = W1 := hW1
 have R1 := hide r0
 have R2 := hide r1
 have R3 := hide r2
 have HB := hide hb1
 have hsz0 := hb1.size
 have HU := hide (hu.under hb1 hB)
 have HL := hide (h.under hb1 hB)
 have HF := hide hF
 have HFU := hide hup
 obtain ⟨x, hx⟩ : ∃ x, nodAt up 1 = x := ⟨_, rfl⟩
 have HX := hide hx
 obtain ⟨V, hV⟩ : ∃ V, rootV up ls = V := ⟨_, rfl⟩
 rw [hV]
 have hatt : 0 ≤ x.att.h ∧ x.att.h ≤ 31 := by rw [← hx]; exact (nodAt_plain hup.2 1).2.2.1
 obtain ⟨bo, hbo⟩ : ∃ bo, opqD x = bo := ⟨_, rfl⟩
 have HOP := hide hbo
 have q1_4 : W1.cell? ⟨w.heap.size, 4, none⟩ = some (.slice AU nU cU) := R1.out.cell 4
 unfold rootV at hV
 rw [hx, hbo] at hV
 unfold stkC
 by_cases hk : x.k = 1
 ·rw [if_pos hk] at hV
  have hk1 : (x.k == 1) = true := by simpa using hk
  have hk2 : (x.k != 1) = false := by simpa using hk
  cases bo
  ·have HV := hide (show V = (1, rootsL ls 0) from by simpa using hV.symm)
   clear r0 r1 r2 hb1 hW1 hu h hup hF hV hx hbo hk
   go_enter Tryz.func17, Tryz.ntmps17
   go_wp2_with (first | (go_at_call 70; refine (Of_e HX.out W1 HU.out (by omega) (by have := HFU.out.1; omega)).mono ?_; rintro e1 wN ⟨A1, n1, c1, C1, m1, d1, rfl, -, -, -, -, hbel⟩; clear q1_4; replace HB := hide (HB.out.trans (hbel.mono HB.out.size)); replace R1 := hide (R1.out.on hbel); replace R2 := hide (R2.out.on hbel); replace R3 := hide (R3.out.on hbel); replace HU := hide (HU.out.under hbel (by omega)); replace HL := hide (HL.out.under hbel (by omega)); have hsz2 := hbel.size; have q1_4 : wN.cell? ⟨w.heap.size, 4, none⟩ = some (.slice AU nU cU) := R1.out.cell 4; clear hbel) | (refine wpList_storeW rfl 63 (.tmp 4) (.tmp 7) rfl 13 nod_size (wN.heap.size) 63 rfl (nodC nod0 (.slice none 0 0) (.slice none 0 0)) (nodC x (.slice A1 n1 c1) (.slice C1 m1 d1)) rfl (RowL.new wN 63 (nodC nod0 (.slice none 0 0) (.slice none 0 0))) rfl rfl (nodC_one _ _ _ _ _ _ _) ?_; intro wS3 hr3 hg3 hs3; have hzb := below_stored' hg3; clear q1_4; replace HB := hide (HB.out.trans (hzb.mono HB.out.size)); replace R1 := hide (R1.out.on hzb); replace R2 := hide (R2.out.on hzb); replace R3 := hide (R3.out.on hzb); replace HU := hide (HU.out.under hzb (by omega)); replace HL := hide (HL.out.under hzb (by omega)); have hsz4 := hzb.size; have q1_4 : wS3.cell? ⟨w.heap.size, 4, none⟩ = some (.slice AU nU cU) := R1.out.cell 4; have RN := hide hr3; have hlt3 := hr3.lt; have q4_0 : wS3.cell? ⟨wN.heap.size, 0, none⟩ = some (.int .i64 x.k) := RN.out.cell 0; clear hzb hr3; clear hg3 hs3) | (refine wpList_storeV rfl 3 (.tmp 11) (Operand.const (Value.int IntKind.i64 1)) rfl int_size (w.heap.size + 1 + 1) 0 32 rfl (.int .i64 1) rfl rfl rfl (viwC 0 (.slice none 0 0)) R3.out (by decide) ?_; intro wS5 hr5 hg5 hs5; replace hr5 : RowL wS5 (w.heap.size + 1 + 1) 32 [.int .i64 1, .slice none 0 0] := hr5; clear q1_4 q4_0; replace HB := hide (HB.out.grown hg5 (by omega) (fun k hk => by have := Option.some.inj hk; omega)); replace R1 := hide (R1.out.grown hg5 (fun e => by have := Option.some.inj e; omega)); replace R2 := hide (R2.out.grown hg5 (fun e => by have := Option.some.inj e; omega)); replace HU := hide (und_grown HU.out hg5 (by omega) (by omega)); replace HL := hide (und_grown HL.out hg5 (by omega) (by omega)); replace RN := hide (RN.out.grown hg5 (fun e => by have := Option.some.inj e; omega)); have hsz6 := hg5.size; replace R3 := hide hr5; have q1_4 : wS5.cell? ⟨w.heap.size, 4, none⟩ = some (.slice AU nU cU) := R1.out.cell 4; have q4_0 : wS5.cell? ⟨wN.heap.size, 0, none⟩ = some (.int .i64 x.k) := RN.out.cell 0; clear hr5 hg5 hs5) | (refine wpList_loadW rfl 63 (.tmp 4) rfl 13 nod_agg nod_size (wN.heap.size) 63 rfl (nodC x (.slice A1 n1 c1) (.slice C1 m1 d1)) RN.out rfl ?_) | (go_at_call 30; refine (VOpq_b HOP.out hatt.1 hatt.2 wS5).mono ?_; rintro e7 wO ⟨rfl, hbel⟩; clear q1_4 q4_0; replace HB := hide (HB.out.trans (hbel.mono HB.out.size)); replace R1 := hide (R1.out.on hbel); replace R2 := hide (R2.out.on hbel); replace R3 := hide (R3.out.on hbel); replace HU := hide (HU.out.under hbel (by omega)); replace HL := hide (HL.out.under hbel (by omega)); replace RN := hide (RN.out.on hbel); have hsz8 := hbel.size; have q1_4 : wO.cell? ⟨w.heap.size, 4, none⟩ = some (.slice AU nU cU) := R1.out.cell 4; have q4_0 : wO.cell? ⟨wN.heap.size, 0, none⟩ = some (.int .i64 x.k) := RN.out.cell 0; clear hbel) | (refine wpList_loadW rfl 29 (.tmp 1) rfl 6 stk_agg stk_size (w.heap.size) 29 rfl (stkC g (.slice AU nU cU) (.slice AL nL cL)) R1.out rfl ?_) | (go_at_call 71; refine (Roots_f wO (und_up HL.out (by omega)) HF.out).mono ?_; rintro e9 wR ⟨A6, c6, rfl, h6, hbel⟩; clear q1_4 q4_0; replace HB := hide (HB.out.trans (hbel.mono HB.out.size)); replace R1 := hide (R1.out.on hbel); replace R2 := hide (R2.out.on hbel); replace R3 := hide (R3.out.on hbel); replace HU := hide (HU.out.under hbel (by omega)); replace HL := hide (HL.out.under hbel (by omega)); replace RN := hide (RN.out.on hbel); have hsz10 := hbel.size; have q1_4 : wR.cell? ⟨w.heap.size, 4, none⟩ = some (.slice AU nU cU) := R1.out.cell 4; have q4_0 : wR.cell? ⟨wN.heap.size, 0, none⟩ = some (.int .i64 x.k) := RN.out.cell 0; have H6 := hide h6; clear h6; clear hbel) | (refine wpList_storeV rfl 30 (.tmp 17) (.tmp 16) rfl plcs_size (w.heap.size + 1 + 1) 1 32 rfl (.slice A6 (rootsL ls 0).length c6) rfl rfl rfl [.int .i64 1, .slice none 0 0] R3.out (by decide) ?_; intro wS11 hr11 hg11 hs11; replace hr11 : RowL wS11 (w.heap.size + 1 + 1) 32 [.int .i64 1, .slice A6 (rootsL ls 0).length c6] := hr11; clear q1_4 q4_0; replace HB := hide (HB.out.grown hg11 (by omega) (fun k hk => by have := Option.some.inj hk; omega)); replace R1 := hide (R1.out.grown hg11 (fun e => by have := Option.some.inj e; omega)); replace R2 := hide (R2.out.grown hg11 (fun e => by have := Option.some.inj e; omega)); replace HU := hide (und_grown HU.out hg11 (by omega) (by omega)); replace HL := hide (und_grown HL.out hg11 (by omega) (by omega)); replace RN := hide (RN.out.grown hg11 (fun e => by have := Option.some.inj e; omega)); replace H6 := hide (fr_grown H6.out hg11 (by omega)); have hsz12 := hg11.size; replace R3 := hide hr11; have q1_4 : wS11.cell? ⟨w.heap.size, 4, none⟩ = some (.slice AU nU cU) := R1.out.cell 4; have q4_0 : wS11.cell? ⟨wN.heap.size, 0, none⟩ = some (.int .i64 x.k) := RN.out.cell 0; clear hr11 hg11 hs11) | (refine wpList_loadW rfl 32 (.tmp 3) rfl 2 viw_agg viw_size (w.heap.size + 1 + 1) 32 rfl [.int .i64 1, .slice A6 (rootsL ls 0).length c6] R3.out rfl ?_) | (refine wpList_storeW rfl 32 (.tmp 2) (.tmp 18) rfl 2 viw_size (w.heap.size + 1) 32 rfl (viwC 0 (.slice none 0 0)) (viwC 1 (.slice A6 (rootsL ls 0).length c6)) rfl R2.out rfl rfl (viwC_one _ _ _ _) ?_; intro wS13 hr13 hg13 hs13; clear q1_4 q4_0; replace HB := hide (HB.out.grown hg13 (by omega) (fun k hk => by have := Option.some.inj hk; omega)); replace R1 := hide (R1.out.grown hg13 (fun e => by have := Option.some.inj e; omega)); replace R3 := hide (R3.out.grown hg13 (fun e => by have := Option.some.inj e; omega)); replace HU := hide (und_grown HU.out hg13 (by omega) (by omega)); replace HL := hide (und_grown HL.out hg13 (by omega) (by omega)); replace RN := hide (RN.out.grown hg13 (fun e => by have := Option.some.inj e; omega)); replace H6 := hide (fr_grown H6.out hg13 (by omega)); have hsz14 := hg13.size; replace R2 := hide hr13; have q1_4 : wS13.cell? ⟨w.heap.size, 4, none⟩ = some (.slice AU nU cU) := R1.out.cell 4; have q4_0 : wS13.cell? ⟨wN.heap.size, 0, none⟩ = some (.int .i64 x.k) := RN.out.cell 0; clear hr13 hg13 hs13))
   exact bodyPost_ret (res_cell Tryz.results17 rfl viw_agg viw_size R2.out rfl) rfl ⟨A6, c6, by rw [HV.out], by rw [HV.out]; exact fr_low H6.out (by omega), HB.out⟩
  ·have HV := hide (show V = (1, []) from by simpa using hV.symm)
   clear r0 r1 r2 hb1 hW1 hu h hup hF hV hx hbo hk
   go_enter Tryz.func17, Tryz.ntmps17
   go_wp2_with (first | (go_at_call 70; refine (Of_e HX.out W1 HU.out (by omega) (by have := HFU.out.1; omega)).mono ?_; rintro e1 wN ⟨A1, n1, c1, C1, m1, d1, rfl, -, -, -, -, hbel⟩; clear q1_4; replace HB := hide (HB.out.trans (hbel.mono HB.out.size)); replace R1 := hide (R1.out.on hbel); replace R2 := hide (R2.out.on hbel); replace R3 := hide (R3.out.on hbel); replace HU := hide (HU.out.under hbel (by omega)); replace HL := hide (HL.out.under hbel (by omega)); have hsz2 := hbel.size; have q1_4 : wN.cell? ⟨w.heap.size, 4, none⟩ = some (.slice AU nU cU) := R1.out.cell 4; clear hbel) | (refine wpList_storeW rfl 63 (.tmp 4) (.tmp 7) rfl 13 nod_size (wN.heap.size) 63 rfl (nodC nod0 (.slice none 0 0) (.slice none 0 0)) (nodC x (.slice A1 n1 c1) (.slice C1 m1 d1)) rfl (RowL.new wN 63 (nodC nod0 (.slice none 0 0) (.slice none 0 0))) rfl rfl (nodC_one _ _ _ _ _ _ _) ?_; intro wS3 hr3 hg3 hs3; have hzb := below_stored' hg3; clear q1_4; replace HB := hide (HB.out.trans (hzb.mono HB.out.size)); replace R1 := hide (R1.out.on hzb); replace R2 := hide (R2.out.on hzb); replace R3 := hide (R3.out.on hzb); replace HU := hide (HU.out.under hzb (by omega)); replace HL := hide (HL.out.under hzb (by omega)); have hsz4 := hzb.size; have q1_4 : wS3.cell? ⟨w.heap.size, 4, none⟩ = some (.slice AU nU cU) := R1.out.cell 4; have RN := hide hr3; have hlt3 := hr3.lt; have q4_0 : wS3.cell? ⟨wN.heap.size, 0, none⟩ = some (.int .i64 x.k) := RN.out.cell 0; clear hzb hr3; clear hg3 hs3) | (refine wpList_storeV rfl 3 (.tmp 11) (Operand.const (Value.int IntKind.i64 1)) rfl int_size (w.heap.size + 1 + 1) 0 32 rfl (.int .i64 1) rfl rfl rfl (viwC 0 (.slice none 0 0)) R3.out (by decide) ?_; intro wS5 hr5 hg5 hs5; replace hr5 : RowL wS5 (w.heap.size + 1 + 1) 32 [.int .i64 1, .slice none 0 0] := hr5; clear q1_4 q4_0; replace HB := hide (HB.out.grown hg5 (by omega) (fun k hk => by have := Option.some.inj hk; omega)); replace R1 := hide (R1.out.grown hg5 (fun e => by have := Option.some.inj e; omega)); replace R2 := hide (R2.out.grown hg5 (fun e => by have := Option.some.inj e; omega)); replace HU := hide (und_grown HU.out hg5 (by omega) (by omega)); replace HL := hide (und_grown HL.out hg5 (by omega) (by omega)); replace RN := hide (RN.out.grown hg5 (fun e => by have := Option.some.inj e; omega)); have hsz6 := hg5.size; replace R3 := hide hr5; have q1_4 : wS5.cell? ⟨w.heap.size, 4, none⟩ = some (.slice AU nU cU) := R1.out.cell 4; have q4_0 : wS5.cell? ⟨wN.heap.size, 0, none⟩ = some (.int .i64 x.k) := RN.out.cell 0; clear hr5 hg5 hs5) | (refine wpList_loadW rfl 63 (.tmp 4) rfl 13 nod_agg nod_size (wN.heap.size) 63 rfl (nodC x (.slice A1 n1 c1) (.slice C1 m1 d1)) RN.out rfl ?_) | (go_at_call 30; refine (VOpq_b HOP.out hatt.1 hatt.2 wS5).mono ?_; rintro e7 wO ⟨rfl, hbel⟩; clear q1_4 q4_0; replace HB := hide (HB.out.trans (hbel.mono HB.out.size)); replace R1 := hide (R1.out.on hbel); replace R2 := hide (R2.out.on hbel); replace R3 := hide (R3.out.on hbel); replace HU := hide (HU.out.under hbel (by omega)); replace HL := hide (HL.out.under hbel (by omega)); replace RN := hide (RN.out.on hbel); have hsz8 := hbel.size; have q1_4 : wO.cell? ⟨w.heap.size, 4, none⟩ = some (.slice AU nU cU) := R1.out.cell 4; have q4_0 : wO.cell? ⟨wN.heap.size, 0, none⟩ = some (.int .i64 x.k) := RN.out.cell 0; clear hbel) | (refine wpList_loadW rfl 32 (.tmp 3) rfl 2 viw_agg viw_size (w.heap.size + 1 + 1) 32 rfl [.int .i64 1, .slice none 0 0] R3.out rfl ?_) | (refine wpList_storeW rfl 32 (.tmp 2) (.tmp 18) rfl 2 viw_size (w.heap.size + 1) 32 rfl (viwC 0 (.slice none 0 0)) (viwC 1 (.slice none 0 0)) rfl R2.out rfl rfl (viwC_one _ _ _ _) ?_; intro wS9 hr9 hg9 hs9; clear q1_4 q4_0; replace HB := hide (HB.out.grown hg9 (by omega) (fun k hk => by have := Option.some.inj hk; omega)); replace R1 := hide (R1.out.grown hg9 (fun e => by have := Option.some.inj e; omega)); replace R3 := hide (R3.out.grown hg9 (fun e => by have := Option.some.inj e; omega)); replace HU := hide (und_grown HU.out hg9 (by omega) (by omega)); replace HL := hide (und_grown HL.out hg9 (by omega) (by omega)); replace RN := hide (RN.out.grown hg9 (fun e => by have := Option.some.inj e; omega)); have hsz10 := hg9.size; replace R2 := hide hr9; have q1_4 : wS9.cell? ⟨w.heap.size, 4, none⟩ = some (.slice AU nU cU) := R1.out.cell 4; have q4_0 : wS9.cell? ⟨wN.heap.size, 0, none⟩ = some (.int .i64 x.k) := RN.out.cell 0; clear hr9 hg9 hs9))
   exact bodyPost_ret (res_cell Tryz.results17 rfl viw_agg viw_size R2.out rfl) rfl ⟨none, 0, by rw [HV.out]; rfl, by rw [HV.out]; exact RdE.none_ _ _ _ _, HB.out⟩
 ·rw [if_neg hk] at hV
  have hk1 : (x.k == 1) = false := by simpa using hk
  have hk2 : (x.k != 1) = true := by simpa using hk
  have hbf : bo = false := by rw [← hbo]; unfold opqD; simp [hk]
  subst hbf
  have HV := hide (show V = (0, rootsL ls 0) from by simpa using hV.symm)
  clear r0 r1 r2 hb1 hW1 hu h hup hF hV hx hbo hk
  go_enter Tryz.func17, Tryz.ntmps17
  go_wp2_with (first | (go_at_call 70; refine (Of_e HX.out W1 HU.out (by omega) (by have := HFU.out.1; omega)).mono ?_; rintro e1 wN ⟨A1, n1, c1, C1, m1, d1, rfl, -, -, -, -, hbel⟩; clear q1_4; replace HB := hide (HB.out.trans (hbel.mono HB.out.size)); replace R1 := hide (R1.out.on hbel); replace R2 := hide (R2.out.on hbel); replace R3 := hide (R3.out.on hbel); replace HU := hide (HU.out.under hbel (by omega)); replace HL := hide (HL.out.under hbel (by omega)); have hsz2 := hbel.size; have q1_4 : wN.cell? ⟨w.heap.size, 4, none⟩ = some (.slice AU nU cU) := R1.out.cell 4; clear hbel) | (refine wpList_storeW rfl 63 (.tmp 4) (.tmp 7) rfl 13 nod_size (wN.heap.size) 63 rfl (nodC nod0 (.slice none 0 0) (.slice none 0 0)) (nodC x (.slice A1 n1 c1) (.slice C1 m1 d1)) rfl (RowL.new wN 63 (nodC nod0 (.slice none 0 0) (.slice none 0 0))) rfl rfl (nodC_one _ _ _ _ _ _ _) ?_; intro wS3 hr3 hg3 hs3; have hzb := below_stored' hg3; clear q1_4; replace HB := hide (HB.out.trans (hzb.mono HB.out.size)); replace R1 := hide (R1.out.on hzb); replace R2 := hide (R2.out.on hzb); replace R3 := hide (R3.out.on hzb); replace HU := hide (HU.out.under hzb (by omega)); replace HL := hide (HL.out.under hzb (by omega)); have hsz4 := hzb.size; have q1_4 : wS3.cell? ⟨w.heap.size, 4, none⟩ = some (.slice AU nU cU) := R1.out.cell 4; have RN := hide hr3; have hlt3 := hr3.lt; have q4_0 : wS3.cell? ⟨wN.heap.size, 0, none⟩ = some (.int .i64 x.k) := RN.out.cell 0; clear hzb hr3; clear hg3 hs3) | (refine wpList_loadW rfl 63 (.tmp 4) rfl 13 nod_agg nod_size (wN.heap.size) 63 rfl (nodC x (.slice A1 n1 c1) (.slice C1 m1 d1)) RN.out rfl ?_) | (go_at_call 30; refine (VOpq_b HOP.out hatt.1 hatt.2 wS3).mono ?_; rintro e5 wO ⟨rfl, hbel⟩; clear q1_4 q4_0; replace HB := hide (HB.out.trans (hbel.mono HB.out.size)); replace R1 := hide (R1.out.on hbel); replace R2 := hide (R2.out.on hbel); replace R3 := hide (R3.out.on hbel); replace HU := hide (HU.out.under hbel (by omega)); replace HL := hide (HL.out.under hbel (by omega)); replace RN := hide (RN.out.on hbel); have hsz6 := hbel.size; have q1_4 : wO.cell? ⟨w.heap.size, 4, none⟩ = some (.slice AU nU cU) := R1.out.cell 4; have q4_0 : wO.cell? ⟨wN.heap.size, 0, none⟩ = some (.int .i64 x.k) := RN.out.cell 0; clear hbel) | (refine wpList_loadW rfl 29 (.tmp 1) rfl 6 stk_agg stk_size (w.heap.size) 29 rfl (stkC g (.slice AU nU cU) (.slice AL nL cL)) R1.out rfl ?_) | (go_at_call 71; refine (Roots_f wO (und_up HL.out (by omega)) HF.out).mono ?_; rintro e7 wR ⟨A6, c6, rfl, h6, hbel⟩; clear q1_4 q4_0; replace HB := hide (HB.out.trans (hbel.mono HB.out.size)); replace R1 := hide (R1.out.on hbel); replace R2 := hide (R2.out.on hbel); replace R3 := hide (R3.out.on hbel); replace HU := hide (HU.out.under hbel (by omega)); replace HL := hide (HL.out.under hbel (by omega)); replace RN := hide (RN.out.on hbel); have hsz8 := hbel.size; have q1_4 : wR.cell? ⟨w.heap.size, 4, none⟩ = some (.slice AU nU cU) := R1.out.cell 4; have q4_0 : wR.cell? ⟨wN.heap.size, 0, none⟩ = some (.int .i64 x.k) := RN.out.cell 0; have H6 := hide h6; clear h6; clear hbel) | (refine wpList_storeV rfl 30 (.tmp 17) (.tmp 16) rfl plcs_size (w.heap.size + 1 + 1) 1 32 rfl (.slice A6 (rootsL ls 0).length c6) rfl rfl rfl (viwC 0 (.slice none 0 0)) R3.out (by decide) ?_; intro wS9 hr9 hg9 hs9; replace hr9 : RowL wS9 (w.heap.size + 1 + 1) 32 [.int .i64 0, .slice A6 (rootsL ls 0).length c6] := hr9; clear q1_4 q4_0; replace HB := hide (HB.out.grown hg9 (by omega) (fun k hk => by have := Option.some.inj hk; omega)); replace R1 := hide (R1.out.grown hg9 (fun e => by have := Option.some.inj e; omega)); replace R2 := hide (R2.out.grown hg9 (fun e => by have := Option.some.inj e; omega)); replace HU := hide (und_grown HU.out hg9 (by omega) (by omega)); replace HL := hide (und_grown HL.out hg9 (by omega) (by omega)); replace RN := hide (RN.out.grown hg9 (fun e => by have := Option.some.inj e; omega)); replace H6 := hide (fr_grown H6.out hg9 (by omega)); have hsz10 := hg9.size; replace R3 := hide hr9; have q1_4 : wS9.cell? ⟨w.heap.size, 4, none⟩ = some (.slice AU nU cU) := R1.out.cell 4; have q4_0 : wS9.cell? ⟨wN.heap.size, 0, none⟩ = some (.int .i64 x.k) := RN.out.cell 0; clear hr9 hg9 hs9) | (refine wpList_loadW rfl 32 (.tmp 3) rfl 2 viw_agg viw_size (w.heap.size + 1 + 1) 32 rfl [.int .i64 0, .slice A6 (rootsL ls 0).length c6] R3.out rfl ?_) | (refine wpList_storeW rfl 32 (.tmp 2) (.tmp 18) rfl 2 viw_size (w.heap.size + 1) 32 rfl (viwC 0 (.slice none 0 0)) (viwC 0 (.slice A6 (rootsL ls 0).length c6)) rfl R2.out rfl rfl (viwC_one _ _ _ _) ?_; intro wS11 hr11 hg11 hs11; clear q1_4 q4_0; replace HB := hide (HB.out.grown hg11 (by omega) (fun k hk => by have := Option.some.inj hk; omega)); replace R1 := hide (R1.out.grown hg11 (fun e => by have := Option.some.inj e; omega)); replace R3 := hide (R3.out.grown hg11 (fun e => by have := Option.some.inj e; omega)); replace HU := hide (und_grown HU.out hg11 (by omega) (by omega)); replace HL := hide (und_grown HL.out hg11 (by omega) (by omega)); replace RN := hide (RN.out.grown hg11 (fun e => by have := Option.some.inj e; omega)); replace H6 := hide (fr_grown H6.out hg11 (by omega)); have hsz12 := hg11.size; replace R2 := hide hr11; have q1_4 : wS11.cell? ⟨w.heap.size, 4, none⟩ = some (.slice AU nU cU) := R1.out.cell 4; have q4_0 : wS11.cell? ⟨wN.heap.size, 0, none⟩ = some (.int .i64 x.k) := RN.out.cell 0; clear hr11 hg11 hs11))
  exact bodyPost_ret (res_cell Tryz.results17 rfl viw_agg viw_size R2.out rfl) rfl ⟨A6, c6, by rw [HV.out], by rw [HV.out]; exact fr_low H6.out (by omega), HB.out⟩
theorem VRoot_e {g : GeoQ} {AU AL : Option Addr} {nU cU nL cL B : Nat} {up : List NodV} {ls : List (List NodV)} {V : ViewV} (hV : rootV up ls = V) (w : World) (hu : RdE nodEn w (Under B) AU nU up) (h : RdE layEn w (Under B) AL nL ls) (hB : B ≤ w.heap.size) (hF : FewL ls) (hup : FewU up) : Calls Tryz.prog 17 #[.agg (stkC g (.slice AU nU cU) (.slice AL nL cL)).toArray] w (ViewF w.heap.size w V) := by rw [← hV]; exact VRoot_any w hu h hB hF hup
end Go.Proofs.YtabhgoekpbmdlaaGreat

/- Rows of views; view.Tree of a stack whose upper layer has one directory (layer 17). -/
namespace Go.Proofs.YtabhgoekpbmdlaaGreat
open Go.RowKit Go.Shelf Plain

/-- A view, its lower part somewhere. -/
def viewEn : Enc ViewV where
 k := 2
 R := fun w D cs v => ∃ A c, cs = viwC v.1 (.slice A v.2.length c) ∧ RdE prEn w D A v.2.length v.2
 len := fun ⟨_, _, h, _⟩ => by rw [h]; rfl
 one := fun ⟨_, _, h, _⟩ v hv => by rw [h] at hv; exact viwC_one _ _ _ _ v hv
 mono := fun ⟨A, c, h, hr⟩ hk hD => ⟨A, c, h, hr.mono hk hD⟩
def zviw : Value := .agg #[.int .i64 0, .slice none 0 0]
set_option maxRecDepth 100000 in
theorem viw_info : (Tryz.prog.info? 32).map (fun i => (i.zero, i.size, i.bytes)) = some (some zviw, 2, 32) := by kernel_rfl
theorem lit_viw (u : Int) (A : Option Addr) (n c : Nat) (W : World) : (Instr.buildSlice 48 1 #[(0, .agg (viwC u (.slice A n c)).toArray)]).run Tryz.prog W = .ok (.slice (some ⟨W.heap.size, 0, none⟩) 1 1) (W.alloc (.cells (viwC u (.slice A n c)).toArray 32)) := by
 obtain ⟨it, hi, hz, hsz, -⟩ := info_parts viw_info
 refine run_buildSlice W _ 32 1 _ _ it zviw Tryz.underlying48 hi hz (by omega) (by omega) ?_
 rw [hsz]
 have := Great.fill_whole (s := 2) (by omega) [.agg (viwC u (.slice A n c)).toArray] ((Array.range (1 * 2)).map (zviw.cells[· % zviw.cells.size]!)) (by intro v hv; rw [List.mem_singleton] at hv; subst hv; simp [Value.cells, viwC]) (by simp)
 simpa [Value.cells] using this
theorem viw_lit1 (W : World) (v : ViewV) {A : Option Addr} {c lo : Nat} (h : RdE prEn W (fun b => lo ≤ b ∧ b < W.heap.size) A v.2.length v.2) (hlo : lo ≤ W.heap.size) : RdE viewEn (W.alloc (.cells (viwC v.1 (.slice A v.2.length c)).toArray 32)) (fun b => lo ≤ b ∧ b < (W.alloc (.cells (viwC v.1 (.slice A v.2.length c)).toArray 32)).heap.size) (some ⟨W.heap.size, 0, none⟩) 1 [v] := by
 refine ⟨rfl, fun _ => ⟨_, _, rfl, ⟨hlo, by simp⟩, fun i y hy => ⟨viwC v.1 (.slice A v.2.length c), ?_, fun j x hx => ?_⟩⟩⟩
 ·have hi : i = 0 := by have := (List.getElem?_eq_some_iff.1 hy).1; simpa using this
  subst hi
  obtain rfl : v = y := by simpa using hy
  exact ⟨A, c, rfl, fr_on h (below_new (below_self W) _)⟩
 ·have hi : i = 0 := by have := (List.getElem?_eq_some_iff.1 hy).1; simpa using this
  subst hi
  rw [Nat.zero_mul, Nat.zero_add, Nat.zero_add, (RowL.new W 32 (viwC v.1 (.slice A v.2.length c))).cell]
  exact hx
/-- It returns one way, and one view. -/
def TreeF1 (w : World) (e : Ending) (w' : World) : Prop := ∃ A c A' c', e = .returned (.tuple #[.slice A 1 c, .slice A' 1 c']) ∧ Below w.heap.size w w'
set_option maxRecDepth 100000 in
set_option maxHeartbeats 1200000 in
theorem VTree1_any {g : GeoQ} {AU AL : Option Addr} {nU cU nL cL B : Nat} {up : List NodV} {ls : List (List NodV)} {y : WayV} (hw : (walkW up [1]).1 = [y]) (w : World) (hu : RdE nodEn w (Under B) AU nU up) (h : RdE layEn w (Under B) AL nL ls) (hB : B ≤ w.heap.size) (hF : FewL ls) (hup : FewU up) : Calls Tryz.prog 25 #[.agg (stkC g (.slice AU nU cU) (.slice AL nL cL)).toArray] w (TreeF1 w) := by
 obtain ⟨W1, hW1⟩ : ∃ W1, (w.alloc (.cells (stkC g (.slice AU nU cU) (.slice AL nL cL)).toArray 29)) = W1 := ⟨_, rfl⟩
 obtain ⟨r0, hb1, hs1⟩ := rowA1 w _ _ hW1
 have hW1' : (w.alloc (.cells #[.int .i64 g.a, .int .i64 g.b, .int .i64 g.c, .int .i64 g.d, .slice AU nU cU, .slice AL nL cL] 29)) = W1 := hW1
 have R1 := hide r0
 have HB := hide hb1
 have hsz0 := hb1.size
 have HU := hide (hu.under hb1 hB)
 have HL := hide (h.under hb1 hB)
 have HF := hide hF
 have HFU := hide hup
 have HW := hide hw
 obtain ⟨V, hV⟩ : ∃ V, rootV up ls = V := ⟨_, rfl⟩
 have HV := hide hV
 have HINT := hide (show RdE Enc.int (W1.alloc (.cells #[.int .i64 1] 3)) (Under (W1.alloc (.cells #[.int .i64 1] 3)).heap.size) (some ⟨w.heap.size + 1, 0, none⟩) 1 [1] from by rw [← hs1]; exact int_one W1)
 have q1_4 : W1.cell? ⟨w.heap.size, 4, none⟩ = some (.slice AU nU cU) := R1.out.cell 4
 unfold stkC
 clear r0 hb1 hW1 hu h hF hup hw hV
 go_enter Tryz.func25, Tryz.ntmps25
 go_wp2_with (first | (go_at_call 29; refine (Dirs_any _ (und_up (HU.out.under (below_new (below_self W1) _) (by omega)) (by simp; omega)) HINT.out (plain_many HFU.out.1 HFU.out.2).1 (by omega)).mono ?_; rintro e1 wD ⟨A4, n4, c4, rfl, hc4, h4, hbel0⟩; have hbel : Below W1.heap.size W1 wD := (below_new (below_self W1) (.cells #[.int .i64 1] 3)).trans (hbel0.mono (by simp)); rw [HW.out] at h4; replace h4 := fr_low h4 (lo' := W1.heap.size) (by simp); clear q1_4; replace HB := hide (HB.out.trans (hbel.mono HB.out.size)); replace R1 := hide (R1.out.on hbel); replace HU := hide (HU.out.under hbel (by omega)); replace HL := hide (HL.out.under hbel (by omega)); have hsz1 := hbel.size; have q1_4 : wD.cell? ⟨w.heap.size, 4, none⟩ = some (.slice AU nU cU) := R1.out.cell 4; have H4 := hide h4; clear h4 hbel hbel0))
 have hn4a : n4 ≤ 1 := by rw [← H4.out.1]; exact Nat.le_refl _
 have hn4b : 1 ≤ n4 := by rw [← H4.out.1]; exact Nat.le_refl _
 have hWD : W1.heap.size ≤ wD.heap.size := by omega
 clear hW1' q1_4
 go_loopw [5, 14] (fun v5 v14 wr => ∃ j : Nat, j ≤ 1 ∧ v14 = .int .i64 j ∧ (j = 0 → v5 = .slice none 0 0) ∧ (j = 1 → ∃ A c, v5 = .slice A 1 c) ∧ Below wD.heap.size wD wr) (fun _ v14 _ => n4 - (intOf v14).toNat)
 case atStart => exact ⟨0, by omega, rfl, fun _ => rfl, fun h => by omega, below_self _⟩
 case round =>
  obtain ⟨j, hj, rfl, h0, h1, hbr⟩ := hrel
  have hbsz := hbr.size
  replace HB := hide (HB.out.trans (hbr.mono HB.out.size))
  replace R1 := hide (R1.out.on hbr)
  replace HU := hide (HU.out.under hbr (by omega))
  replace HL := hide (HL.out.under hbr (by omega))
  replace H4 := hide (fr_on H4.out hbr)
  have hsz2 := hbr.size
  have HBR := hide hbr
  clear hbr
  by_cases hlt : j = 0
  ·subst hlt
   obtain rfl := h0 rfl
   have hj0 : (0 : Int) < (n4 : Int) := by omega
   clear h0 h1
   obtain ⟨bW, oW, rfl, hbW, hcW⟩ := way_get H4.out (j := 0) (y := y) rfl
   have HCW := hide hcW
   clear hcW
   go_wp2_with (first | (refine wpList_loadX rfl 53 (.tmp 17) rfl 3 way_agg way_size bW (oW + 0 * 3) rfl (wayC y) HCW.out rfl ?_) | (refine wpList_storeW rfl 53 (.tmp 7) (.tmp 18) rfl 3 way_size (wr.heap.size) 53 rfl [.int .i64 0, .int .i64 0, .string ⟨#[]⟩] (wayC y) rfl (RowL.new wr 53 [.int .i64 0, .int .i64 0, .string ⟨#[]⟩]) rfl rfl (wayC_one _) ?_; intro wS61 hr61 hg61 hs61; have hzb := below_stored' hg61; have HBx := hide hzb; replace HB := hide (HB.out.trans (hzb.mono HB.out.size)); replace R1 := hide (R1.out.on hzb); replace HU := hide (HU.out.under hzb (by omega)); replace HL := hide (HL.out.under hzb (by omega)); replace H4 := hide (fr_on H4.out hzb); have hsz62 := hzb.size; have RW := hide hr61; have hlt61 := hr61.lt; have q7_1 : wS61.cell? ⟨wr.heap.size, 1, none⟩ = some (.int .i64 y.up) := RW.out.cell 1; have q7_0 : wS61.cell? ⟨wr.heap.size, 0, none⟩ = some (.int .i64 y.ino) := RW.out.cell 0; have q7_2 : wS61.cell? ⟨wr.heap.size, 2, none⟩ = some (.string ⟨y.name.toArray⟩) := RW.out.cell 2; clear hzb hr61; clear hg61 hs61) | (refine wpList_loadW rfl 29 (.tmp 1) rfl 6 stk_agg stk_size (w.heap.size) 29 rfl (stkC g (.slice AU nU cU) (.slice AL nL cL)) R1.out rfl ?_) | (go_at_call 17; refine (VRoot_e HV.out wS61 HU.out HL.out (by omega) HF.out HFU.out).mono ?_; rintro e63 wR ⟨A6, c6, rfl, h6, hbel⟩; have HBX := hide (HBx.out.trans (hbel.mono HBx.out.size)); clear q7_1 q7_0 q7_2; replace HB := hide (HB.out.trans (hbel.mono HB.out.size)); replace R1 := hide (R1.out.on hbel); replace HU := hide (HU.out.under hbel (by omega)); replace HL := hide (HL.out.under hbel (by omega)); replace H4 := hide (fr_on H4.out hbel); replace RW := hide (RW.out.on hbel); have hsz64 := hbel.size; have q7_1 : wR.cell? ⟨wr.heap.size, 1, none⟩ = some (.int .i64 y.up) := RW.out.cell 1; have q7_0 : wR.cell? ⟨wr.heap.size, 0, none⟩ = some (.int .i64 y.ino) := RW.out.cell 0; have q7_2 : wR.cell? ⟨wr.heap.size, 2, none⟩ = some (.string ⟨y.name.toArray⟩) := RW.out.cell 2; have H6 := hide h6; clear h6; simp only [viwC]; have hlit : (Instr.buildSlice 48 1 #[(0, .agg #[.int .i64 V.1, .slice A6 V.2.length c6])]).run Tryz.prog wR = .ok (.slice (some ⟨wR.heap.size, 0, none⟩) 1 1) (wR.alloc (.cells #[.int .i64 V.1, .slice A6 V.2.length c6] 32)) := lit_viw V.1 A6 V.2.length c6 wR; clear hbel) | (at_builtin; refine wpList_append_OwE (E := viewEn) _ rfl (.tmp 21) (.tmp 24) 48 rfl wS61.heap.size 32 zviw 32 Tryz.underlying48 viw_info rfl (by decide) none 0 0 [] rfl (OwE.nil_ _ _ _ _) (fun b => wS61.heap.size ≤ b ∧ b < (wR.alloc (.cells (viwC V.1 (.slice A6 V.2.length c6)).toArray 32)).heap.size) (some ⟨wR.heap.size, 0, none⟩) 1 1 [V] rfl (viw_lit1 wR V H6.out (by omega)) (fun b hb => ⟨⟨hb.2, fun _ _ _ _ => rfl⟩, fun a ha => by cases ha⟩) 1 rfl (by omega) (by omega) (by simp; omega) ?_; intro A7 c7 w7 ho7 hb7; have HB7 := hide ((HBR.out.trans (HBX.out.mono (by omega))).trans ((((Below.refl wS61.heap.size wR).alloc (by omega) _).trans hb7).mono (by omega))); clear ho7 hb7))
   go_roundw
   case rel => exact ⟨1, by omega, rfl, fun h => by omega, fun _ => ⟨_, _, rfl⟩, HB7.out⟩
   case measure => simp [intOf]; omega
  ·have hj1 : j = 1 := by omega
   obtain ⟨A8, c8, rfl⟩ := h1 hj1
   have hj2 : ¬ (j : Int) < (n4 : Int) := by omega
   go_wp2_with fail
   go_ret2
   obtain rfl : n4 = 1 := by omega
   exact ⟨A4, c4, A8, c8, rfl, HB.out⟩
end Go.Proofs.YtabhgoekpbmdlaaGreat

/- The upper directories and their views: where a way's upper one stands, and the views by steps (layer 17). Nothing here speaks of a program. -/
namespace Go.Proofs.YtabhgoekpbmdlaaGreat
open Go.RowKit Plain

/-- The first way is the root's; every other one hangs on one before it. -/
def UpV (l : List WayV) : Prop := ∀ (j : Nat) (y : WayV), l[j]? = some y → (j = 0 → y.up = -1 ∧ y.ino = 1) ∧ (0 < j → ∃ p : Nat, y.up = (p : Int) ∧ p < j)
theorem UpV.snoc {l : List WayV} {p : Nat} {i : Int} {nm : List UInt8} (h : UpV l) (hp : p < l.length) : UpV (l ++ [⟨i, p, nm⟩]) := by
 intro j y hy
 by_cases hj : j < l.length
 ·rw [List.getElem?_append_left hj] at hy
  exact h j y hy
 ·have hj2 : j = l.length := by
   have := (List.getElem?_eq_some_iff.1 hy).1
   simp at this
   omega
  subst hj2
  simp at hy
  subst hy
  exact ⟨fun h0 => by omega, fun _ => ⟨p, rfl, hp⟩⟩
theorem one_upv {dir : Int} {p : Nat} {s : StW} {x : EntV × Nat} (h : UpV s.1 ∧ p < s.1.length) : UpV (oneW dir p s x).1 ∧ p < (oneW dir p s x).1.length := by
 unfold oneW
 split
 ·exact h
 ·exact ⟨h.1.snoc h.2, by simp; omega⟩
theorem visit_upv {ns : List NodV} {p : Nat} {s : StW} (h : UpV s.1) : UpV (visitW ns p s).1 := by
 unfold visitW
 cases hy : s.1[p]? with
 | none => exact h
 | some y => exact (foldl_keep (P := fun s : StW => UpV s.1 ∧ p < s.1.length) _ _ ⟨h, (List.getElem?_eq_some_iff.1 hy).1⟩ (fun _ _ _ hs => one_upv hs)).1
theorem run_upv {ns : List NodV} : ∀ (f p : Nat) (s : StW), UpV s.1 → UpV (runW ns f p s).1
 | 0, _, _, h => h
 | f + 1, p, s, h => by
  unfold runW
  split
  ·exact run_upv f (p + 1) _ (visit_upv h)
  ·exact h
theorem walk_upv (ns : List NodV) : UpV (walkW ns [1]).1 := by
 have e : walkW ns [1] = rootW ns ([], []) 1 := rfl
 rw [e]
 unfold rootW
 split
 ·refine run_upv _ _ _ ?_
  intro j y hy
  have hj : j = 0 := by
   have := (List.getElem?_eq_some_iff.1 hy).1
   simpa using this
  subst hj
  simp at hy
  subst hy
  exact ⟨fun _ => ⟨rfl, rfl⟩, fun h => by omega⟩
 ·intro j y hy
  simp at hy
/-- The views, one way more. -/
theorem tree_succ (up : List NodV) (ls : List (List NodV)) {l : List WayV} {j : Nat} {y : WayV} (h : l[j]? = some y) : treeV up ls (l.take (j + 1)) = treeV up ls (l.take j) ++ [wayView up ls (treeV up ls (l.take j)) y] := by
 unfold treeV
 rw [List.take_add_one, h, Option.toList_some, List.foldl_append]
 rfl
theorem tree_take (up : List NodV) (ls : List (List NodV)) (l : List WayV) : ∀ j, (treeV up ls (l.take j)).length = (l.take j).length
 | 0 => by simp [treeV]
 | j + 1 => by
  by_cases hj : j < l.length
  ·rw [tree_succ up ls (List.getElem?_eq_getElem hj), List.length_append, tree_take up ls l j]
   simp
   omega
  ·rw [List.take_of_length_le (by omega), ← List.take_of_length_le (l := l) (i := j) (by omega)]
   have := tree_take up ls l j
   rw [List.take_of_length_le (by omega)] at this ⊢
   exact this
theorem tree_len (up : List NodV) (ls : List (List NodV)) (l : List WayV) : (treeV up ls l).length = l.length := by
 have := tree_take up ls l l.length
 rwa [List.take_of_length_le (Nat.le_refl _)] at this
/-- A view has at most so many lower directories as there are layers. -/
theorem rootV_len (up : List NodV) (ls : List (List NodV)) : (rootV up ls).2.length ≤ ls.length := by
 unfold rootV
 dsimp only
 split
 ·simp
 ·exact rootsL_len ls 0
theorem way_few {up : List NodV} {ls : List (List NodV)} {vs : List ViewV} {x : WayV} (h : ∀ v ∈ vs, v.2.length ≤ ls.length) : (wayView up ls vs x).2.length ≤ ls.length := by
 unfold wayView
 split
 ·exact rootV_len up ls
 ·have h1 := partV_len up ls ((vs[x.up.toNat]?).getD (0, [])).2 x.ino x.name
  have h2 : ((vs[x.up.toNat]?).getD (0, [])).2.length ≤ ls.length := by
   cases hv : vs[x.up.toNat]? with
   | none => simp
   | some v => exact h v (List.mem_of_getElem? hv)
  dsimp only
  omega
theorem tree_few (up : List NodV) (ls : List (List NodV)) (l : List WayV) : ∀ v ∈ treeV up ls l, v.2.length ≤ ls.length := by
 unfold treeV
 refine foldl_keep (P := fun vs : List ViewV => ∀ v ∈ vs, v.2.length ≤ ls.length) l [] (fun _ h => by cases h) (fun vs x _ h v hv => ?_)
 rcases List.mem_append.1 hv with h1 | h1
 ·exact h v h1
 ·rw [List.mem_singleton] at h1
  rw [h1]
  exact way_few h
end Go.Proofs.YtabhgoekpbmdlaaGreat

