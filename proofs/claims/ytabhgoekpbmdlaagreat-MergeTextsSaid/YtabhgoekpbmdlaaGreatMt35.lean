import Derived.Test.YtabhgoekpbmdlaaGreatMt24
import Derived.Test.YtabhgoekpbmdlaaGreatMt25
import Derived.Test.YtabhgoekpbmdlaaGreatMt22

namespace Go.Proofs.YtabhgoekpbmdlaaGreat
open Go.RowKit Go.Shelf Plain

set_option maxHeartbeats 800000 in
theorem rhas2_b {h : Int} {r : Bool} (h0 : 0 ≤ h) (h1 : h ≤ 31) (hr : decide (h / 2 % 2 = 1) = r) (w : World) : Calls Tryz.prog 126 #[.int .i64 h, .int .i64 2] w fun e w' => e = .returned (.bool r) ∧ w = w' := by
 obtain ⟨k, hk⟩ : ∃ k, h / 2 = k := ⟨_, rfl⟩
 have hk0 : 0 ≤ k := by omega
 have hk1 : k ≤ 31 := by omega
 have ht : Int.tdiv h 2 = k := by rw [Int.tdiv_eq_ediv_of_nonneg h0, hk]
 have hw1 : IntKind.i64.wrap k = k := IntWalk.i64_in _ (by omega)
 have ht2 : Int.tmod k 2 = k % 2 := Int.tmod_eq_emod_of_nonneg hk0
 have hw2 : IntKind.i64.wrap (k % 2) = k % 2 := IntWalk.i64_in _ (by omega)
 have hv : (k % 2 == 1) = r := by
  rw [← hr, hk, Bool.eq_iff_iff]
  simp
 clear hr hk
 go_enter Tryz.func126, Tryz.ntmps126
 go_wp2
 go_ret
 exact ⟨by first | rfl | (rw [← hv]) | (simp [hv]) | (rw [← hv]; simp), rfl⟩
set_option maxRecDepth 100000 in
set_option maxHeartbeats 1600000 in
theorem RHas2_b {a : AttV} {r : Bool} (h0 : 0 ≤ a.h) (h1 : a.h ≤ 31) (hr : decide (a.h / 2 % 2 = 1) = r) (w : World) : Calls Tryz.prog 74 #[.agg (attC a).toArray, .int .i64 2] w (BoolB w r) := by
 have r0 := RowL.new w 61 (attC a)
 have hb1 := below_new (below_self w) (.cells (attC a).toArray 61)
 obtain ⟨W1, hW1⟩ : ∃ W1, w.alloc (.cells (attC a).toArray 61) = W1 := ⟨_, rfl⟩
 rw [hW1] at r0 hb1
 have hW1' : w.alloc (.cells #[.int .i64 a.h, .int .i64 a.o, .string ⟨a.r.toArray⟩, .int .i64 a.l, .int .i64 a.i, .int .i64 a.g, .int .i64 a.s] 61) = W1 := hW1
 have q0 : W1.cell? ⟨w.heap.size, 0, none⟩ = some (.int .i64 a.h) := r0.cell 0
 have HB1 := hide hb1
 have HR := hide hr
 have d0 : decide (0 ≤ a.h) = true := decide_eq_true h0
 unfold attC
 clear r0 hb1 hW1 hr
 go_enter Tryz.func74, Tryz.ntmps74
 go_wp2_with (go_at_call 126; refine (rhas2_b h0 h1 HR.out _).mono ?_; rintro e w' ⟨rfl, rfl⟩)
 go_ret
 exact BoolB.of HB1.out
set_option maxHeartbeats 800000 in
theorem rhas4_b {h : Int} {r : Bool} (h0 : 0 ≤ h) (h1 : h ≤ 31) (hr : decide (h / 4 % 2 = 1) = r) (w : World) : Calls Tryz.prog 126 #[.int .i64 h, .int .i64 4] w fun e w' => e = .returned (.bool r) ∧ w = w' := by
 obtain ⟨k, hk⟩ : ∃ k, h / 4 = k := ⟨_, rfl⟩
 have hk0 : 0 ≤ k := by omega
 have hk1 : k ≤ 31 := by omega
 have ht : Int.tdiv h 4 = k := by rw [Int.tdiv_eq_ediv_of_nonneg h0, hk]
 have hw1 : IntKind.i64.wrap k = k := IntWalk.i64_in _ (by omega)
 have ht2 : Int.tmod k 2 = k % 2 := Int.tmod_eq_emod_of_nonneg hk0
 have hw2 : IntKind.i64.wrap (k % 2) = k % 2 := IntWalk.i64_in _ (by omega)
 have hv : (k % 2 == 1) = r := by
  rw [← hr, hk, Bool.eq_iff_iff]
  simp
 clear hr hk
 go_enter Tryz.func126, Tryz.ntmps126
 go_wp2
 go_ret
 exact ⟨by first | rfl | (rw [← hv]) | (simp [hv]) | (rw [← hv]; simp), rfl⟩
set_option maxRecDepth 100000 in
set_option maxHeartbeats 1600000 in
theorem RHas4_b {a : AttV} {r : Bool} (h0 : 0 ≤ a.h) (h1 : a.h ≤ 31) (hr : decide (a.h / 4 % 2 = 1) = r) (w : World) : Calls Tryz.prog 74 #[.agg (attC a).toArray, .int .i64 4] w (BoolB w r) := by
 have r0 := RowL.new w 61 (attC a)
 have hb1 := below_new (below_self w) (.cells (attC a).toArray 61)
 obtain ⟨W1, hW1⟩ : ∃ W1, w.alloc (.cells (attC a).toArray 61) = W1 := ⟨_, rfl⟩
 rw [hW1] at r0 hb1
 have hW1' : w.alloc (.cells #[.int .i64 a.h, .int .i64 a.o, .string ⟨a.r.toArray⟩, .int .i64 a.l, .int .i64 a.i, .int .i64 a.g, .int .i64 a.s] 61) = W1 := hW1
 have q0 : W1.cell? ⟨w.heap.size, 0, none⟩ = some (.int .i64 a.h) := r0.cell 0
 have HB1 := hide hb1
 have HR := hide hr
 have d0 : decide (0 ≤ a.h) = true := decide_eq_true h0
 unfold attC
 clear r0 hb1 hW1 hr
 go_enter Tryz.func74, Tryz.ntmps74
 go_wp2_with (go_at_call 126; refine (rhas4_b h0 h1 HR.out _).mono ?_; rintro e w' ⟨rfl, rfl⟩)
 go_ret
 exact BoolB.of HB1.out
set_option maxHeartbeats 800000 in
theorem rhas16_b {h : Int} {r : Bool} (h0 : 0 ≤ h) (h1 : h ≤ 31) (hr : decide (h / 16 % 2 = 1) = r) (w : World) : Calls Tryz.prog 126 #[.int .i64 h, .int .i64 16] w fun e w' => e = .returned (.bool r) ∧ w = w' := by
 obtain ⟨k, hk⟩ : ∃ k, h / 16 = k := ⟨_, rfl⟩
 have hk0 : 0 ≤ k := by omega
 have hk1 : k ≤ 31 := by omega
 have ht : Int.tdiv h 16 = k := by rw [Int.tdiv_eq_ediv_of_nonneg h0, hk]
 have hw1 : IntKind.i64.wrap k = k := IntWalk.i64_in _ (by omega)
 have ht2 : Int.tmod k 2 = k % 2 := Int.tmod_eq_emod_of_nonneg hk0
 have hw2 : IntKind.i64.wrap (k % 2) = k % 2 := IntWalk.i64_in _ (by omega)
 have hv : (k % 2 == 1) = r := by
  rw [← hr, hk, Bool.eq_iff_iff]
  simp
 clear hr hk
 go_enter Tryz.func126, Tryz.ntmps126
 go_wp2
 go_ret
 exact ⟨by first | rfl | (rw [← hv]) | (simp [hv]) | (rw [← hv]; simp), rfl⟩
set_option maxRecDepth 100000 in
set_option maxHeartbeats 1600000 in
theorem RHas16_b {a : AttV} {r : Bool} (h0 : 0 ≤ a.h) (h1 : a.h ≤ 31) (hr : decide (a.h / 16 % 2 = 1) = r) (w : World) : Calls Tryz.prog 74 #[.agg (attC a).toArray, .int .i64 16] w (BoolB w r) := by
 have r0 := RowL.new w 61 (attC a)
 have hb1 := below_new (below_self w) (.cells (attC a).toArray 61)
 obtain ⟨W1, hW1⟩ : ∃ W1, w.alloc (.cells (attC a).toArray 61) = W1 := ⟨_, rfl⟩
 rw [hW1] at r0 hb1
 have hW1' : w.alloc (.cells #[.int .i64 a.h, .int .i64 a.o, .string ⟨a.r.toArray⟩, .int .i64 a.l, .int .i64 a.i, .int .i64 a.g, .int .i64 a.s] 61) = W1 := hW1
 have q0 : W1.cell? ⟨w.heap.size, 0, none⟩ = some (.int .i64 a.h) := r0.cell 0
 have HB1 := hide hb1
 have HR := hide hr
 have d0 : decide (0 ≤ a.h) = true := decide_eq_true h0
 unfold attC
 clear r0 hb1 hW1 hr
 go_enter Tryz.func74, Tryz.ntmps74
 go_wp2_with (go_at_call 126; refine (rhas16_b h0 h1 HR.out _).mono ?_; rintro e w' ⟨rfl, rfl⟩)
 go_ret
 exact BoolB.of HB1.out
theorem RRed_e {s : List UInt8} {l : List (List UInt8)} {a b : Bool} (hl : redL s = l) (ha : redA s = a) (hb : redB s = b) (w : World) : Calls Tryz.prog 75 #[.string ⟨s.toArray⟩] w (LRet2 w 9 l a b) := by
 subst hl ha hb
 exact RRed_any w
theorem RFind_ev {g : GeoQ} {AU AL AP : Option Addr} {nU cU nL cL n cP : Nat} {ls : List (List NodV)} {l : List (Int × Int)} {nm : List UInt8} {B : Nat} {K : Int} {L : List (Int × Int)} (hR : findL ls nm l [] = (K, L)) (w : World) (h : RdE layEn w (Under B) AL nL ls) (hp : RdE prEn w (Under w.heap.size) AP n l) (hB : B ≤ w.heap.size) (hF : FewL ls) (hn : n ≤ 1000) :
  Calls Tryz.prog 68 #[.agg (stkC g (.slice AU nU cU) (.slice AL nL cL)).toArray, .slice AP n cP, .string ⟨nm.toArray⟩] w (FindRet w (K, L)) := RFind_e hR w h hp hB hF hn
set_option maxRecDepth 100000 in
set_option maxHeartbeats 16000000 in
theorem REnt17_any {g : GeoQ} {AU AL : Option Addr} {nU cU nL cL B : Nat} {up : List NodV} {u : Int} {AV : Option Addr} {nV cV : Nat} {nm : List UInt8} (w : World) (hu : RdE nodEn w (Under B) AU nU up) (hB : B ≤ w.heap.size) (hup : FewU up) : Calls Tryz.prog 66 #[.agg (stkC g (.slice AU nU cU) (.slice AL nL cL)).toArray, .agg (viwC u (.slice AV nV cV)).toArray, .string ⟨nm.toArray⟩] w (fun e w' => e = .returned (.tuple #[.agg (cellsE (entO (firstB up u nm))).toArray, .bool (firstB up u nm).isSome]) ∧ Below w.heap.size w w') := by
 obtain ⟨W1, hW1⟩ : ∃ W1, (((w.alloc (.cells (stkC g (.slice AU nU cU) (.slice AL nL cL)).toArray 29)).alloc (.cells (viwC u (.slice AV nV cV)).toArray 32)).alloc (.cells ([.int .i64 0, .int .i64 0, .string ⟨#[]⟩] : List Value).toArray 68)) = W1 := ⟨_, rfl⟩
 obtain ⟨r0, r1, r2, hb1, hs1⟩ := rowA3 w _ _ _ _ _ _ hW1
 have hW1' : (((w.alloc (.cells #[.int .i64 g.a, .int .i64 g.b, .int .i64 g.c, .int .i64 g.d, .slice AU nU cU, .slice AL nL cL] 29)).alloc (.cells #[.int .i64 u, .slice AV nV cV] 32)).alloc (.cells #[.int .i64 0, .int .i64 0, .string ⟨#[]⟩] 68)) = W1 := hW1
 have R3 := hide r0
 have R4 := hide r1
 have R6 := hide r2
 have HB := hide hb1
 have hsz0 := hb1.size
 have HU := hide (hu.under hb1 hB)
 have HFU := hide hup
 obtain ⟨x, hx⟩ : ∃ x, nodAt up u = x := ⟨_, rfl⟩
 have HX := hide hx
 obtain ⟨FO, hFO⟩ : ∃ FO, firstB up u nm = FO := ⟨_, rfl⟩
 have hpx : PlainN x := by rw [← hx]; exact nodAt_plain hup.2 u
 have hx16 := hpx.2.2.2.2.1
 have HEL := hide (show x.k = 1 → entB up u = x.ents from fun hk => by unfold entB; rw [hx, if_pos hk])
 have HNL := hide (show x.k ≠ 1 → FO = none from fun hk => by rw [← hFO]; unfold firstB entB; rw [hx, if_neg hk]; rfl)
 rw [hFO]
 have HFO := hide hFO
 have q3_4 : W1.cell? ⟨w.heap.size, 4, none⟩ = some (.slice AU nU cU) := R3.out.cell 4
 have q4_0 : W1.cell? ⟨w.heap.size + 1, 0, none⟩ = some (.int .i64 u) := R4.out.cell 0
 unfold stkC viwC
 clear r0 r1 r2 hb1 hW1 hu hup hx hpx hFO
 go_enter Tryz.func66, Tryz.ntmps66
 go_wp2_with (first | (go_at_call 67; refine (At_e HX.out W1 HU.out (by omega) (by have := HFU.out.1; omega)).mono ?_; rintro e1 wN ⟨A1, n1, c1, C1, m1, d1, rfl, -, -, -, e5, hbel⟩; clear q3_4 q4_0; replace HB := hide (HB.out.trans (hbel.mono HB.out.size)); replace R3 := hide (R3.out.on hbel); replace R4 := hide (R4.out.on hbel); replace R6 := hide (R6.out.on hbel); replace HU := hide (HU.out.under hbel (by omega)); have hsz2 := hbel.size; have q3_4 : wN.cell? ⟨w.heap.size, 4, none⟩ = some (.slice AU nU cU) := R3.out.cell 4; have q4_0 : wN.cell? ⟨w.heap.size + 1, 0, none⟩ = some (.int .i64 u) := R4.out.cell 0; have HE := hide e5; clear e5; clear hbel) | (refine wpList_storeW rfl 63 (.tmp 8) (.tmp 14) rfl 13 nod_size (wN.heap.size) 63 rfl (nodC nod0 (.slice none 0 0) (.slice none 0 0)) (nodC x (.slice A1 n1 c1) (.slice C1 m1 d1)) rfl (RowL.new wN 63 (nodC nod0 (.slice none 0 0) (.slice none 0 0))) rfl rfl (nodC_one _ _ _ _ _ _ _) ?_; intro wS3 hr3 hg3 hs3; have hzb := below_stored' hg3; clear q3_4 q4_0; replace HB := hide (HB.out.trans (hzb.mono HB.out.size)); replace R3 := hide (R3.out.on hzb); replace R4 := hide (R4.out.on hzb); replace R6 := hide (R6.out.on hzb); replace HU := hide (HU.out.under hzb (by omega)); replace HE := hide (HE.out.under hzb (by omega)); have hsz4 := hzb.size; have q3_4 : wS3.cell? ⟨w.heap.size, 4, none⟩ = some (.slice AU nU cU) := R3.out.cell 4; have q4_0 : wS3.cell? ⟨w.heap.size + 1, 0, none⟩ = some (.int .i64 u) := R4.out.cell 0; have RN := hide hr3; have hlt3 := hr3.lt; have q8_5 : wS3.cell? ⟨wN.heap.size, 5, none⟩ = some (.slice C1 m1 d1) := RN.out.cell 5; have q8_0 : wS3.cell? ⟨wN.heap.size, 0, none⟩ = some (.int .i64 x.k) := RN.out.cell 0; clear hzb hr3; clear hg3 hs3))
 have HEM := hide HE.out.1
 have hm16 : m1 ≤ 16 := by have := HEM.out; omega
 clear hW1' q3_4 q4_0 q8_5 q8_0
 go_loopw [9] (fun v9 wr => ∃ j : Nat, j ≤ m1 ∧ v9 = .int .i64 j ∧ Below wS3.heap.size wS3 wr ∧ (x.ents.take j).find? (useB up nm) = none) (fun v9 _ => m1 - (intOf v9).toNat)
 case atStart => exact ⟨0, by omega, rfl, below_self _, by simp⟩
 case round =>
  obtain ⟨j, hj, rfl, hbr, hnone⟩ := hrel
  have HN := hide hnone
  replace HB := hide (HB.out.trans (hbr.mono HB.out.size))
  replace R3 := hide (R3.out.on hbr)
  replace R4 := hide (R4.out.on hbr)
  replace R6 := hide (R6.out.on hbr)
  replace HU := hide (HU.out.under hbr (by omega))
  replace HE := hide (HE.out.under hbr (by omega))
  replace RN := hide (RN.out.on hbr)
  have hsz5 := hbr.size
  have q3_4 : wr.cell? ⟨w.heap.size, 4, none⟩ = some (.slice AU nU cU) := R3.out.cell 4
  have q4_0 : wr.cell? ⟨w.heap.size + 1, 0, none⟩ = some (.int .i64 u) := R4.out.cell 0
  have q8_5 : wr.cell? ⟨wN.heap.size, 5, none⟩ = some (.slice C1 m1 d1) := RN.out.cell 5
  have q8_0 : wr.cell? ⟨wN.heap.size, 0, none⟩ = some (.int .i64 x.k) := RN.out.cell 0
  have HBR := hide hbr
  clear hbr hnone
  by_cases hlt : j < m1
  ·have hjm : (j : Int) < (m1 : Int) := by omega
   by_cases hk : x.k = 1
   rotate_left
   ·have hk1 : (x.k == 1) = false := by simpa using hk
    have eFO := HNL.out hk
    subst eFO
    go_wp2_with (first | (refine wpList_storeW rfl 68 (.tmp 6) (.tmp 53) rfl 3 entw_size (w.heap.size + 1 + 1) 68 rfl [.int .i64 0, .int .i64 0, .string ⟨#[]⟩] (cellsE ent0) rfl R6.out rfl rfl (cellsE_one _) ?_; intro wS6 hr6 hg6 hs6; clear q3_4 q4_0 q8_5 q8_0; replace HB := hide (HB.out.grown hg6 (by omega) (pu4 (by omega))); replace R3 := hide (R3.out.grown hg6 (pu5 (by omega))); replace R4 := hide (R4.out.grown hg6 (pu5 (by omega))); replace HU := hide (und_grown HU.out hg6 (by omega) (by omega)); replace HE := hide (und_grown HE.out hg6 (by omega) (by omega)); replace RN := hide (RN.out.grown hg6 (pu5 (by omega))); have hsz7 := hg6.size; replace R6 := hide hr6; have q3_4 : wS6.cell? ⟨w.heap.size, 4, none⟩ = some (.slice AU nU cU) := R3.out.cell 4; have q4_0 : wS6.cell? ⟨w.heap.size + 1, 0, none⟩ = some (.int .i64 u) := R4.out.cell 0; have q8_5 : wS6.cell? ⟨wN.heap.size, 5, none⟩ = some (.slice C1 m1 d1) := RN.out.cell 5; have q8_0 : wS6.cell? ⟨wN.heap.size, 0, none⟩ = some (.int .i64 x.k) := RN.out.cell 0; clear hr6 hg6 hs6))
    exact bodyPost_ret (res_cell2 Tryz.results66 rfl rfl entw_agg entw_size R6.out rfl) rfl ⟨rfl, HB.out⟩
   have hk1 : (x.k == 1) = true := by simpa using hk
   obtain ⟨e, he⟩ : ∃ e, x.ents[j]? = some e := ⟨_, List.getElem?_eq_getElem (by have := HEM.out; omega)⟩
   obtain ⟨bE, oE, rfl, hbE, hcE⟩ := ent_get HE.out he
   have hbE' : bE < wr.heap.size := by have : bE < B := hbE; omega
   have HCE := hide hcE
   have HEJ := hide he
   obtain ⟨y, hy⟩ : ∃ y, nodAt up e.ino = y := ⟨_, rfl⟩
   have HY := hide hy
   obtain ⟨b2, hb2⟩ : ∃ b2, (y.k != 0) = b2 := ⟨_, rfl⟩
   clear hcE he
   go_wp2_with fail
   clear q3_4 q4_0 q8_5 q8_0
   by_cases hnm : e.name = nm
   rotate_left
   ·have HU2 := hide (show useB up nm e = false from by unfold useB; simp [hnm])
    have hnb1 : (e.name == nm) = false := by simpa using hnm
    have hnb3 : ¬ ({ data := e.name.toArray } : ByteArray) = { data := nm.toArray } := by simpa using hnm
    clear hy hb2
    refine wp_region_planN (fun w' => Below wr.heap.size wr w') [(0, true), (1, true), (2, true), (3, true), (4, true), (5, true), (6, true), (7, true), (8, true), (9, true), (10, true), (11, true), (12, true), (13, true), (14, true), (15, true), (16, true), (17, false), (18, true), (19, true), (20, true)] (by kernel_rfl) (by kernel_rfl) (by kernel_rfl) (by kernel_rfl) rfl (fun _ _ _ _ _ h => h) (below_drew (below_self wr)) (fun hHeld => ?_)
    simp only [planOps, List.filterMap_cons, List.filterMap_nil, List.getElem?_toArray, List.getElem?_cons_succ, List.getElem?_cons_zero, Option.map_some]
    refine wpPlan_take (v := ?_) (by kernel_rfl) (fun wS hSw => ?_) ?_
    rotate_left
    ·(try dsimp only at hSw); go_simp; (try with_reducible rfl)
    (try simp only [Act.put, pu1, pu2, pu3])
    refine wpPlan_take (v := ?_) (by kernel_rfl) (fun wS hSw => ?_) ?_
    rotate_left
    ·have qx := ((RN.out.on hSw).cell 5).trans (show (nodC x (.slice A1 n1 c1) (.slice (some ⟨bE, oE, none⟩) m1 d1))[5]? = some (.slice (some ⟨bE, oE, none⟩) m1 d1) from rfl); go_simp; (try with_reducible rfl)
    (try simp only [Act.put, pu1, pu2, pu3])
    iterate 3
     refine wpPlan_take (v := ?_) (by kernel_rfl) (fun wS hSw => ?_) ?_
     rotate_left
     ·(try dsimp only at hSw); go_simp; (try with_reducible rfl)
     (try simp only [Act.put, pu1, pu2, pu3])
    refine wpPlan_take (v := ?_) (by kernel_rfl) (fun wS hSw => ?_) ?_
    rotate_left
    ·have qx := (hSw.cell (p := ⟨bE, oE + j * 3 + 2, none⟩) hbE').trans (HCE.out 2 _ rfl); go_simp; (try with_reducible rfl)
    (try simp only [Act.put, pu1, pu2, pu3])
    iterate 3
     refine wpPlan_take (v := ?_) (by kernel_rfl) (fun wS hSw => ?_) ?_
     rotate_left
     ·(try dsimp only at hSw); go_simp; (try with_reducible rfl)
     (try simp only [Act.put, pu1, pu2, pu3])
    refine wpPlan_skip (by kernel_rfl) ?_
    (try simp only [Act.put, pu1, pu2, pu3])
    refine wpPlan_skip (by kernel_rfl) ?_
    (try simp only [Act.put, pu1, pu2, pu3])
    refine wpPlan_skip (by kernel_rfl) ?_
    (try simp only [Act.put, pu1, pu2, pu3])
    refine wpPlan_skip (by kernel_rfl) ?_
    (try simp only [Act.put, pu1, pu2, pu3])
    refine wpPlan_skip (by kernel_rfl) ?_
    (try simp only [Act.put, pu1, pu2, pu3])
    refine wpPlan_skip (by kernel_rfl) ?_
    (try simp only [Act.put, pu1, pu2, pu3])
    refine wpPlan_skip (by kernel_rfl) ?_
    (try simp only [Act.put, pu1, pu2, pu3])
    refine wpPlan_skip (by kernel_rfl) ?_
    (try simp only [Act.put, pu1, pu2, pu3])
    refine wpPlan_skip (by kernel_rfl) ?_
    (try simp only [Act.put, pu1, pu2, pu3])
    refine wpPlan_skip (by kernel_rfl) ?_
    (try simp only [Act.put, pu1, pu2, pu3])
    refine wpPlan_skip (by kernel_rfl) ?_
    (try simp only [Act.put, pu1, pu2, pu3])
    refine wpPlan_take (v := ?_) (by kernel_rfl) (fun wS hSw => ?_) ?_
    rotate_left
    ·(try dsimp only at hSw); go_simp; (try with_reducible rfl)
    (try simp only [Act.put, pu1, pu2, pu3])
    refine wpPlan_end ?_
    have HBX := hide (HBR.out.trans (hHeld.mono HBR.out.size))
    clear hHeld
    go_wp2_with fail
    go_roundw
    case rel => exact ⟨j + 1, by omega, by go_num, HBX.out, find_take_none HN.out HEJ.out HU2.out⟩
    case measure => simp [intOf]; omega
   have HU2 := hide (show useB up nm e = b2 from by
    rw [← hb2, ← hy]
    unfold useB
    by_cases hk0 : (nodAt up e.ino).k = 0 <;> simp [hk0, hnm])
   subst hnm
   have hee : (e.name == e.name) = true := by simp
   clear hy
   cases b2
   ·skip
    refine wp_region_planN (fun w' => Below wr.heap.size wr w') [(0, true), (1, true), (2, true), (3, true), (4, true), (5, true), (6, true), (7, true), (8, true), (9, true), (10, true), (11, true), (12, true), (13, true), (14, true), (15, true), (16, true), (17, false), (18, true), (19, true), (20, true)] (by kernel_rfl) (by kernel_rfl) (by kernel_rfl) (by kernel_rfl) rfl (fun _ _ _ _ _ h => h) (below_drew (below_self wr)) (fun hHeld => ?_)
    simp only [planOps, List.filterMap_cons, List.filterMap_nil, List.getElem?_toArray, List.getElem?_cons_succ, List.getElem?_cons_zero, Option.map_some]
    refine wpPlan_take (v := ?_) (by kernel_rfl) (fun wS hSw => ?_) ?_
    rotate_left
    ·(try dsimp only at hSw); go_simp; (try with_reducible rfl)
    (try simp only [Act.put, pu1, pu2, pu3])
    refine wpPlan_take (v := ?_) (by kernel_rfl) (fun wS hSw => ?_) ?_
    rotate_left
    ·have qx := ((RN.out.on hSw).cell 5).trans (show (nodC x (.slice A1 n1 c1) (.slice (some ⟨bE, oE, none⟩) m1 d1))[5]? = some (.slice (some ⟨bE, oE, none⟩) m1 d1) from rfl); go_simp; (try with_reducible rfl)
    (try simp only [Act.put, pu1, pu2, pu3])
    iterate 3
     refine wpPlan_take (v := ?_) (by kernel_rfl) (fun wS hSw => ?_) ?_
     rotate_left
     ·(try dsimp only at hSw); go_simp; (try with_reducible rfl)
     (try simp only [Act.put, pu1, pu2, pu3])
    refine wpPlan_take (v := ?_) (by kernel_rfl) (fun wS hSw => ?_) ?_
    rotate_left
    ·have qx := (hSw.cell (p := ⟨bE, oE + j * 3 + 2, none⟩) hbE').trans (HCE.out 2 _ rfl); go_simp; (try with_reducible rfl)
    (try simp only [Act.put, pu1, pu2, pu3])
    iterate 4
     refine wpPlan_take (v := ?_) (by kernel_rfl) (fun wS hSw => ?_) ?_
     rotate_left
     ·(try dsimp only at hSw); go_simp; (try with_reducible rfl)
     (try simp only [Act.put, pu1, pu2, pu3])
    refine wpPlan_take (v := ?_) (by kernel_rfl) (fun wS hSw => ?_) ?_
    rotate_left
    ·have qx := ((R3.out.on hSw).cell 4).trans (show (stkC g (.slice AU nU cU) (.slice AL nL cL))[4]? = some (.slice AU nU cU) from rfl); go_simp; (try with_reducible rfl)
    (try simp only [Act.put, pu1, pu2, pu3])
    refine wpPlan_take (v := ?_) (by kernel_rfl) (fun wS hSw => ?_) ?_
    rotate_left
    ·(try dsimp only at hSw); go_simp; (try with_reducible rfl)
    (try simp only [Act.put, pu1, pu2, pu3])
    refine wpPlan_take (v := ?_) (by kernel_rfl) (fun wS hSw => ?_) ?_
    rotate_left
    ·have qx := ((RN.out.on hSw).cell 5).trans (show (nodC x (.slice A1 n1 c1) (.slice (some ⟨bE, oE, none⟩) m1 d1))[5]? = some (.slice (some ⟨bE, oE, none⟩) m1 d1) from rfl); go_simp; (try with_reducible rfl)
    (try simp only [Act.put, pu1, pu2, pu3])
    iterate 3
     refine wpPlan_take (v := ?_) (by kernel_rfl) (fun wS hSw => ?_) ?_
     rotate_left
     ·(try dsimp only at hSw); go_simp; (try with_reducible rfl)
     (try simp only [Act.put, pu1, pu2, pu3])
    refine wpPlan_take (v := ?_) (by kernel_rfl) (fun wS hSw => ?_) ?_
    rotate_left
    ·have qx := (hSw.cell (p := ⟨bE, oE + j * 3 + 1, none⟩) hbE').trans (HCE.out 1 _ rfl); go_simp; (try with_reducible rfl)
    (try simp only [Act.put, pu1, pu2, pu3])
    refine wpPlan_call (by kernel_rfl) (fun K hK => ?_)
    have hOld := hide hHeld
    clear hHeld
    go_simp
    go_at_call 67
    refine (At_e HY.out (B := B) _ (HU.out.under hOld.out (by omega)) (by have := hOld.out.size; omega) (by have := HFU.out.1; omega)).mono ?_
    rintro e w' ⟨A9, n9, c9, C9, m9, d9, rfl, -, -, -, -, hbel⟩
    have hf0 := nod_f0 y (.slice A9 n9 c9) (.slice C9 m9 d9)
    refine hK.out _ _ (hOld.out.trans (hbel.mono hOld.out.size)) (fun hHeld => ?_)
    clear hK K
    (try simp only [Act.put, pu1, pu2, pu3])
    iterate 3
     refine wpPlan_take (v := ?_) (by kernel_rfl) (fun wS hSw => ?_) ?_
     rotate_left
     ·(try dsimp only at hSw); go_simp; (try with_reducible rfl)
     (try simp only [Act.put, pu1, pu2, pu3])
    refine wpPlan_end ?_
    have HBX := hide (HBR.out.trans (hHeld.mono HBR.out.size))
    clear hHeld
    go_wp2_with fail
    go_roundw
    case rel => exact ⟨j + 1, by omega, by go_num, HBX.out, find_take_none HN.out HEJ.out HU2.out⟩
    case measure => simp [intOf]; omega
   ·skip
    refine wp_region_planN (fun w' => Below wr.heap.size wr w') [(0, true), (1, true), (2, true), (3, true), (4, true), (5, true), (6, true), (7, true), (8, true), (9, true), (10, true), (11, true), (12, true), (13, true), (14, true), (15, true), (16, true), (17, false), (18, true), (19, true), (20, true)] (by kernel_rfl) (by kernel_rfl) (by kernel_rfl) (by kernel_rfl) rfl (fun _ _ _ _ _ h => h) (below_drew (below_self wr)) (fun hHeld => ?_)
    simp only [planOps, List.filterMap_cons, List.filterMap_nil, List.getElem?_toArray, List.getElem?_cons_succ, List.getElem?_cons_zero, Option.map_some]
    refine wpPlan_take (v := ?_) (by kernel_rfl) (fun wS hSw => ?_) ?_
    rotate_left
    ·(try dsimp only at hSw); go_simp; (try with_reducible rfl)
    (try simp only [Act.put, pu1, pu2, pu3])
    refine wpPlan_take (v := ?_) (by kernel_rfl) (fun wS hSw => ?_) ?_
    rotate_left
    ·have qx := ((RN.out.on hSw).cell 5).trans (show (nodC x (.slice A1 n1 c1) (.slice (some ⟨bE, oE, none⟩) m1 d1))[5]? = some (.slice (some ⟨bE, oE, none⟩) m1 d1) from rfl); go_simp; (try with_reducible rfl)
    (try simp only [Act.put, pu1, pu2, pu3])
    iterate 3
     refine wpPlan_take (v := ?_) (by kernel_rfl) (fun wS hSw => ?_) ?_
     rotate_left
     ·(try dsimp only at hSw); go_simp; (try with_reducible rfl)
     (try simp only [Act.put, pu1, pu2, pu3])
    refine wpPlan_take (v := ?_) (by kernel_rfl) (fun wS hSw => ?_) ?_
    rotate_left
    ·have qx := (hSw.cell (p := ⟨bE, oE + j * 3 + 2, none⟩) hbE').trans (HCE.out 2 _ rfl); go_simp; (try with_reducible rfl)
    (try simp only [Act.put, pu1, pu2, pu3])
    iterate 4
     refine wpPlan_take (v := ?_) (by kernel_rfl) (fun wS hSw => ?_) ?_
     rotate_left
     ·(try dsimp only at hSw); go_simp; (try with_reducible rfl)
     (try simp only [Act.put, pu1, pu2, pu3])
    refine wpPlan_take (v := ?_) (by kernel_rfl) (fun wS hSw => ?_) ?_
    rotate_left
    ·have qx := ((R3.out.on hSw).cell 4).trans (show (stkC g (.slice AU nU cU) (.slice AL nL cL))[4]? = some (.slice AU nU cU) from rfl); go_simp; (try with_reducible rfl)
    (try simp only [Act.put, pu1, pu2, pu3])
    refine wpPlan_take (v := ?_) (by kernel_rfl) (fun wS hSw => ?_) ?_
    rotate_left
    ·(try dsimp only at hSw); go_simp; (try with_reducible rfl)
    (try simp only [Act.put, pu1, pu2, pu3])
    refine wpPlan_take (v := ?_) (by kernel_rfl) (fun wS hSw => ?_) ?_
    rotate_left
    ·have qx := ((RN.out.on hSw).cell 5).trans (show (nodC x (.slice A1 n1 c1) (.slice (some ⟨bE, oE, none⟩) m1 d1))[5]? = some (.slice (some ⟨bE, oE, none⟩) m1 d1) from rfl); go_simp; (try with_reducible rfl)
    (try simp only [Act.put, pu1, pu2, pu3])
    iterate 3
     refine wpPlan_take (v := ?_) (by kernel_rfl) (fun wS hSw => ?_) ?_
     rotate_left
     ·(try dsimp only at hSw); go_simp; (try with_reducible rfl)
     (try simp only [Act.put, pu1, pu2, pu3])
    refine wpPlan_take (v := ?_) (by kernel_rfl) (fun wS hSw => ?_) ?_
    rotate_left
    ·have qx := (hSw.cell (p := ⟨bE, oE + j * 3 + 1, none⟩) hbE').trans (HCE.out 1 _ rfl); go_simp; (try with_reducible rfl)
    (try simp only [Act.put, pu1, pu2, pu3])
    refine wpPlan_call (by kernel_rfl) (fun K hK => ?_)
    have hOld := hide hHeld
    clear hHeld
    go_simp
    go_at_call 67
    refine (At_e HY.out (B := B) _ (HU.out.under hOld.out (by omega)) (by have := hOld.out.size; omega) (by have := HFU.out.1; omega)).mono ?_
    rintro e w' ⟨A9, n9, c9, C9, m9, d9, rfl, -, -, -, -, hbel⟩
    have hf0 := nod_f0 y (.slice A9 n9 c9) (.slice C9 m9 d9)
    refine hK.out _ _ (hOld.out.trans (hbel.mono hOld.out.size)) (fun hHeld => ?_)
    clear hK K
    (try simp only [Act.put, pu1, pu2, pu3])
    iterate 3
     refine wpPlan_take (v := ?_) (by kernel_rfl) (fun wS hSw => ?_) ?_
     rotate_left
     ·(try dsimp only at hSw); go_simp; (try with_reducible rfl)
     (try simp only [Act.put, pu1, pu2, pu3])
    refine wpPlan_end ?_
    have eFO : FO = some e := by
     rw [← HFO.out]
     unfold firstB
     rw [HEL.out hk, find_take_some HN.out HEJ.out HU2.out]
    subst eFO
    replace HCE := hide (fun (j' : Nat) (v : Value) (hv : (cellsE e)[j']? = some v) => (hHeld.cell (p := ⟨bE, oE + j * 3 + j', none⟩) hbE').trans (HCE.out j' v hv))
    replace HB := hide (HB.out.trans (hHeld.mono HB.out.size))
    replace R3 := hide (R3.out.on hHeld)
    replace R4 := hide (R4.out.on hHeld)
    replace R6 := hide (R6.out.on hHeld)
    replace HU := hide (HU.out.under hHeld (by omega))
    replace HE := hide (HE.out.under hHeld (by omega))
    replace RN := hide (RN.out.on hHeld)
    have hsz6 := hHeld.size
    have q3_4 : w'.cell? ⟨w.heap.size, 4, none⟩ = some (.slice AU nU cU) := R3.out.cell 4
    have q4_0 : w'.cell? ⟨w.heap.size + 1, 0, none⟩ = some (.int .i64 u) := R4.out.cell 0
    have q8_5 : w'.cell? ⟨wN.heap.size, 5, none⟩ = some (.slice (some ⟨bE, oE, none⟩) m1 d1) := RN.out.cell 5
    have q8_0 : w'.cell? ⟨wN.heap.size, 0, none⟩ = some (.int .i64 x.k) := RN.out.cell 0
    clear hHeld
    go_wp2_with (first | (refine wpList_loadX rfl 68 (.tmp 51) rfl 3 entw_agg entw_size bE (oE + j * 3) rfl (cellsE e) HCE.out rfl ?_) | (refine wpList_storeW rfl 68 (.tmp 6) (.tmp 52) rfl 3 entw_size (w.heap.size + 1 + 1) 68 rfl [.int .i64 0, .int .i64 0, .string ⟨#[]⟩] (cellsE e) rfl R6.out rfl rfl (cellsE_one _) ?_; intro wS7 hr7 hg7 hs7; clear q3_4 q4_0 q8_5 q8_0; replace HB := hide (HB.out.grown hg7 (by omega) (pu4 (by omega))); replace R3 := hide (R3.out.grown hg7 (pu5 (by omega))); replace R4 := hide (R4.out.grown hg7 (pu5 (by omega))); replace HU := hide (und_grown HU.out hg7 (by omega) (by omega)); replace HE := hide (und_grown HE.out hg7 (by omega) (by omega)); replace RN := hide (RN.out.grown hg7 (pu5 (by omega))); have hsz8 := hg7.size; replace R6 := hide hr7; have q3_4 : wS7.cell? ⟨w.heap.size, 4, none⟩ = some (.slice AU nU cU) := R3.out.cell 4; have q4_0 : wS7.cell? ⟨w.heap.size + 1, 0, none⟩ = some (.int .i64 u) := R4.out.cell 0; have q8_5 : wS7.cell? ⟨wN.heap.size, 5, none⟩ = some (.slice (some ⟨bE, oE, none⟩) m1 d1) := RN.out.cell 5; have q8_0 : wS7.cell? ⟨wN.heap.size, 0, none⟩ = some (.int .i64 x.k) := RN.out.cell 0; clear hr7 hg7 hs7))
    exact bodyPost_ret (res_cell2 Tryz.results66 rfl rfl entw_agg entw_size R6.out rfl) rfl ⟨rfl, HB.out⟩
  ·obtain rfl : m1 = j := by omega
   have hjj : ¬ (m1 : Int) < (m1 : Int) := by omega
   have eFO : FO = none := by
    by_cases hk : x.k = 1
    ·rw [← HFO.out]
     unfold firstB
     have h1 := HN.out
     rw [List.take_of_length_le (by have := HEM.out; omega)] at h1
     rw [HEL.out hk, h1]
    ·exact HNL.out hk
   subst eFO
   go_wp2_with (first | (refine wpList_storeW rfl 68 (.tmp 6) (.tmp 53) rfl 3 entw_size (w.heap.size + 1 + 1) 68 rfl [.int .i64 0, .int .i64 0, .string ⟨#[]⟩] (cellsE ent0) rfl R6.out rfl rfl (cellsE_one _) ?_; intro wS6 hr6 hg6 hs6; clear q3_4 q4_0 q8_5 q8_0; replace HB := hide (HB.out.grown hg6 (by omega) (pu4 (by omega))); replace R3 := hide (R3.out.grown hg6 (pu5 (by omega))); replace R4 := hide (R4.out.grown hg6 (pu5 (by omega))); replace HU := hide (und_grown HU.out hg6 (by omega) (by omega)); replace HE := hide (und_grown HE.out hg6 (by omega) (by omega)); replace RN := hide (RN.out.grown hg6 (pu5 (by omega))); have hsz7 := hg6.size; replace R6 := hide hr6; have q3_4 : wS6.cell? ⟨w.heap.size, 4, none⟩ = some (.slice AU nU cU) := R3.out.cell 4; have q4_0 : wS6.cell? ⟨w.heap.size + 1, 0, none⟩ = some (.int .i64 u) := R4.out.cell 0; have q8_5 : wS6.cell? ⟨wN.heap.size, 5, none⟩ = some (.slice C1 m1 d1) := RN.out.cell 5; have q8_0 : wS6.cell? ⟨wN.heap.size, 0, none⟩ = some (.int .i64 x.k) := RN.out.cell 0; clear hr6 hg6 hs6))
   exact bodyPost_ret (res_cell2 Tryz.results66 rfl rfl entw_agg entw_size R6.out rfl) rfl ⟨rfl, HB.out⟩
set_option maxRecDepth 100000 in
set_option maxHeartbeats 16000000 in
theorem RVPart_any {g : GeoQ} {AU AL : Option Addr} {nU cU nL cL B : Nat} {up : List NodV} {ls : List (List NodV)} {u : Int} {AV : Option Addr} {nV cV BV : Nat} {vl : List (Int × Int)} {i : Int} {nm : List UInt8} (w : World) (hu : RdE nodEn w (Under B) AU nU up) (h : RdE layEn w (Under B) AL nL ls) (hB : B ≤ w.heap.size) (hF : FewL ls) (hup : FewU up) (hv : RdE prEn w (Under BV) AV nV vl) (hBV : BV ≤ w.heap.size) (hnV : nV ≤ 1000) : Calls Tryz.prog 21 #[.agg (stkC g (.slice AU nU cU) (.slice AL nL cL)).toArray, .agg (viwC u (.slice AV nV cV)).toArray, .int .i64 i, .string ⟨nm.toArray⟩] w (PlcsF w (partV up ls vl i nm)) := by
 obtain ⟨W1, hW1⟩ : ∃ W1, ((w.alloc (.cells (stkC g (.slice AU nU cU) (.slice AL nL cL)).toArray 29)).alloc (.cells (viwC u (.slice AV nV cV)).toArray 32)) = W1 := ⟨_, rfl⟩
 obtain ⟨r0, r1, hb1, hs1⟩ := rowA2 w _ _ _ _ hW1
 have hW1' : ((w.alloc (.cells #[.int .i64 g.a, .int .i64 g.b, .int .i64 g.c, .int .i64 g.d, .slice AU nU cU, .slice AL nL cL] 29)).alloc (.cells #[.int .i64 u, .slice AV nV cV] 32)) = W1 := hW1
 have R4 := hide r0
 have R5 := hide r1
 have HB := hide hb1
 have hsz0 := hb1.size
 have HU := hide (hu.under hb1 hB)
 have HL := hide (h.under hb1 hB)
 have HF := hide hF
 have HFU := hide hup
 have HV := hide (hv.under hb1 hBV)
 obtain ⟨x, hx⟩ : ∃ x, nodAt up i = x := ⟨_, rfl⟩
 have HX := hide hx
 have hpx : PlainN x := by rw [← hx]; exact nodAt_plain hup.2 i
 have hatt := hpx.2.2.1
 have q4_4 : W1.cell? ⟨w.heap.size, 4, none⟩ = some (.slice AU nU cU) := R4.out.cell 4
 have q5_1 : W1.cell? ⟨w.heap.size + 1, 1, none⟩ = some (.slice AV nV cV) := R5.out.cell 1
 unfold partV
 rw [hx]
 unfold stkC viwC
 clear r0 r1 hb1 hW1 hu h hF hup hv hx hpx
 by_cases hk : x.k = 1
 rotate_left
 ·have hk1 : (x.k != 1) = true := by simpa using hk
  have HOP := hide (show opqD x = false from by unfold opqD; simp [hk])
  rw [if_neg hk]
  clear hk
  go_enter Tryz.func21, Tryz.ntmps21
  go_wp2_with (first | (go_at_call 67; refine (At_e HX.out W1 HU.out (by omega) (by have := HFU.out.1; omega)).mono ?_; rintro e1 wN ⟨A1, n1, c1, C1, m1, d1, rfl, -, -, -, -, hbel⟩; clear q4_4 q5_1; replace HB := hide (HB.out.trans (hbel.mono HB.out.size)); replace R4 := hide (R4.out.on hbel); replace R5 := hide (R5.out.on hbel); replace HU := hide (HU.out.under hbel (by omega)); replace HL := hide (HL.out.under hbel (by omega)); replace HV := hide (HV.out.under hbel (by omega)); have hsz2 := hbel.size; have q4_4 : wN.cell? ⟨w.heap.size, 4, none⟩ = some (.slice AU nU cU) := R4.out.cell 4; have q5_1 : wN.cell? ⟨w.heap.size + 1, 1, none⟩ = some (.slice AV nV cV) := R5.out.cell 1; clear hbel) | (refine wpList_storeW rfl 63 (.tmp 9) (.tmp 20) rfl 13 nod_size (wN.heap.size) 63 rfl (nodC nod0 (.slice none 0 0) (.slice none 0 0)) (nodC x (.slice A1 n1 c1) (.slice C1 m1 d1)) rfl (RowL.new wN 63 (nodC nod0 (.slice none 0 0) (.slice none 0 0))) rfl rfl (nodC_one _ _ _ _ _ _ _) ?_; intro wS3 hr3 hg3 hs3; have hzb := below_stored' hg3; clear q4_4 q5_1; replace HB := hide (HB.out.trans (hzb.mono HB.out.size)); replace R4 := hide (R4.out.on hzb); replace R5 := hide (R5.out.on hzb); replace HU := hide (HU.out.under hzb (by omega)); replace HL := hide (HL.out.under hzb (by omega)); replace HV := hide (HV.out.under hzb (by omega)); have hsz4 := hzb.size; have q4_4 : wS3.cell? ⟨w.heap.size, 4, none⟩ = some (.slice AU nU cU) := R4.out.cell 4; have q5_1 : wS3.cell? ⟨w.heap.size + 1, 1, none⟩ = some (.slice AV nV cV) := R5.out.cell 1; have RN := hide hr3; have hlt3 := hr3.lt; have q9_0 : wS3.cell? ⟨wN.heap.size, 0, none⟩ = some (.int .i64 x.k) := RN.out.cell 0; have q9_1 : wS3.cell? ⟨wN.heap.size, 1, none⟩ = some (.int .i64 x.p) := RN.out.cell 1; have q9_2 : wS3.cell? ⟨wN.heap.size, 2, none⟩ = some (.int .i64 x.n) := RN.out.cell 2; have q9_3 : wS3.cell? ⟨wN.heap.size, 3, none⟩ = some (.int .i64 x.g) := RN.out.cell 3; have q9_4 : wS3.cell? ⟨wN.heap.size, 4, none⟩ = some (.slice A1 n1 c1) := RN.out.cell 4; have q9_5 : wS3.cell? ⟨wN.heap.size, 5, none⟩ = some (.slice C1 m1 d1) := RN.out.cell 5; have q9_6 : wS3.cell? ⟨wN.heap.size, 6, none⟩ = some (.int .i64 x.att.h) := RN.out.cell 6; have q9_7 : wS3.cell? ⟨wN.heap.size, 7, none⟩ = some (.int .i64 x.att.o) := RN.out.cell 7; have q9_8 : wS3.cell? ⟨wN.heap.size, 8, none⟩ = some (.string ⟨x.att.r.toArray⟩) := RN.out.cell 8; have q9_9 : wS3.cell? ⟨wN.heap.size, 9, none⟩ = some (.int .i64 x.att.l) := RN.out.cell 9; have q9_10 : wS3.cell? ⟨wN.heap.size, 10, none⟩ = some (.int .i64 x.att.i) := RN.out.cell 10; have q9_11 : wS3.cell? ⟨wN.heap.size, 11, none⟩ = some (.int .i64 x.att.g) := RN.out.cell 11; have q9_12 : wS3.cell? ⟨wN.heap.size, 12, none⟩ = some (.int .i64 x.att.s) := RN.out.cell 12; clear hzb hr3; clear hg3 hs3) | (go_at_call 31; refine (RVOpq_b HOP.out hatt.1 hatt.2 wS3).mono ?_; rintro e5 wO ⟨rfl, hbel⟩; clear q4_4 q9_0 q9_1 q9_2 q9_3 q9_4 q9_5 q9_6 q9_7 q9_8 q9_9 q9_10 q9_11 q9_12 q5_1; replace HB := hide (HB.out.trans (hbel.mono HB.out.size)); replace R4 := hide (R4.out.on hbel); replace R5 := hide (R5.out.on hbel); replace HU := hide (HU.out.under hbel (by omega)); replace HL := hide (HL.out.under hbel (by omega)); replace HV := hide (HV.out.under hbel (by omega)); replace RN := hide (RN.out.on hbel); have hsz6 := hbel.size; have q4_4 : wO.cell? ⟨w.heap.size, 4, none⟩ = some (.slice AU nU cU) := R4.out.cell 4; have q9_0 : wO.cell? ⟨wN.heap.size, 0, none⟩ = some (.int .i64 x.k) := RN.out.cell 0; have q9_1 : wO.cell? ⟨wN.heap.size, 1, none⟩ = some (.int .i64 x.p) := RN.out.cell 1; have q9_2 : wO.cell? ⟨wN.heap.size, 2, none⟩ = some (.int .i64 x.n) := RN.out.cell 2; have q9_3 : wO.cell? ⟨wN.heap.size, 3, none⟩ = some (.int .i64 x.g) := RN.out.cell 3; have q9_4 : wO.cell? ⟨wN.heap.size, 4, none⟩ = some (.slice A1 n1 c1) := RN.out.cell 4; have q9_5 : wO.cell? ⟨wN.heap.size, 5, none⟩ = some (.slice C1 m1 d1) := RN.out.cell 5; have q9_6 : wO.cell? ⟨wN.heap.size, 6, none⟩ = some (.int .i64 x.att.h) := RN.out.cell 6; have q9_7 : wO.cell? ⟨wN.heap.size, 7, none⟩ = some (.int .i64 x.att.o) := RN.out.cell 7; have q9_8 : wO.cell? ⟨wN.heap.size, 8, none⟩ = some (.string ⟨x.att.r.toArray⟩) := RN.out.cell 8; have q9_9 : wO.cell? ⟨wN.heap.size, 9, none⟩ = some (.int .i64 x.att.l) := RN.out.cell 9; have q9_10 : wO.cell? ⟨wN.heap.size, 10, none⟩ = some (.int .i64 x.att.i) := RN.out.cell 10; have q9_11 : wO.cell? ⟨wN.heap.size, 11, none⟩ = some (.int .i64 x.att.g) := RN.out.cell 11; have q9_12 : wO.cell? ⟨wN.heap.size, 12, none⟩ = some (.int .i64 x.att.s) := RN.out.cell 12; have q5_1 : wO.cell? ⟨w.heap.size + 1, 1, none⟩ = some (.slice AV nV cV) := R5.out.cell 1; clear hbel))
  go_ret
  exact ⟨none, 0, rfl, RdE.none_ _ _ _ _, HB.out⟩
 have hk1 : (x.k != 1) = false := by simpa using hk
 have hop : opqD x = opq x := by unfold opqD; simp [hk]
 rw [if_pos hk]
 clear hk
 cases ho : opq x
 rotate_left
 ·have HOP := hide (hop.trans ho)
  rw [if_pos rfl]
  clear hop ho
  go_enter Tryz.func21, Tryz.ntmps21
  go_wp2_with (first | (go_at_call 67; refine (At_e HX.out W1 HU.out (by omega) (by have := HFU.out.1; omega)).mono ?_; rintro e1 wN ⟨A1, n1, c1, C1, m1, d1, rfl, -, -, -, -, hbel⟩; clear q4_4 q5_1; replace HB := hide (HB.out.trans (hbel.mono HB.out.size)); replace R4 := hide (R4.out.on hbel); replace R5 := hide (R5.out.on hbel); replace HU := hide (HU.out.under hbel (by omega)); replace HL := hide (HL.out.under hbel (by omega)); replace HV := hide (HV.out.under hbel (by omega)); have hsz2 := hbel.size; have q4_4 : wN.cell? ⟨w.heap.size, 4, none⟩ = some (.slice AU nU cU) := R4.out.cell 4; have q5_1 : wN.cell? ⟨w.heap.size + 1, 1, none⟩ = some (.slice AV nV cV) := R5.out.cell 1; clear hbel) | (refine wpList_storeW rfl 63 (.tmp 9) (.tmp 20) rfl 13 nod_size (wN.heap.size) 63 rfl (nodC nod0 (.slice none 0 0) (.slice none 0 0)) (nodC x (.slice A1 n1 c1) (.slice C1 m1 d1)) rfl (RowL.new wN 63 (nodC nod0 (.slice none 0 0) (.slice none 0 0))) rfl rfl (nodC_one _ _ _ _ _ _ _) ?_; intro wS3 hr3 hg3 hs3; have hzb := below_stored' hg3; clear q4_4 q5_1; replace HB := hide (HB.out.trans (hzb.mono HB.out.size)); replace R4 := hide (R4.out.on hzb); replace R5 := hide (R5.out.on hzb); replace HU := hide (HU.out.under hzb (by omega)); replace HL := hide (HL.out.under hzb (by omega)); replace HV := hide (HV.out.under hzb (by omega)); have hsz4 := hzb.size; have q4_4 : wS3.cell? ⟨w.heap.size, 4, none⟩ = some (.slice AU nU cU) := R4.out.cell 4; have q5_1 : wS3.cell? ⟨w.heap.size + 1, 1, none⟩ = some (.slice AV nV cV) := R5.out.cell 1; have RN := hide hr3; have hlt3 := hr3.lt; have q9_0 : wS3.cell? ⟨wN.heap.size, 0, none⟩ = some (.int .i64 x.k) := RN.out.cell 0; have q9_1 : wS3.cell? ⟨wN.heap.size, 1, none⟩ = some (.int .i64 x.p) := RN.out.cell 1; have q9_2 : wS3.cell? ⟨wN.heap.size, 2, none⟩ = some (.int .i64 x.n) := RN.out.cell 2; have q9_3 : wS3.cell? ⟨wN.heap.size, 3, none⟩ = some (.int .i64 x.g) := RN.out.cell 3; have q9_4 : wS3.cell? ⟨wN.heap.size, 4, none⟩ = some (.slice A1 n1 c1) := RN.out.cell 4; have q9_5 : wS3.cell? ⟨wN.heap.size, 5, none⟩ = some (.slice C1 m1 d1) := RN.out.cell 5; have q9_6 : wS3.cell? ⟨wN.heap.size, 6, none⟩ = some (.int .i64 x.att.h) := RN.out.cell 6; have q9_7 : wS3.cell? ⟨wN.heap.size, 7, none⟩ = some (.int .i64 x.att.o) := RN.out.cell 7; have q9_8 : wS3.cell? ⟨wN.heap.size, 8, none⟩ = some (.string ⟨x.att.r.toArray⟩) := RN.out.cell 8; have q9_9 : wS3.cell? ⟨wN.heap.size, 9, none⟩ = some (.int .i64 x.att.l) := RN.out.cell 9; have q9_10 : wS3.cell? ⟨wN.heap.size, 10, none⟩ = some (.int .i64 x.att.i) := RN.out.cell 10; have q9_11 : wS3.cell? ⟨wN.heap.size, 11, none⟩ = some (.int .i64 x.att.g) := RN.out.cell 11; have q9_12 : wS3.cell? ⟨wN.heap.size, 12, none⟩ = some (.int .i64 x.att.s) := RN.out.cell 12; clear hzb hr3; clear hg3 hs3) | (go_at_call 31; refine (RVOpq_b HOP.out hatt.1 hatt.2 wS3).mono ?_; rintro e5 wO ⟨rfl, hbel⟩; clear q4_4 q9_0 q9_1 q9_2 q9_3 q9_4 q9_5 q9_6 q9_7 q9_8 q9_9 q9_10 q9_11 q9_12 q5_1; replace HB := hide (HB.out.trans (hbel.mono HB.out.size)); replace R4 := hide (R4.out.on hbel); replace R5 := hide (R5.out.on hbel); replace HU := hide (HU.out.under hbel (by omega)); replace HL := hide (HL.out.under hbel (by omega)); replace HV := hide (HV.out.under hbel (by omega)); replace RN := hide (RN.out.on hbel); have hsz6 := hbel.size; have q4_4 : wO.cell? ⟨w.heap.size, 4, none⟩ = some (.slice AU nU cU) := R4.out.cell 4; have q9_0 : wO.cell? ⟨wN.heap.size, 0, none⟩ = some (.int .i64 x.k) := RN.out.cell 0; have q9_1 : wO.cell? ⟨wN.heap.size, 1, none⟩ = some (.int .i64 x.p) := RN.out.cell 1; have q9_2 : wO.cell? ⟨wN.heap.size, 2, none⟩ = some (.int .i64 x.n) := RN.out.cell 2; have q9_3 : wO.cell? ⟨wN.heap.size, 3, none⟩ = some (.int .i64 x.g) := RN.out.cell 3; have q9_4 : wO.cell? ⟨wN.heap.size, 4, none⟩ = some (.slice A1 n1 c1) := RN.out.cell 4; have q9_5 : wO.cell? ⟨wN.heap.size, 5, none⟩ = some (.slice C1 m1 d1) := RN.out.cell 5; have q9_6 : wO.cell? ⟨wN.heap.size, 6, none⟩ = some (.int .i64 x.att.h) := RN.out.cell 6; have q9_7 : wO.cell? ⟨wN.heap.size, 7, none⟩ = some (.int .i64 x.att.o) := RN.out.cell 7; have q9_8 : wO.cell? ⟨wN.heap.size, 8, none⟩ = some (.string ⟨x.att.r.toArray⟩) := RN.out.cell 8; have q9_9 : wO.cell? ⟨wN.heap.size, 9, none⟩ = some (.int .i64 x.att.l) := RN.out.cell 9; have q9_10 : wO.cell? ⟨wN.heap.size, 10, none⟩ = some (.int .i64 x.att.i) := RN.out.cell 10; have q9_11 : wO.cell? ⟨wN.heap.size, 11, none⟩ = some (.int .i64 x.att.g) := RN.out.cell 11; have q9_12 : wO.cell? ⟨wN.heap.size, 12, none⟩ = some (.int .i64 x.att.s) := RN.out.cell 12; have q5_1 : wO.cell? ⟨w.heap.size + 1, 1, none⟩ = some (.slice AV nV cV) := R5.out.cell 1; clear hbel))
  go_ret
  exact ⟨none, 0, rfl, RdE.none_ _ _ _ _, HB.out⟩
 have HOP := hide (hop.trans ho)
 rw [if_neg (by simp)]
 clear hop ho
 cases hr : hasR x
 ·have HHR := hide (show decide (x.att.h / 2 % 2 = 1) = false from hr)
  rw [if_neg (by simp)]
  clear hr
  obtain ⟨R, hR⟩ : ∃ R, findL ls nm vl [] = R := ⟨_, rfl⟩
  unfold benV
  rw [hR]
  obtain ⟨K, L⟩ := R
  have HFI := hide hR
  clear hR
  by_cases hk : K = 1
  ·have hk3 : (K != 1) = false := by simpa using hk
   rw [if_pos hk]
   clear hk
   go_enter Tryz.func21, Tryz.ntmps21
   go_wp2_with (first | (go_at_call 67; refine (At_e HX.out W1 HU.out (by omega) (by have := HFU.out.1; omega)).mono ?_; rintro e1 wN ⟨A1, n1, c1, C1, m1, d1, rfl, -, -, -, -, hbel⟩; clear q4_4 q5_1; replace HB := hide (HB.out.trans (hbel.mono HB.out.size)); replace R4 := hide (R4.out.on hbel); replace R5 := hide (R5.out.on hbel); replace HU := hide (HU.out.under hbel (by omega)); replace HL := hide (HL.out.under hbel (by omega)); replace HV := hide (HV.out.under hbel (by omega)); have hsz2 := hbel.size; have q4_4 : wN.cell? ⟨w.heap.size, 4, none⟩ = some (.slice AU nU cU) := R4.out.cell 4; have q5_1 : wN.cell? ⟨w.heap.size + 1, 1, none⟩ = some (.slice AV nV cV) := R5.out.cell 1; clear hbel) | (refine wpList_storeW rfl 63 (.tmp 9) (.tmp 20) rfl 13 nod_size (wN.heap.size) 63 rfl (nodC nod0 (.slice none 0 0) (.slice none 0 0)) (nodC x (.slice A1 n1 c1) (.slice C1 m1 d1)) rfl (RowL.new wN 63 (nodC nod0 (.slice none 0 0) (.slice none 0 0))) rfl rfl (nodC_one _ _ _ _ _ _ _) ?_; intro wS3 hr3 hg3 hs3; have hzb := below_stored' hg3; clear q4_4 q5_1; replace HB := hide (HB.out.trans (hzb.mono HB.out.size)); replace R4 := hide (R4.out.on hzb); replace R5 := hide (R5.out.on hzb); replace HU := hide (HU.out.under hzb (by omega)); replace HL := hide (HL.out.under hzb (by omega)); replace HV := hide (HV.out.under hzb (by omega)); have hsz4 := hzb.size; have q4_4 : wS3.cell? ⟨w.heap.size, 4, none⟩ = some (.slice AU nU cU) := R4.out.cell 4; have q5_1 : wS3.cell? ⟨w.heap.size + 1, 1, none⟩ = some (.slice AV nV cV) := R5.out.cell 1; have RN := hide hr3; have hlt3 := hr3.lt; have q9_0 : wS3.cell? ⟨wN.heap.size, 0, none⟩ = some (.int .i64 x.k) := RN.out.cell 0; have q9_1 : wS3.cell? ⟨wN.heap.size, 1, none⟩ = some (.int .i64 x.p) := RN.out.cell 1; have q9_2 : wS3.cell? ⟨wN.heap.size, 2, none⟩ = some (.int .i64 x.n) := RN.out.cell 2; have q9_3 : wS3.cell? ⟨wN.heap.size, 3, none⟩ = some (.int .i64 x.g) := RN.out.cell 3; have q9_4 : wS3.cell? ⟨wN.heap.size, 4, none⟩ = some (.slice A1 n1 c1) := RN.out.cell 4; have q9_5 : wS3.cell? ⟨wN.heap.size, 5, none⟩ = some (.slice C1 m1 d1) := RN.out.cell 5; have q9_6 : wS3.cell? ⟨wN.heap.size, 6, none⟩ = some (.int .i64 x.att.h) := RN.out.cell 6; have q9_7 : wS3.cell? ⟨wN.heap.size, 7, none⟩ = some (.int .i64 x.att.o) := RN.out.cell 7; have q9_8 : wS3.cell? ⟨wN.heap.size, 8, none⟩ = some (.string ⟨x.att.r.toArray⟩) := RN.out.cell 8; have q9_9 : wS3.cell? ⟨wN.heap.size, 9, none⟩ = some (.int .i64 x.att.l) := RN.out.cell 9; have q9_10 : wS3.cell? ⟨wN.heap.size, 10, none⟩ = some (.int .i64 x.att.i) := RN.out.cell 10; have q9_11 : wS3.cell? ⟨wN.heap.size, 11, none⟩ = some (.int .i64 x.att.g) := RN.out.cell 11; have q9_12 : wS3.cell? ⟨wN.heap.size, 12, none⟩ = some (.int .i64 x.att.s) := RN.out.cell 12; clear hzb hr3; clear hg3 hs3) | (go_at_call 31; refine (RVOpq_b HOP.out hatt.1 hatt.2 wS3).mono ?_; rintro e5 wO ⟨rfl, hbel⟩; clear q4_4 q9_0 q9_1 q9_2 q9_3 q9_4 q9_5 q9_6 q9_7 q9_8 q9_9 q9_10 q9_11 q9_12 q5_1; replace HB := hide (HB.out.trans (hbel.mono HB.out.size)); replace R4 := hide (R4.out.on hbel); replace R5 := hide (R5.out.on hbel); replace HU := hide (HU.out.under hbel (by omega)); replace HL := hide (HL.out.under hbel (by omega)); replace HV := hide (HV.out.under hbel (by omega)); replace RN := hide (RN.out.on hbel); have hsz6 := hbel.size; have q4_4 : wO.cell? ⟨w.heap.size, 4, none⟩ = some (.slice AU nU cU) := R4.out.cell 4; have q9_0 : wO.cell? ⟨wN.heap.size, 0, none⟩ = some (.int .i64 x.k) := RN.out.cell 0; have q9_1 : wO.cell? ⟨wN.heap.size, 1, none⟩ = some (.int .i64 x.p) := RN.out.cell 1; have q9_2 : wO.cell? ⟨wN.heap.size, 2, none⟩ = some (.int .i64 x.n) := RN.out.cell 2; have q9_3 : wO.cell? ⟨wN.heap.size, 3, none⟩ = some (.int .i64 x.g) := RN.out.cell 3; have q9_4 : wO.cell? ⟨wN.heap.size, 4, none⟩ = some (.slice A1 n1 c1) := RN.out.cell 4; have q9_5 : wO.cell? ⟨wN.heap.size, 5, none⟩ = some (.slice C1 m1 d1) := RN.out.cell 5; have q9_6 : wO.cell? ⟨wN.heap.size, 6, none⟩ = some (.int .i64 x.att.h) := RN.out.cell 6; have q9_7 : wO.cell? ⟨wN.heap.size, 7, none⟩ = some (.int .i64 x.att.o) := RN.out.cell 7; have q9_8 : wO.cell? ⟨wN.heap.size, 8, none⟩ = some (.string ⟨x.att.r.toArray⟩) := RN.out.cell 8; have q9_9 : wO.cell? ⟨wN.heap.size, 9, none⟩ = some (.int .i64 x.att.l) := RN.out.cell 9; have q9_10 : wO.cell? ⟨wN.heap.size, 10, none⟩ = some (.int .i64 x.att.i) := RN.out.cell 10; have q9_11 : wO.cell? ⟨wN.heap.size, 11, none⟩ = some (.int .i64 x.att.g) := RN.out.cell 11; have q9_12 : wO.cell? ⟨wN.heap.size, 12, none⟩ = some (.int .i64 x.att.s) := RN.out.cell 12; have q5_1 : wO.cell? ⟨w.heap.size + 1, 1, none⟩ = some (.slice AV nV cV) := R5.out.cell 1; clear hbel) | (refine wpList_loadC rfl 61 (.tmp 28) rfl 7 att_agg att_size (wN.heap.size) 6 63 rfl (nodC x (.slice A1 n1 c1) (.slice C1 m1 d1)) (attC x.att) RN.out rfl rfl ?_) | (go_at_call 74; refine (RHas2_b hatt.1 hatt.2 HHR.out wO).mono ?_; rintro e7 wH ⟨rfl, hbel⟩; clear q4_4 q9_0 q9_1 q9_2 q9_3 q9_4 q9_5 q9_6 q9_7 q9_8 q9_9 q9_10 q9_11 q9_12 q5_1; replace HB := hide (HB.out.trans (hbel.mono HB.out.size)); replace R4 := hide (R4.out.on hbel); replace R5 := hide (R5.out.on hbel); replace HU := hide (HU.out.under hbel (by omega)); replace HL := hide (HL.out.under hbel (by omega)); replace HV := hide (HV.out.under hbel (by omega)); replace RN := hide (RN.out.on hbel); have hsz8 := hbel.size; have q4_4 : wH.cell? ⟨w.heap.size, 4, none⟩ = some (.slice AU nU cU) := R4.out.cell 4; have q9_0 : wH.cell? ⟨wN.heap.size, 0, none⟩ = some (.int .i64 x.k) := RN.out.cell 0; have q9_1 : wH.cell? ⟨wN.heap.size, 1, none⟩ = some (.int .i64 x.p) := RN.out.cell 1; have q9_2 : wH.cell? ⟨wN.heap.size, 2, none⟩ = some (.int .i64 x.n) := RN.out.cell 2; have q9_3 : wH.cell? ⟨wN.heap.size, 3, none⟩ = some (.int .i64 x.g) := RN.out.cell 3; have q9_4 : wH.cell? ⟨wN.heap.size, 4, none⟩ = some (.slice A1 n1 c1) := RN.out.cell 4; have q9_5 : wH.cell? ⟨wN.heap.size, 5, none⟩ = some (.slice C1 m1 d1) := RN.out.cell 5; have q9_6 : wH.cell? ⟨wN.heap.size, 6, none⟩ = some (.int .i64 x.att.h) := RN.out.cell 6; have q9_7 : wH.cell? ⟨wN.heap.size, 7, none⟩ = some (.int .i64 x.att.o) := RN.out.cell 7; have q9_8 : wH.cell? ⟨wN.heap.size, 8, none⟩ = some (.string ⟨x.att.r.toArray⟩) := RN.out.cell 8; have q9_9 : wH.cell? ⟨wN.heap.size, 9, none⟩ = some (.int .i64 x.att.l) := RN.out.cell 9; have q9_10 : wH.cell? ⟨wN.heap.size, 10, none⟩ = some (.int .i64 x.att.i) := RN.out.cell 10; have q9_11 : wH.cell? ⟨wN.heap.size, 11, none⟩ = some (.int .i64 x.att.g) := RN.out.cell 11; have q9_12 : wH.cell? ⟨wN.heap.size, 12, none⟩ = some (.int .i64 x.att.s) := RN.out.cell 12; have q5_1 : wH.cell? ⟨w.heap.size + 1, 1, none⟩ = some (.slice AV nV cV) := R5.out.cell 1; clear hbel) | (refine wpList_loadW rfl 29 (.tmp 4) rfl 6 stk_agg stk_size (w.heap.size) 29 rfl (stkC g (.slice AU nU cU) (.slice AL nL cL)) R4.out rfl ?_) | (go_at_call 68; refine (RFind_ev HFI.out wH HL.out (und_up HV.out (by omega)) (by omega) HF.out hnV).mono ?_; rintro e9 wB ⟨A3, c3, rfl, -, h3, hbel⟩; clear q4_4 q9_0 q9_1 q9_2 q9_3 q9_4 q9_5 q9_6 q9_7 q9_8 q9_9 q9_10 q9_11 q9_12 q5_1; replace HB := hide (HB.out.trans (hbel.mono HB.out.size)); replace R4 := hide (R4.out.on hbel); replace R5 := hide (R5.out.on hbel); replace HU := hide (HU.out.under hbel (by omega)); replace HL := hide (HL.out.under hbel (by omega)); replace HV := hide (HV.out.under hbel (by omega)); replace RN := hide (RN.out.on hbel); have hsz10 := hbel.size; have q4_4 : wB.cell? ⟨w.heap.size, 4, none⟩ = some (.slice AU nU cU) := R4.out.cell 4; have q9_0 : wB.cell? ⟨wN.heap.size, 0, none⟩ = some (.int .i64 x.k) := RN.out.cell 0; have q9_1 : wB.cell? ⟨wN.heap.size, 1, none⟩ = some (.int .i64 x.p) := RN.out.cell 1; have q9_2 : wB.cell? ⟨wN.heap.size, 2, none⟩ = some (.int .i64 x.n) := RN.out.cell 2; have q9_3 : wB.cell? ⟨wN.heap.size, 3, none⟩ = some (.int .i64 x.g) := RN.out.cell 3; have q9_4 : wB.cell? ⟨wN.heap.size, 4, none⟩ = some (.slice A1 n1 c1) := RN.out.cell 4; have q9_5 : wB.cell? ⟨wN.heap.size, 5, none⟩ = some (.slice C1 m1 d1) := RN.out.cell 5; have q9_6 : wB.cell? ⟨wN.heap.size, 6, none⟩ = some (.int .i64 x.att.h) := RN.out.cell 6; have q9_7 : wB.cell? ⟨wN.heap.size, 7, none⟩ = some (.int .i64 x.att.o) := RN.out.cell 7; have q9_8 : wB.cell? ⟨wN.heap.size, 8, none⟩ = some (.string ⟨x.att.r.toArray⟩) := RN.out.cell 8; have q9_9 : wB.cell? ⟨wN.heap.size, 9, none⟩ = some (.int .i64 x.att.l) := RN.out.cell 9; have q9_10 : wB.cell? ⟨wN.heap.size, 10, none⟩ = some (.int .i64 x.att.i) := RN.out.cell 10; have q9_11 : wB.cell? ⟨wN.heap.size, 11, none⟩ = some (.int .i64 x.att.g) := RN.out.cell 11; have q9_12 : wB.cell? ⟨wN.heap.size, 12, none⟩ = some (.int .i64 x.att.s) := RN.out.cell 12; have q5_1 : wB.cell? ⟨w.heap.size + 1, 1, none⟩ = some (.slice AV nV cV) := R5.out.cell 1; have H3 := hide h3; clear h3; clear hbel))
   go_ret
   exact ⟨A3, c3, rfl, fr_low H3.out (by omega), HB.out⟩
  ·have hk3 : (K != 1) = true := by simpa using hk
   rw [if_neg hk]
   clear hk
   go_enter Tryz.func21, Tryz.ntmps21
   go_wp2_with (first | (go_at_call 67; refine (At_e HX.out W1 HU.out (by omega) (by have := HFU.out.1; omega)).mono ?_; rintro e1 wN ⟨A1, n1, c1, C1, m1, d1, rfl, -, -, -, -, hbel⟩; clear q4_4 q5_1; replace HB := hide (HB.out.trans (hbel.mono HB.out.size)); replace R4 := hide (R4.out.on hbel); replace R5 := hide (R5.out.on hbel); replace HU := hide (HU.out.under hbel (by omega)); replace HL := hide (HL.out.under hbel (by omega)); replace HV := hide (HV.out.under hbel (by omega)); have hsz2 := hbel.size; have q4_4 : wN.cell? ⟨w.heap.size, 4, none⟩ = some (.slice AU nU cU) := R4.out.cell 4; have q5_1 : wN.cell? ⟨w.heap.size + 1, 1, none⟩ = some (.slice AV nV cV) := R5.out.cell 1; clear hbel) | (refine wpList_storeW rfl 63 (.tmp 9) (.tmp 20) rfl 13 nod_size (wN.heap.size) 63 rfl (nodC nod0 (.slice none 0 0) (.slice none 0 0)) (nodC x (.slice A1 n1 c1) (.slice C1 m1 d1)) rfl (RowL.new wN 63 (nodC nod0 (.slice none 0 0) (.slice none 0 0))) rfl rfl (nodC_one _ _ _ _ _ _ _) ?_; intro wS3 hr3 hg3 hs3; have hzb := below_stored' hg3; clear q4_4 q5_1; replace HB := hide (HB.out.trans (hzb.mono HB.out.size)); replace R4 := hide (R4.out.on hzb); replace R5 := hide (R5.out.on hzb); replace HU := hide (HU.out.under hzb (by omega)); replace HL := hide (HL.out.under hzb (by omega)); replace HV := hide (HV.out.under hzb (by omega)); have hsz4 := hzb.size; have q4_4 : wS3.cell? ⟨w.heap.size, 4, none⟩ = some (.slice AU nU cU) := R4.out.cell 4; have q5_1 : wS3.cell? ⟨w.heap.size + 1, 1, none⟩ = some (.slice AV nV cV) := R5.out.cell 1; have RN := hide hr3; have hlt3 := hr3.lt; have q9_0 : wS3.cell? ⟨wN.heap.size, 0, none⟩ = some (.int .i64 x.k) := RN.out.cell 0; have q9_1 : wS3.cell? ⟨wN.heap.size, 1, none⟩ = some (.int .i64 x.p) := RN.out.cell 1; have q9_2 : wS3.cell? ⟨wN.heap.size, 2, none⟩ = some (.int .i64 x.n) := RN.out.cell 2; have q9_3 : wS3.cell? ⟨wN.heap.size, 3, none⟩ = some (.int .i64 x.g) := RN.out.cell 3; have q9_4 : wS3.cell? ⟨wN.heap.size, 4, none⟩ = some (.slice A1 n1 c1) := RN.out.cell 4; have q9_5 : wS3.cell? ⟨wN.heap.size, 5, none⟩ = some (.slice C1 m1 d1) := RN.out.cell 5; have q9_6 : wS3.cell? ⟨wN.heap.size, 6, none⟩ = some (.int .i64 x.att.h) := RN.out.cell 6; have q9_7 : wS3.cell? ⟨wN.heap.size, 7, none⟩ = some (.int .i64 x.att.o) := RN.out.cell 7; have q9_8 : wS3.cell? ⟨wN.heap.size, 8, none⟩ = some (.string ⟨x.att.r.toArray⟩) := RN.out.cell 8; have q9_9 : wS3.cell? ⟨wN.heap.size, 9, none⟩ = some (.int .i64 x.att.l) := RN.out.cell 9; have q9_10 : wS3.cell? ⟨wN.heap.size, 10, none⟩ = some (.int .i64 x.att.i) := RN.out.cell 10; have q9_11 : wS3.cell? ⟨wN.heap.size, 11, none⟩ = some (.int .i64 x.att.g) := RN.out.cell 11; have q9_12 : wS3.cell? ⟨wN.heap.size, 12, none⟩ = some (.int .i64 x.att.s) := RN.out.cell 12; clear hzb hr3; clear hg3 hs3) | (go_at_call 31; refine (RVOpq_b HOP.out hatt.1 hatt.2 wS3).mono ?_; rintro e5 wO ⟨rfl, hbel⟩; clear q4_4 q9_0 q9_1 q9_2 q9_3 q9_4 q9_5 q9_6 q9_7 q9_8 q9_9 q9_10 q9_11 q9_12 q5_1; replace HB := hide (HB.out.trans (hbel.mono HB.out.size)); replace R4 := hide (R4.out.on hbel); replace R5 := hide (R5.out.on hbel); replace HU := hide (HU.out.under hbel (by omega)); replace HL := hide (HL.out.under hbel (by omega)); replace HV := hide (HV.out.under hbel (by omega)); replace RN := hide (RN.out.on hbel); have hsz6 := hbel.size; have q4_4 : wO.cell? ⟨w.heap.size, 4, none⟩ = some (.slice AU nU cU) := R4.out.cell 4; have q9_0 : wO.cell? ⟨wN.heap.size, 0, none⟩ = some (.int .i64 x.k) := RN.out.cell 0; have q9_1 : wO.cell? ⟨wN.heap.size, 1, none⟩ = some (.int .i64 x.p) := RN.out.cell 1; have q9_2 : wO.cell? ⟨wN.heap.size, 2, none⟩ = some (.int .i64 x.n) := RN.out.cell 2; have q9_3 : wO.cell? ⟨wN.heap.size, 3, none⟩ = some (.int .i64 x.g) := RN.out.cell 3; have q9_4 : wO.cell? ⟨wN.heap.size, 4, none⟩ = some (.slice A1 n1 c1) := RN.out.cell 4; have q9_5 : wO.cell? ⟨wN.heap.size, 5, none⟩ = some (.slice C1 m1 d1) := RN.out.cell 5; have q9_6 : wO.cell? ⟨wN.heap.size, 6, none⟩ = some (.int .i64 x.att.h) := RN.out.cell 6; have q9_7 : wO.cell? ⟨wN.heap.size, 7, none⟩ = some (.int .i64 x.att.o) := RN.out.cell 7; have q9_8 : wO.cell? ⟨wN.heap.size, 8, none⟩ = some (.string ⟨x.att.r.toArray⟩) := RN.out.cell 8; have q9_9 : wO.cell? ⟨wN.heap.size, 9, none⟩ = some (.int .i64 x.att.l) := RN.out.cell 9; have q9_10 : wO.cell? ⟨wN.heap.size, 10, none⟩ = some (.int .i64 x.att.i) := RN.out.cell 10; have q9_11 : wO.cell? ⟨wN.heap.size, 11, none⟩ = some (.int .i64 x.att.g) := RN.out.cell 11; have q9_12 : wO.cell? ⟨wN.heap.size, 12, none⟩ = some (.int .i64 x.att.s) := RN.out.cell 12; have q5_1 : wO.cell? ⟨w.heap.size + 1, 1, none⟩ = some (.slice AV nV cV) := R5.out.cell 1; clear hbel) | (refine wpList_loadC rfl 61 (.tmp 28) rfl 7 att_agg att_size (wN.heap.size) 6 63 rfl (nodC x (.slice A1 n1 c1) (.slice C1 m1 d1)) (attC x.att) RN.out rfl rfl ?_) | (go_at_call 74; refine (RHas2_b hatt.1 hatt.2 HHR.out wO).mono ?_; rintro e7 wH ⟨rfl, hbel⟩; clear q4_4 q9_0 q9_1 q9_2 q9_3 q9_4 q9_5 q9_6 q9_7 q9_8 q9_9 q9_10 q9_11 q9_12 q5_1; replace HB := hide (HB.out.trans (hbel.mono HB.out.size)); replace R4 := hide (R4.out.on hbel); replace R5 := hide (R5.out.on hbel); replace HU := hide (HU.out.under hbel (by omega)); replace HL := hide (HL.out.under hbel (by omega)); replace HV := hide (HV.out.under hbel (by omega)); replace RN := hide (RN.out.on hbel); have hsz8 := hbel.size; have q4_4 : wH.cell? ⟨w.heap.size, 4, none⟩ = some (.slice AU nU cU) := R4.out.cell 4; have q9_0 : wH.cell? ⟨wN.heap.size, 0, none⟩ = some (.int .i64 x.k) := RN.out.cell 0; have q9_1 : wH.cell? ⟨wN.heap.size, 1, none⟩ = some (.int .i64 x.p) := RN.out.cell 1; have q9_2 : wH.cell? ⟨wN.heap.size, 2, none⟩ = some (.int .i64 x.n) := RN.out.cell 2; have q9_3 : wH.cell? ⟨wN.heap.size, 3, none⟩ = some (.int .i64 x.g) := RN.out.cell 3; have q9_4 : wH.cell? ⟨wN.heap.size, 4, none⟩ = some (.slice A1 n1 c1) := RN.out.cell 4; have q9_5 : wH.cell? ⟨wN.heap.size, 5, none⟩ = some (.slice C1 m1 d1) := RN.out.cell 5; have q9_6 : wH.cell? ⟨wN.heap.size, 6, none⟩ = some (.int .i64 x.att.h) := RN.out.cell 6; have q9_7 : wH.cell? ⟨wN.heap.size, 7, none⟩ = some (.int .i64 x.att.o) := RN.out.cell 7; have q9_8 : wH.cell? ⟨wN.heap.size, 8, none⟩ = some (.string ⟨x.att.r.toArray⟩) := RN.out.cell 8; have q9_9 : wH.cell? ⟨wN.heap.size, 9, none⟩ = some (.int .i64 x.att.l) := RN.out.cell 9; have q9_10 : wH.cell? ⟨wN.heap.size, 10, none⟩ = some (.int .i64 x.att.i) := RN.out.cell 10; have q9_11 : wH.cell? ⟨wN.heap.size, 11, none⟩ = some (.int .i64 x.att.g) := RN.out.cell 11; have q9_12 : wH.cell? ⟨wN.heap.size, 12, none⟩ = some (.int .i64 x.att.s) := RN.out.cell 12; have q5_1 : wH.cell? ⟨w.heap.size + 1, 1, none⟩ = some (.slice AV nV cV) := R5.out.cell 1; clear hbel) | (refine wpList_loadW rfl 29 (.tmp 4) rfl 6 stk_agg stk_size (w.heap.size) 29 rfl (stkC g (.slice AU nU cU) (.slice AL nL cL)) R4.out rfl ?_) | (go_at_call 68; refine (RFind_ev HFI.out wH HL.out (und_up HV.out (by omega)) (by omega) HF.out hnV).mono ?_; rintro e9 wB ⟨A3, c3, rfl, -, h3, hbel⟩; clear q4_4 q9_0 q9_1 q9_2 q9_3 q9_4 q9_5 q9_6 q9_7 q9_8 q9_9 q9_10 q9_11 q9_12 q5_1; replace HB := hide (HB.out.trans (hbel.mono HB.out.size)); replace R4 := hide (R4.out.on hbel); replace R5 := hide (R5.out.on hbel); replace HU := hide (HU.out.under hbel (by omega)); replace HL := hide (HL.out.under hbel (by omega)); replace HV := hide (HV.out.under hbel (by omega)); replace RN := hide (RN.out.on hbel); have hsz10 := hbel.size; have q4_4 : wB.cell? ⟨w.heap.size, 4, none⟩ = some (.slice AU nU cU) := R4.out.cell 4; have q9_0 : wB.cell? ⟨wN.heap.size, 0, none⟩ = some (.int .i64 x.k) := RN.out.cell 0; have q9_1 : wB.cell? ⟨wN.heap.size, 1, none⟩ = some (.int .i64 x.p) := RN.out.cell 1; have q9_2 : wB.cell? ⟨wN.heap.size, 2, none⟩ = some (.int .i64 x.n) := RN.out.cell 2; have q9_3 : wB.cell? ⟨wN.heap.size, 3, none⟩ = some (.int .i64 x.g) := RN.out.cell 3; have q9_4 : wB.cell? ⟨wN.heap.size, 4, none⟩ = some (.slice A1 n1 c1) := RN.out.cell 4; have q9_5 : wB.cell? ⟨wN.heap.size, 5, none⟩ = some (.slice C1 m1 d1) := RN.out.cell 5; have q9_6 : wB.cell? ⟨wN.heap.size, 6, none⟩ = some (.int .i64 x.att.h) := RN.out.cell 6; have q9_7 : wB.cell? ⟨wN.heap.size, 7, none⟩ = some (.int .i64 x.att.o) := RN.out.cell 7; have q9_8 : wB.cell? ⟨wN.heap.size, 8, none⟩ = some (.string ⟨x.att.r.toArray⟩) := RN.out.cell 8; have q9_9 : wB.cell? ⟨wN.heap.size, 9, none⟩ = some (.int .i64 x.att.l) := RN.out.cell 9; have q9_10 : wB.cell? ⟨wN.heap.size, 10, none⟩ = some (.int .i64 x.att.i) := RN.out.cell 10; have q9_11 : wB.cell? ⟨wN.heap.size, 11, none⟩ = some (.int .i64 x.att.g) := RN.out.cell 11; have q9_12 : wB.cell? ⟨wN.heap.size, 12, none⟩ = some (.int .i64 x.att.s) := RN.out.cell 12; have q5_1 : wB.cell? ⟨w.heap.size + 1, 1, none⟩ = some (.slice AV nV cV) := R5.out.cell 1; have H3 := hide h3; clear h3; clear hbel))
   go_ret
   exact ⟨none, 0, rfl, RdE.none_ _ _ _ _, HB.out⟩
 ·have HHR := hide (show decide (x.att.h / 2 % 2 = 1) = true from hr)
  rw [if_pos rfl]
  unfold redV
  obtain ⟨rl, hrl2⟩ : ∃ rl, redL x.att.r = rl := ⟨_, rfl⟩
  have hrl25 : rl.length ≤ 25 := by rw [← hrl2]; exact redL_len _
  have HRL := hide hrl2
  clear hr
  cases hb : redB x.att.r
  ·have HRB := hide hb
   obtain ⟨ra, hra⟩ : ∃ ra, redA x.att.r = ra := ⟨_, rfl⟩
   have HRA := hide hra
   rw [if_neg (by simp)]
   clear hb hra hrl2
   go_enter Tryz.func21, Tryz.ntmps21
   go_wp2_with (first | (go_at_call 67; refine (At_e HX.out W1 HU.out (by omega) (by have := HFU.out.1; omega)).mono ?_; rintro e1 wN ⟨A1, n1, c1, C1, m1, d1, rfl, -, -, -, -, hbel⟩; clear q4_4 q5_1; replace HB := hide (HB.out.trans (hbel.mono HB.out.size)); replace R4 := hide (R4.out.on hbel); replace R5 := hide (R5.out.on hbel); replace HU := hide (HU.out.under hbel (by omega)); replace HL := hide (HL.out.under hbel (by omega)); replace HV := hide (HV.out.under hbel (by omega)); have hsz2 := hbel.size; have q4_4 : wN.cell? ⟨w.heap.size, 4, none⟩ = some (.slice AU nU cU) := R4.out.cell 4; have q5_1 : wN.cell? ⟨w.heap.size + 1, 1, none⟩ = some (.slice AV nV cV) := R5.out.cell 1; clear hbel) | (refine wpList_storeW rfl 63 (.tmp 9) (.tmp 20) rfl 13 nod_size (wN.heap.size) 63 rfl (nodC nod0 (.slice none 0 0) (.slice none 0 0)) (nodC x (.slice A1 n1 c1) (.slice C1 m1 d1)) rfl (RowL.new wN 63 (nodC nod0 (.slice none 0 0) (.slice none 0 0))) rfl rfl (nodC_one _ _ _ _ _ _ _) ?_; intro wS3 hr3 hg3 hs3; have hzb := below_stored' hg3; clear q4_4 q5_1; replace HB := hide (HB.out.trans (hzb.mono HB.out.size)); replace R4 := hide (R4.out.on hzb); replace R5 := hide (R5.out.on hzb); replace HU := hide (HU.out.under hzb (by omega)); replace HL := hide (HL.out.under hzb (by omega)); replace HV := hide (HV.out.under hzb (by omega)); have hsz4 := hzb.size; have q4_4 : wS3.cell? ⟨w.heap.size, 4, none⟩ = some (.slice AU nU cU) := R4.out.cell 4; have q5_1 : wS3.cell? ⟨w.heap.size + 1, 1, none⟩ = some (.slice AV nV cV) := R5.out.cell 1; have RN := hide hr3; have hlt3 := hr3.lt; have q9_0 : wS3.cell? ⟨wN.heap.size, 0, none⟩ = some (.int .i64 x.k) := RN.out.cell 0; have q9_1 : wS3.cell? ⟨wN.heap.size, 1, none⟩ = some (.int .i64 x.p) := RN.out.cell 1; have q9_2 : wS3.cell? ⟨wN.heap.size, 2, none⟩ = some (.int .i64 x.n) := RN.out.cell 2; have q9_3 : wS3.cell? ⟨wN.heap.size, 3, none⟩ = some (.int .i64 x.g) := RN.out.cell 3; have q9_4 : wS3.cell? ⟨wN.heap.size, 4, none⟩ = some (.slice A1 n1 c1) := RN.out.cell 4; have q9_5 : wS3.cell? ⟨wN.heap.size, 5, none⟩ = some (.slice C1 m1 d1) := RN.out.cell 5; have q9_6 : wS3.cell? ⟨wN.heap.size, 6, none⟩ = some (.int .i64 x.att.h) := RN.out.cell 6; have q9_7 : wS3.cell? ⟨wN.heap.size, 7, none⟩ = some (.int .i64 x.att.o) := RN.out.cell 7; have q9_8 : wS3.cell? ⟨wN.heap.size, 8, none⟩ = some (.string ⟨x.att.r.toArray⟩) := RN.out.cell 8; have q9_9 : wS3.cell? ⟨wN.heap.size, 9, none⟩ = some (.int .i64 x.att.l) := RN.out.cell 9; have q9_10 : wS3.cell? ⟨wN.heap.size, 10, none⟩ = some (.int .i64 x.att.i) := RN.out.cell 10; have q9_11 : wS3.cell? ⟨wN.heap.size, 11, none⟩ = some (.int .i64 x.att.g) := RN.out.cell 11; have q9_12 : wS3.cell? ⟨wN.heap.size, 12, none⟩ = some (.int .i64 x.att.s) := RN.out.cell 12; clear hzb hr3; clear hg3 hs3) | (go_at_call 31; refine (RVOpq_b HOP.out hatt.1 hatt.2 wS3).mono ?_; rintro e5 wO ⟨rfl, hbel⟩; clear q4_4 q9_0 q9_1 q9_2 q9_3 q9_4 q9_5 q9_6 q9_7 q9_8 q9_9 q9_10 q9_11 q9_12 q5_1; replace HB := hide (HB.out.trans (hbel.mono HB.out.size)); replace R4 := hide (R4.out.on hbel); replace R5 := hide (R5.out.on hbel); replace HU := hide (HU.out.under hbel (by omega)); replace HL := hide (HL.out.under hbel (by omega)); replace HV := hide (HV.out.under hbel (by omega)); replace RN := hide (RN.out.on hbel); have hsz6 := hbel.size; have q4_4 : wO.cell? ⟨w.heap.size, 4, none⟩ = some (.slice AU nU cU) := R4.out.cell 4; have q9_0 : wO.cell? ⟨wN.heap.size, 0, none⟩ = some (.int .i64 x.k) := RN.out.cell 0; have q9_1 : wO.cell? ⟨wN.heap.size, 1, none⟩ = some (.int .i64 x.p) := RN.out.cell 1; have q9_2 : wO.cell? ⟨wN.heap.size, 2, none⟩ = some (.int .i64 x.n) := RN.out.cell 2; have q9_3 : wO.cell? ⟨wN.heap.size, 3, none⟩ = some (.int .i64 x.g) := RN.out.cell 3; have q9_4 : wO.cell? ⟨wN.heap.size, 4, none⟩ = some (.slice A1 n1 c1) := RN.out.cell 4; have q9_5 : wO.cell? ⟨wN.heap.size, 5, none⟩ = some (.slice C1 m1 d1) := RN.out.cell 5; have q9_6 : wO.cell? ⟨wN.heap.size, 6, none⟩ = some (.int .i64 x.att.h) := RN.out.cell 6; have q9_7 : wO.cell? ⟨wN.heap.size, 7, none⟩ = some (.int .i64 x.att.o) := RN.out.cell 7; have q9_8 : wO.cell? ⟨wN.heap.size, 8, none⟩ = some (.string ⟨x.att.r.toArray⟩) := RN.out.cell 8; have q9_9 : wO.cell? ⟨wN.heap.size, 9, none⟩ = some (.int .i64 x.att.l) := RN.out.cell 9; have q9_10 : wO.cell? ⟨wN.heap.size, 10, none⟩ = some (.int .i64 x.att.i) := RN.out.cell 10; have q9_11 : wO.cell? ⟨wN.heap.size, 11, none⟩ = some (.int .i64 x.att.g) := RN.out.cell 11; have q9_12 : wO.cell? ⟨wN.heap.size, 12, none⟩ = some (.int .i64 x.att.s) := RN.out.cell 12; have q5_1 : wO.cell? ⟨w.heap.size + 1, 1, none⟩ = some (.slice AV nV cV) := R5.out.cell 1; clear hbel) | (refine wpList_loadC rfl 61 (.tmp 28) rfl 7 att_agg att_size (wN.heap.size) 6 63 rfl (nodC x (.slice A1 n1 c1) (.slice C1 m1 d1)) (attC x.att) RN.out rfl rfl ?_) | (go_at_call 74; refine (RHas2_b hatt.1 hatt.2 HHR.out wO).mono ?_; rintro e7 wH ⟨rfl, hbel⟩; clear q4_4 q9_0 q9_1 q9_2 q9_3 q9_4 q9_5 q9_6 q9_7 q9_8 q9_9 q9_10 q9_11 q9_12 q5_1; replace HB := hide (HB.out.trans (hbel.mono HB.out.size)); replace R4 := hide (R4.out.on hbel); replace R5 := hide (R5.out.on hbel); replace HU := hide (HU.out.under hbel (by omega)); replace HL := hide (HL.out.under hbel (by omega)); replace HV := hide (HV.out.under hbel (by omega)); replace RN := hide (RN.out.on hbel); have hsz8 := hbel.size; have q4_4 : wH.cell? ⟨w.heap.size, 4, none⟩ = some (.slice AU nU cU) := R4.out.cell 4; have q9_0 : wH.cell? ⟨wN.heap.size, 0, none⟩ = some (.int .i64 x.k) := RN.out.cell 0; have q9_1 : wH.cell? ⟨wN.heap.size, 1, none⟩ = some (.int .i64 x.p) := RN.out.cell 1; have q9_2 : wH.cell? ⟨wN.heap.size, 2, none⟩ = some (.int .i64 x.n) := RN.out.cell 2; have q9_3 : wH.cell? ⟨wN.heap.size, 3, none⟩ = some (.int .i64 x.g) := RN.out.cell 3; have q9_4 : wH.cell? ⟨wN.heap.size, 4, none⟩ = some (.slice A1 n1 c1) := RN.out.cell 4; have q9_5 : wH.cell? ⟨wN.heap.size, 5, none⟩ = some (.slice C1 m1 d1) := RN.out.cell 5; have q9_6 : wH.cell? ⟨wN.heap.size, 6, none⟩ = some (.int .i64 x.att.h) := RN.out.cell 6; have q9_7 : wH.cell? ⟨wN.heap.size, 7, none⟩ = some (.int .i64 x.att.o) := RN.out.cell 7; have q9_8 : wH.cell? ⟨wN.heap.size, 8, none⟩ = some (.string ⟨x.att.r.toArray⟩) := RN.out.cell 8; have q9_9 : wH.cell? ⟨wN.heap.size, 9, none⟩ = some (.int .i64 x.att.l) := RN.out.cell 9; have q9_10 : wH.cell? ⟨wN.heap.size, 10, none⟩ = some (.int .i64 x.att.i) := RN.out.cell 10; have q9_11 : wH.cell? ⟨wN.heap.size, 11, none⟩ = some (.int .i64 x.att.g) := RN.out.cell 11; have q9_12 : wH.cell? ⟨wN.heap.size, 12, none⟩ = some (.int .i64 x.att.s) := RN.out.cell 12; have q5_1 : wH.cell? ⟨w.heap.size + 1, 1, none⟩ = some (.slice AV nV cV) := R5.out.cell 1; clear hbel) | (go_at_call 75; refine (RRed_e HRL.out HRA.out HRB.out wH).mono ?_; rintro e9 wP ⟨A6, n6, c6, rfl, h6, hbel⟩; replace h6 := h6.rd; clear q4_4 q9_0 q9_1 q9_2 q9_3 q9_4 q9_5 q9_6 q9_7 q9_8 q9_9 q9_10 q9_11 q9_12 q5_1; replace HB := hide (HB.out.trans (hbel.mono HB.out.size)); replace R4 := hide (R4.out.on hbel); replace R5 := hide (R5.out.on hbel); replace HU := hide (HU.out.under hbel (by omega)); replace HL := hide (HL.out.under hbel (by omega)); replace HV := hide (HV.out.under hbel (by omega)); replace RN := hide (RN.out.on hbel); have hsz10 := hbel.size; have q4_4 : wP.cell? ⟨w.heap.size, 4, none⟩ = some (.slice AU nU cU) := R4.out.cell 4; have q9_0 : wP.cell? ⟨wN.heap.size, 0, none⟩ = some (.int .i64 x.k) := RN.out.cell 0; have q9_1 : wP.cell? ⟨wN.heap.size, 1, none⟩ = some (.int .i64 x.p) := RN.out.cell 1; have q9_2 : wP.cell? ⟨wN.heap.size, 2, none⟩ = some (.int .i64 x.n) := RN.out.cell 2; have q9_3 : wP.cell? ⟨wN.heap.size, 3, none⟩ = some (.int .i64 x.g) := RN.out.cell 3; have q9_4 : wP.cell? ⟨wN.heap.size, 4, none⟩ = some (.slice A1 n1 c1) := RN.out.cell 4; have q9_5 : wP.cell? ⟨wN.heap.size, 5, none⟩ = some (.slice C1 m1 d1) := RN.out.cell 5; have q9_6 : wP.cell? ⟨wN.heap.size, 6, none⟩ = some (.int .i64 x.att.h) := RN.out.cell 6; have q9_7 : wP.cell? ⟨wN.heap.size, 7, none⟩ = some (.int .i64 x.att.o) := RN.out.cell 7; have q9_8 : wP.cell? ⟨wN.heap.size, 8, none⟩ = some (.string ⟨x.att.r.toArray⟩) := RN.out.cell 8; have q9_9 : wP.cell? ⟨wN.heap.size, 9, none⟩ = some (.int .i64 x.att.l) := RN.out.cell 9; have q9_10 : wP.cell? ⟨wN.heap.size, 10, none⟩ = some (.int .i64 x.att.i) := RN.out.cell 10; have q9_11 : wP.cell? ⟨wN.heap.size, 11, none⟩ = some (.int .i64 x.att.g) := RN.out.cell 11; have q9_12 : wP.cell? ⟨wN.heap.size, 12, none⟩ = some (.int .i64 x.att.s) := RN.out.cell 12; have q5_1 : wP.cell? ⟨w.heap.size + 1, 1, none⟩ = some (.slice AV nV cV) := R5.out.cell 1; have HN := hide h6; clear h6; clear hbel))
   go_ret
   exact ⟨none, 0, rfl, RdE.none_ _ _ _ _, HB.out⟩
  ·have HRB := hide hb
   rw [if_pos rfl]
   cases ha : redA x.att.r
   ·have HRA := hide ha
    rw [if_neg (by simp), hrl2]
    have hone := (red_one hb ha).symm.trans hrl2
    subst hone
    clear hb ha hrl2
    obtain ⟨R, hR⟩ : ∃ R, findL ls x.att.r vl [] = R := ⟨_, rfl⟩
    have hbe : benV ls vl ([x.att.r].headD []) = if R.1 = 1 then R.2 else [] := by unfold benV; rw [show [x.att.r].headD [] = x.att.r from rfl, hR]
    rw [hbe]
    obtain ⟨K, L⟩ := R
    have HFI := hide hR
    clear hR hbe
    by_cases hk : K = 1
    ·have hk3 : (K != 1) = false := by simpa using hk
     rw [if_pos hk]
     clear hk
     go_enter Tryz.func21, Tryz.ntmps21
     go_wp2_with (first | (go_at_call 67; refine (At_e HX.out W1 HU.out (by omega) (by have := HFU.out.1; omega)).mono ?_; rintro e1 wN ⟨A1, n1, c1, C1, m1, d1, rfl, -, -, -, -, hbel⟩; clear q4_4 q5_1; replace HB := hide (HB.out.trans (hbel.mono HB.out.size)); replace R4 := hide (R4.out.on hbel); replace R5 := hide (R5.out.on hbel); replace HU := hide (HU.out.under hbel (by omega)); replace HL := hide (HL.out.under hbel (by omega)); replace HV := hide (HV.out.under hbel (by omega)); have hsz2 := hbel.size; have q4_4 : wN.cell? ⟨w.heap.size, 4, none⟩ = some (.slice AU nU cU) := R4.out.cell 4; have q5_1 : wN.cell? ⟨w.heap.size + 1, 1, none⟩ = some (.slice AV nV cV) := R5.out.cell 1; clear hbel) | (refine wpList_storeW rfl 63 (.tmp 9) (.tmp 20) rfl 13 nod_size (wN.heap.size) 63 rfl (nodC nod0 (.slice none 0 0) (.slice none 0 0)) (nodC x (.slice A1 n1 c1) (.slice C1 m1 d1)) rfl (RowL.new wN 63 (nodC nod0 (.slice none 0 0) (.slice none 0 0))) rfl rfl (nodC_one _ _ _ _ _ _ _) ?_; intro wS3 hr3 hg3 hs3; have hzb := below_stored' hg3; clear q4_4 q5_1; replace HB := hide (HB.out.trans (hzb.mono HB.out.size)); replace R4 := hide (R4.out.on hzb); replace R5 := hide (R5.out.on hzb); replace HU := hide (HU.out.under hzb (by omega)); replace HL := hide (HL.out.under hzb (by omega)); replace HV := hide (HV.out.under hzb (by omega)); have hsz4 := hzb.size; have q4_4 : wS3.cell? ⟨w.heap.size, 4, none⟩ = some (.slice AU nU cU) := R4.out.cell 4; have q5_1 : wS3.cell? ⟨w.heap.size + 1, 1, none⟩ = some (.slice AV nV cV) := R5.out.cell 1; have RN := hide hr3; have hlt3 := hr3.lt; have q9_0 : wS3.cell? ⟨wN.heap.size, 0, none⟩ = some (.int .i64 x.k) := RN.out.cell 0; have q9_1 : wS3.cell? ⟨wN.heap.size, 1, none⟩ = some (.int .i64 x.p) := RN.out.cell 1; have q9_2 : wS3.cell? ⟨wN.heap.size, 2, none⟩ = some (.int .i64 x.n) := RN.out.cell 2; have q9_3 : wS3.cell? ⟨wN.heap.size, 3, none⟩ = some (.int .i64 x.g) := RN.out.cell 3; have q9_4 : wS3.cell? ⟨wN.heap.size, 4, none⟩ = some (.slice A1 n1 c1) := RN.out.cell 4; have q9_5 : wS3.cell? ⟨wN.heap.size, 5, none⟩ = some (.slice C1 m1 d1) := RN.out.cell 5; have q9_6 : wS3.cell? ⟨wN.heap.size, 6, none⟩ = some (.int .i64 x.att.h) := RN.out.cell 6; have q9_7 : wS3.cell? ⟨wN.heap.size, 7, none⟩ = some (.int .i64 x.att.o) := RN.out.cell 7; have q9_8 : wS3.cell? ⟨wN.heap.size, 8, none⟩ = some (.string ⟨x.att.r.toArray⟩) := RN.out.cell 8; have q9_9 : wS3.cell? ⟨wN.heap.size, 9, none⟩ = some (.int .i64 x.att.l) := RN.out.cell 9; have q9_10 : wS3.cell? ⟨wN.heap.size, 10, none⟩ = some (.int .i64 x.att.i) := RN.out.cell 10; have q9_11 : wS3.cell? ⟨wN.heap.size, 11, none⟩ = some (.int .i64 x.att.g) := RN.out.cell 11; have q9_12 : wS3.cell? ⟨wN.heap.size, 12, none⟩ = some (.int .i64 x.att.s) := RN.out.cell 12; clear hzb hr3; clear hg3 hs3) | (go_at_call 31; refine (RVOpq_b HOP.out hatt.1 hatt.2 wS3).mono ?_; rintro e5 wO ⟨rfl, hbel⟩; clear q4_4 q9_0 q9_1 q9_2 q9_3 q9_4 q9_5 q9_6 q9_7 q9_8 q9_9 q9_10 q9_11 q9_12 q5_1; replace HB := hide (HB.out.trans (hbel.mono HB.out.size)); replace R4 := hide (R4.out.on hbel); replace R5 := hide (R5.out.on hbel); replace HU := hide (HU.out.under hbel (by omega)); replace HL := hide (HL.out.under hbel (by omega)); replace HV := hide (HV.out.under hbel (by omega)); replace RN := hide (RN.out.on hbel); have hsz6 := hbel.size; have q4_4 : wO.cell? ⟨w.heap.size, 4, none⟩ = some (.slice AU nU cU) := R4.out.cell 4; have q9_0 : wO.cell? ⟨wN.heap.size, 0, none⟩ = some (.int .i64 x.k) := RN.out.cell 0; have q9_1 : wO.cell? ⟨wN.heap.size, 1, none⟩ = some (.int .i64 x.p) := RN.out.cell 1; have q9_2 : wO.cell? ⟨wN.heap.size, 2, none⟩ = some (.int .i64 x.n) := RN.out.cell 2; have q9_3 : wO.cell? ⟨wN.heap.size, 3, none⟩ = some (.int .i64 x.g) := RN.out.cell 3; have q9_4 : wO.cell? ⟨wN.heap.size, 4, none⟩ = some (.slice A1 n1 c1) := RN.out.cell 4; have q9_5 : wO.cell? ⟨wN.heap.size, 5, none⟩ = some (.slice C1 m1 d1) := RN.out.cell 5; have q9_6 : wO.cell? ⟨wN.heap.size, 6, none⟩ = some (.int .i64 x.att.h) := RN.out.cell 6; have q9_7 : wO.cell? ⟨wN.heap.size, 7, none⟩ = some (.int .i64 x.att.o) := RN.out.cell 7; have q9_8 : wO.cell? ⟨wN.heap.size, 8, none⟩ = some (.string ⟨x.att.r.toArray⟩) := RN.out.cell 8; have q9_9 : wO.cell? ⟨wN.heap.size, 9, none⟩ = some (.int .i64 x.att.l) := RN.out.cell 9; have q9_10 : wO.cell? ⟨wN.heap.size, 10, none⟩ = some (.int .i64 x.att.i) := RN.out.cell 10; have q9_11 : wO.cell? ⟨wN.heap.size, 11, none⟩ = some (.int .i64 x.att.g) := RN.out.cell 11; have q9_12 : wO.cell? ⟨wN.heap.size, 12, none⟩ = some (.int .i64 x.att.s) := RN.out.cell 12; have q5_1 : wO.cell? ⟨w.heap.size + 1, 1, none⟩ = some (.slice AV nV cV) := R5.out.cell 1; clear hbel) | (refine wpList_loadC rfl 61 (.tmp 28) rfl 7 att_agg att_size (wN.heap.size) 6 63 rfl (nodC x (.slice A1 n1 c1) (.slice C1 m1 d1)) (attC x.att) RN.out rfl rfl ?_) | (go_at_call 74; refine (RHas2_b hatt.1 hatt.2 HHR.out wO).mono ?_; rintro e7 wH ⟨rfl, hbel⟩; clear q4_4 q9_0 q9_1 q9_2 q9_3 q9_4 q9_5 q9_6 q9_7 q9_8 q9_9 q9_10 q9_11 q9_12 q5_1; replace HB := hide (HB.out.trans (hbel.mono HB.out.size)); replace R4 := hide (R4.out.on hbel); replace R5 := hide (R5.out.on hbel); replace HU := hide (HU.out.under hbel (by omega)); replace HL := hide (HL.out.under hbel (by omega)); replace HV := hide (HV.out.under hbel (by omega)); replace RN := hide (RN.out.on hbel); have hsz8 := hbel.size; have q4_4 : wH.cell? ⟨w.heap.size, 4, none⟩ = some (.slice AU nU cU) := R4.out.cell 4; have q9_0 : wH.cell? ⟨wN.heap.size, 0, none⟩ = some (.int .i64 x.k) := RN.out.cell 0; have q9_1 : wH.cell? ⟨wN.heap.size, 1, none⟩ = some (.int .i64 x.p) := RN.out.cell 1; have q9_2 : wH.cell? ⟨wN.heap.size, 2, none⟩ = some (.int .i64 x.n) := RN.out.cell 2; have q9_3 : wH.cell? ⟨wN.heap.size, 3, none⟩ = some (.int .i64 x.g) := RN.out.cell 3; have q9_4 : wH.cell? ⟨wN.heap.size, 4, none⟩ = some (.slice A1 n1 c1) := RN.out.cell 4; have q9_5 : wH.cell? ⟨wN.heap.size, 5, none⟩ = some (.slice C1 m1 d1) := RN.out.cell 5; have q9_6 : wH.cell? ⟨wN.heap.size, 6, none⟩ = some (.int .i64 x.att.h) := RN.out.cell 6; have q9_7 : wH.cell? ⟨wN.heap.size, 7, none⟩ = some (.int .i64 x.att.o) := RN.out.cell 7; have q9_8 : wH.cell? ⟨wN.heap.size, 8, none⟩ = some (.string ⟨x.att.r.toArray⟩) := RN.out.cell 8; have q9_9 : wH.cell? ⟨wN.heap.size, 9, none⟩ = some (.int .i64 x.att.l) := RN.out.cell 9; have q9_10 : wH.cell? ⟨wN.heap.size, 10, none⟩ = some (.int .i64 x.att.i) := RN.out.cell 10; have q9_11 : wH.cell? ⟨wN.heap.size, 11, none⟩ = some (.int .i64 x.att.g) := RN.out.cell 11; have q9_12 : wH.cell? ⟨wN.heap.size, 12, none⟩ = some (.int .i64 x.att.s) := RN.out.cell 12; have q5_1 : wH.cell? ⟨w.heap.size + 1, 1, none⟩ = some (.slice AV nV cV) := R5.out.cell 1; clear hbel) | (go_at_call 75; refine (RRed_e HRL.out HRA.out HRB.out wH).mono ?_; rintro e9 wP ⟨A6, n6, c6, rfl, h6, hbel⟩; replace h6 := h6.rd; clear q4_4 q9_0 q9_1 q9_2 q9_3 q9_4 q9_5 q9_6 q9_7 q9_8 q9_9 q9_10 q9_11 q9_12 q5_1; replace HB := hide (HB.out.trans (hbel.mono HB.out.size)); replace R4 := hide (R4.out.on hbel); replace R5 := hide (R5.out.on hbel); replace HU := hide (HU.out.under hbel (by omega)); replace HL := hide (HL.out.under hbel (by omega)); replace HV := hide (HV.out.under hbel (by omega)); replace RN := hide (RN.out.on hbel); have hsz10 := hbel.size; have q4_4 : wP.cell? ⟨w.heap.size, 4, none⟩ = some (.slice AU nU cU) := R4.out.cell 4; have q9_0 : wP.cell? ⟨wN.heap.size, 0, none⟩ = some (.int .i64 x.k) := RN.out.cell 0; have q9_1 : wP.cell? ⟨wN.heap.size, 1, none⟩ = some (.int .i64 x.p) := RN.out.cell 1; have q9_2 : wP.cell? ⟨wN.heap.size, 2, none⟩ = some (.int .i64 x.n) := RN.out.cell 2; have q9_3 : wP.cell? ⟨wN.heap.size, 3, none⟩ = some (.int .i64 x.g) := RN.out.cell 3; have q9_4 : wP.cell? ⟨wN.heap.size, 4, none⟩ = some (.slice A1 n1 c1) := RN.out.cell 4; have q9_5 : wP.cell? ⟨wN.heap.size, 5, none⟩ = some (.slice C1 m1 d1) := RN.out.cell 5; have q9_6 : wP.cell? ⟨wN.heap.size, 6, none⟩ = some (.int .i64 x.att.h) := RN.out.cell 6; have q9_7 : wP.cell? ⟨wN.heap.size, 7, none⟩ = some (.int .i64 x.att.o) := RN.out.cell 7; have q9_8 : wP.cell? ⟨wN.heap.size, 8, none⟩ = some (.string ⟨x.att.r.toArray⟩) := RN.out.cell 8; have q9_9 : wP.cell? ⟨wN.heap.size, 9, none⟩ = some (.int .i64 x.att.l) := RN.out.cell 9; have q9_10 : wP.cell? ⟨wN.heap.size, 10, none⟩ = some (.int .i64 x.att.i) := RN.out.cell 10; have q9_11 : wP.cell? ⟨wN.heap.size, 11, none⟩ = some (.int .i64 x.att.g) := RN.out.cell 11; have q9_12 : wP.cell? ⟨wN.heap.size, 12, none⟩ = some (.int .i64 x.att.s) := RN.out.cell 12; have q5_1 : wP.cell? ⟨w.heap.size + 1, 1, none⟩ = some (.slice AV nV cV) := R5.out.cell 1; have HN := hide h6; clear h6; obtain ⟨bS, oS, rfl, hbS, hcS⟩ := HN.out.2 (by have := HN.out.len; simp at this; omega); have hqS : wP.cell? ⟨bS, oS, none⟩ = some (.string ⟨x.att.r.toArray⟩) := hcS 0 _ rfl; have hn6 : 0 < n6 := (by have := HN.out.len; simp at this; omega); have hn6' : (0 : Int) < (n6 : Int) := (by omega); clear hcS; clear hbel) | (refine wpList_loadW rfl 29 (.tmp 4) rfl 6 stk_agg stk_size (w.heap.size) 29 rfl (stkC g (.slice AU nU cU) (.slice AL nL cL)) R4.out rfl ?_) | (go_at_call 68; refine (RFind_ev HFI.out wP HL.out (und_up HV.out (by omega)) (by omega) HF.out hnV).mono ?_; rintro e11 wB ⟨A3, c3, rfl, -, h3, hbel⟩; clear q4_4 q9_0 q9_1 q9_2 q9_3 q9_4 q9_5 q9_6 q9_7 q9_8 q9_9 q9_10 q9_11 q9_12 q5_1; replace HB := hide (HB.out.trans (hbel.mono HB.out.size)); replace R4 := hide (R4.out.on hbel); replace R5 := hide (R5.out.on hbel); replace HU := hide (HU.out.under hbel (by omega)); replace HL := hide (HL.out.under hbel (by omega)); replace HV := hide (HV.out.under hbel (by omega)); replace RN := hide (RN.out.on hbel); replace HN := hide (HN.out.on hbel); have hsz12 := hbel.size; have q4_4 : wB.cell? ⟨w.heap.size, 4, none⟩ = some (.slice AU nU cU) := R4.out.cell 4; have q9_0 : wB.cell? ⟨wN.heap.size, 0, none⟩ = some (.int .i64 x.k) := RN.out.cell 0; have q9_1 : wB.cell? ⟨wN.heap.size, 1, none⟩ = some (.int .i64 x.p) := RN.out.cell 1; have q9_2 : wB.cell? ⟨wN.heap.size, 2, none⟩ = some (.int .i64 x.n) := RN.out.cell 2; have q9_3 : wB.cell? ⟨wN.heap.size, 3, none⟩ = some (.int .i64 x.g) := RN.out.cell 3; have q9_4 : wB.cell? ⟨wN.heap.size, 4, none⟩ = some (.slice A1 n1 c1) := RN.out.cell 4; have q9_5 : wB.cell? ⟨wN.heap.size, 5, none⟩ = some (.slice C1 m1 d1) := RN.out.cell 5; have q9_6 : wB.cell? ⟨wN.heap.size, 6, none⟩ = some (.int .i64 x.att.h) := RN.out.cell 6; have q9_7 : wB.cell? ⟨wN.heap.size, 7, none⟩ = some (.int .i64 x.att.o) := RN.out.cell 7; have q9_8 : wB.cell? ⟨wN.heap.size, 8, none⟩ = some (.string ⟨x.att.r.toArray⟩) := RN.out.cell 8; have q9_9 : wB.cell? ⟨wN.heap.size, 9, none⟩ = some (.int .i64 x.att.l) := RN.out.cell 9; have q9_10 : wB.cell? ⟨wN.heap.size, 10, none⟩ = some (.int .i64 x.att.i) := RN.out.cell 10; have q9_11 : wB.cell? ⟨wN.heap.size, 11, none⟩ = some (.int .i64 x.att.g) := RN.out.cell 11; have q9_12 : wB.cell? ⟨wN.heap.size, 12, none⟩ = some (.int .i64 x.att.s) := RN.out.cell 12; have q5_1 : wB.cell? ⟨w.heap.size + 1, 1, none⟩ = some (.slice AV nV cV) := R5.out.cell 1; have H3 := hide h3; clear h3; clear hbel))
     go_ret
     exact ⟨A3, c3, rfl, fr_low H3.out (by omega), HB.out⟩
    ·have hk3 : (K != 1) = true := by simpa using hk
     rw [if_neg hk]
     clear hk
     go_enter Tryz.func21, Tryz.ntmps21
     go_wp2_with (first | (go_at_call 67; refine (At_e HX.out W1 HU.out (by omega) (by have := HFU.out.1; omega)).mono ?_; rintro e1 wN ⟨A1, n1, c1, C1, m1, d1, rfl, -, -, -, -, hbel⟩; clear q4_4 q5_1; replace HB := hide (HB.out.trans (hbel.mono HB.out.size)); replace R4 := hide (R4.out.on hbel); replace R5 := hide (R5.out.on hbel); replace HU := hide (HU.out.under hbel (by omega)); replace HL := hide (HL.out.under hbel (by omega)); replace HV := hide (HV.out.under hbel (by omega)); have hsz2 := hbel.size; have q4_4 : wN.cell? ⟨w.heap.size, 4, none⟩ = some (.slice AU nU cU) := R4.out.cell 4; have q5_1 : wN.cell? ⟨w.heap.size + 1, 1, none⟩ = some (.slice AV nV cV) := R5.out.cell 1; clear hbel) | (refine wpList_storeW rfl 63 (.tmp 9) (.tmp 20) rfl 13 nod_size (wN.heap.size) 63 rfl (nodC nod0 (.slice none 0 0) (.slice none 0 0)) (nodC x (.slice A1 n1 c1) (.slice C1 m1 d1)) rfl (RowL.new wN 63 (nodC nod0 (.slice none 0 0) (.slice none 0 0))) rfl rfl (nodC_one _ _ _ _ _ _ _) ?_; intro wS3 hr3 hg3 hs3; have hzb := below_stored' hg3; clear q4_4 q5_1; replace HB := hide (HB.out.trans (hzb.mono HB.out.size)); replace R4 := hide (R4.out.on hzb); replace R5 := hide (R5.out.on hzb); replace HU := hide (HU.out.under hzb (by omega)); replace HL := hide (HL.out.under hzb (by omega)); replace HV := hide (HV.out.under hzb (by omega)); have hsz4 := hzb.size; have q4_4 : wS3.cell? ⟨w.heap.size, 4, none⟩ = some (.slice AU nU cU) := R4.out.cell 4; have q5_1 : wS3.cell? ⟨w.heap.size + 1, 1, none⟩ = some (.slice AV nV cV) := R5.out.cell 1; have RN := hide hr3; have hlt3 := hr3.lt; have q9_0 : wS3.cell? ⟨wN.heap.size, 0, none⟩ = some (.int .i64 x.k) := RN.out.cell 0; have q9_1 : wS3.cell? ⟨wN.heap.size, 1, none⟩ = some (.int .i64 x.p) := RN.out.cell 1; have q9_2 : wS3.cell? ⟨wN.heap.size, 2, none⟩ = some (.int .i64 x.n) := RN.out.cell 2; have q9_3 : wS3.cell? ⟨wN.heap.size, 3, none⟩ = some (.int .i64 x.g) := RN.out.cell 3; have q9_4 : wS3.cell? ⟨wN.heap.size, 4, none⟩ = some (.slice A1 n1 c1) := RN.out.cell 4; have q9_5 : wS3.cell? ⟨wN.heap.size, 5, none⟩ = some (.slice C1 m1 d1) := RN.out.cell 5; have q9_6 : wS3.cell? ⟨wN.heap.size, 6, none⟩ = some (.int .i64 x.att.h) := RN.out.cell 6; have q9_7 : wS3.cell? ⟨wN.heap.size, 7, none⟩ = some (.int .i64 x.att.o) := RN.out.cell 7; have q9_8 : wS3.cell? ⟨wN.heap.size, 8, none⟩ = some (.string ⟨x.att.r.toArray⟩) := RN.out.cell 8; have q9_9 : wS3.cell? ⟨wN.heap.size, 9, none⟩ = some (.int .i64 x.att.l) := RN.out.cell 9; have q9_10 : wS3.cell? ⟨wN.heap.size, 10, none⟩ = some (.int .i64 x.att.i) := RN.out.cell 10; have q9_11 : wS3.cell? ⟨wN.heap.size, 11, none⟩ = some (.int .i64 x.att.g) := RN.out.cell 11; have q9_12 : wS3.cell? ⟨wN.heap.size, 12, none⟩ = some (.int .i64 x.att.s) := RN.out.cell 12; clear hzb hr3; clear hg3 hs3) | (go_at_call 31; refine (RVOpq_b HOP.out hatt.1 hatt.2 wS3).mono ?_; rintro e5 wO ⟨rfl, hbel⟩; clear q4_4 q9_0 q9_1 q9_2 q9_3 q9_4 q9_5 q9_6 q9_7 q9_8 q9_9 q9_10 q9_11 q9_12 q5_1; replace HB := hide (HB.out.trans (hbel.mono HB.out.size)); replace R4 := hide (R4.out.on hbel); replace R5 := hide (R5.out.on hbel); replace HU := hide (HU.out.under hbel (by omega)); replace HL := hide (HL.out.under hbel (by omega)); replace HV := hide (HV.out.under hbel (by omega)); replace RN := hide (RN.out.on hbel); have hsz6 := hbel.size; have q4_4 : wO.cell? ⟨w.heap.size, 4, none⟩ = some (.slice AU nU cU) := R4.out.cell 4; have q9_0 : wO.cell? ⟨wN.heap.size, 0, none⟩ = some (.int .i64 x.k) := RN.out.cell 0; have q9_1 : wO.cell? ⟨wN.heap.size, 1, none⟩ = some (.int .i64 x.p) := RN.out.cell 1; have q9_2 : wO.cell? ⟨wN.heap.size, 2, none⟩ = some (.int .i64 x.n) := RN.out.cell 2; have q9_3 : wO.cell? ⟨wN.heap.size, 3, none⟩ = some (.int .i64 x.g) := RN.out.cell 3; have q9_4 : wO.cell? ⟨wN.heap.size, 4, none⟩ = some (.slice A1 n1 c1) := RN.out.cell 4; have q9_5 : wO.cell? ⟨wN.heap.size, 5, none⟩ = some (.slice C1 m1 d1) := RN.out.cell 5; have q9_6 : wO.cell? ⟨wN.heap.size, 6, none⟩ = some (.int .i64 x.att.h) := RN.out.cell 6; have q9_7 : wO.cell? ⟨wN.heap.size, 7, none⟩ = some (.int .i64 x.att.o) := RN.out.cell 7; have q9_8 : wO.cell? ⟨wN.heap.size, 8, none⟩ = some (.string ⟨x.att.r.toArray⟩) := RN.out.cell 8; have q9_9 : wO.cell? ⟨wN.heap.size, 9, none⟩ = some (.int .i64 x.att.l) := RN.out.cell 9; have q9_10 : wO.cell? ⟨wN.heap.size, 10, none⟩ = some (.int .i64 x.att.i) := RN.out.cell 10; have q9_11 : wO.cell? ⟨wN.heap.size, 11, none⟩ = some (.int .i64 x.att.g) := RN.out.cell 11; have q9_12 : wO.cell? ⟨wN.heap.size, 12, none⟩ = some (.int .i64 x.att.s) := RN.out.cell 12; have q5_1 : wO.cell? ⟨w.heap.size + 1, 1, none⟩ = some (.slice AV nV cV) := R5.out.cell 1; clear hbel) | (refine wpList_loadC rfl 61 (.tmp 28) rfl 7 att_agg att_size (wN.heap.size) 6 63 rfl (nodC x (.slice A1 n1 c1) (.slice C1 m1 d1)) (attC x.att) RN.out rfl rfl ?_) | (go_at_call 74; refine (RHas2_b hatt.1 hatt.2 HHR.out wO).mono ?_; rintro e7 wH ⟨rfl, hbel⟩; clear q4_4 q9_0 q9_1 q9_2 q9_3 q9_4 q9_5 q9_6 q9_7 q9_8 q9_9 q9_10 q9_11 q9_12 q5_1; replace HB := hide (HB.out.trans (hbel.mono HB.out.size)); replace R4 := hide (R4.out.on hbel); replace R5 := hide (R5.out.on hbel); replace HU := hide (HU.out.under hbel (by omega)); replace HL := hide (HL.out.under hbel (by omega)); replace HV := hide (HV.out.under hbel (by omega)); replace RN := hide (RN.out.on hbel); have hsz8 := hbel.size; have q4_4 : wH.cell? ⟨w.heap.size, 4, none⟩ = some (.slice AU nU cU) := R4.out.cell 4; have q9_0 : wH.cell? ⟨wN.heap.size, 0, none⟩ = some (.int .i64 x.k) := RN.out.cell 0; have q9_1 : wH.cell? ⟨wN.heap.size, 1, none⟩ = some (.int .i64 x.p) := RN.out.cell 1; have q9_2 : wH.cell? ⟨wN.heap.size, 2, none⟩ = some (.int .i64 x.n) := RN.out.cell 2; have q9_3 : wH.cell? ⟨wN.heap.size, 3, none⟩ = some (.int .i64 x.g) := RN.out.cell 3; have q9_4 : wH.cell? ⟨wN.heap.size, 4, none⟩ = some (.slice A1 n1 c1) := RN.out.cell 4; have q9_5 : wH.cell? ⟨wN.heap.size, 5, none⟩ = some (.slice C1 m1 d1) := RN.out.cell 5; have q9_6 : wH.cell? ⟨wN.heap.size, 6, none⟩ = some (.int .i64 x.att.h) := RN.out.cell 6; have q9_7 : wH.cell? ⟨wN.heap.size, 7, none⟩ = some (.int .i64 x.att.o) := RN.out.cell 7; have q9_8 : wH.cell? ⟨wN.heap.size, 8, none⟩ = some (.string ⟨x.att.r.toArray⟩) := RN.out.cell 8; have q9_9 : wH.cell? ⟨wN.heap.size, 9, none⟩ = some (.int .i64 x.att.l) := RN.out.cell 9; have q9_10 : wH.cell? ⟨wN.heap.size, 10, none⟩ = some (.int .i64 x.att.i) := RN.out.cell 10; have q9_11 : wH.cell? ⟨wN.heap.size, 11, none⟩ = some (.int .i64 x.att.g) := RN.out.cell 11; have q9_12 : wH.cell? ⟨wN.heap.size, 12, none⟩ = some (.int .i64 x.att.s) := RN.out.cell 12; have q5_1 : wH.cell? ⟨w.heap.size + 1, 1, none⟩ = some (.slice AV nV cV) := R5.out.cell 1; clear hbel) | (go_at_call 75; refine (RRed_e HRL.out HRA.out HRB.out wH).mono ?_; rintro e9 wP ⟨A6, n6, c6, rfl, h6, hbel⟩; replace h6 := h6.rd; clear q4_4 q9_0 q9_1 q9_2 q9_3 q9_4 q9_5 q9_6 q9_7 q9_8 q9_9 q9_10 q9_11 q9_12 q5_1; replace HB := hide (HB.out.trans (hbel.mono HB.out.size)); replace R4 := hide (R4.out.on hbel); replace R5 := hide (R5.out.on hbel); replace HU := hide (HU.out.under hbel (by omega)); replace HL := hide (HL.out.under hbel (by omega)); replace HV := hide (HV.out.under hbel (by omega)); replace RN := hide (RN.out.on hbel); have hsz10 := hbel.size; have q4_4 : wP.cell? ⟨w.heap.size, 4, none⟩ = some (.slice AU nU cU) := R4.out.cell 4; have q9_0 : wP.cell? ⟨wN.heap.size, 0, none⟩ = some (.int .i64 x.k) := RN.out.cell 0; have q9_1 : wP.cell? ⟨wN.heap.size, 1, none⟩ = some (.int .i64 x.p) := RN.out.cell 1; have q9_2 : wP.cell? ⟨wN.heap.size, 2, none⟩ = some (.int .i64 x.n) := RN.out.cell 2; have q9_3 : wP.cell? ⟨wN.heap.size, 3, none⟩ = some (.int .i64 x.g) := RN.out.cell 3; have q9_4 : wP.cell? ⟨wN.heap.size, 4, none⟩ = some (.slice A1 n1 c1) := RN.out.cell 4; have q9_5 : wP.cell? ⟨wN.heap.size, 5, none⟩ = some (.slice C1 m1 d1) := RN.out.cell 5; have q9_6 : wP.cell? ⟨wN.heap.size, 6, none⟩ = some (.int .i64 x.att.h) := RN.out.cell 6; have q9_7 : wP.cell? ⟨wN.heap.size, 7, none⟩ = some (.int .i64 x.att.o) := RN.out.cell 7; have q9_8 : wP.cell? ⟨wN.heap.size, 8, none⟩ = some (.string ⟨x.att.r.toArray⟩) := RN.out.cell 8; have q9_9 : wP.cell? ⟨wN.heap.size, 9, none⟩ = some (.int .i64 x.att.l) := RN.out.cell 9; have q9_10 : wP.cell? ⟨wN.heap.size, 10, none⟩ = some (.int .i64 x.att.i) := RN.out.cell 10; have q9_11 : wP.cell? ⟨wN.heap.size, 11, none⟩ = some (.int .i64 x.att.g) := RN.out.cell 11; have q9_12 : wP.cell? ⟨wN.heap.size, 12, none⟩ = some (.int .i64 x.att.s) := RN.out.cell 12; have q5_1 : wP.cell? ⟨w.heap.size + 1, 1, none⟩ = some (.slice AV nV cV) := R5.out.cell 1; have HN := hide h6; clear h6; obtain ⟨bS, oS, rfl, hbS, hcS⟩ := HN.out.2 (by have := HN.out.len; simp at this; omega); have hqS : wP.cell? ⟨bS, oS, none⟩ = some (.string ⟨x.att.r.toArray⟩) := hcS 0 _ rfl; have hn6 : 0 < n6 := (by have := HN.out.len; simp at this; omega); have hn6' : (0 : Int) < (n6 : Int) := (by omega); clear hcS; clear hbel) | (refine wpList_loadW rfl 29 (.tmp 4) rfl 6 stk_agg stk_size (w.heap.size) 29 rfl (stkC g (.slice AU nU cU) (.slice AL nL cL)) R4.out rfl ?_) | (go_at_call 68; refine (RFind_ev HFI.out wP HL.out (und_up HV.out (by omega)) (by omega) HF.out hnV).mono ?_; rintro e11 wB ⟨A3, c3, rfl, -, h3, hbel⟩; clear q4_4 q9_0 q9_1 q9_2 q9_3 q9_4 q9_5 q9_6 q9_7 q9_8 q9_9 q9_10 q9_11 q9_12 q5_1; replace HB := hide (HB.out.trans (hbel.mono HB.out.size)); replace R4 := hide (R4.out.on hbel); replace R5 := hide (R5.out.on hbel); replace HU := hide (HU.out.under hbel (by omega)); replace HL := hide (HL.out.under hbel (by omega)); replace HV := hide (HV.out.under hbel (by omega)); replace RN := hide (RN.out.on hbel); replace HN := hide (HN.out.on hbel); have hsz12 := hbel.size; have q4_4 : wB.cell? ⟨w.heap.size, 4, none⟩ = some (.slice AU nU cU) := R4.out.cell 4; have q9_0 : wB.cell? ⟨wN.heap.size, 0, none⟩ = some (.int .i64 x.k) := RN.out.cell 0; have q9_1 : wB.cell? ⟨wN.heap.size, 1, none⟩ = some (.int .i64 x.p) := RN.out.cell 1; have q9_2 : wB.cell? ⟨wN.heap.size, 2, none⟩ = some (.int .i64 x.n) := RN.out.cell 2; have q9_3 : wB.cell? ⟨wN.heap.size, 3, none⟩ = some (.int .i64 x.g) := RN.out.cell 3; have q9_4 : wB.cell? ⟨wN.heap.size, 4, none⟩ = some (.slice A1 n1 c1) := RN.out.cell 4; have q9_5 : wB.cell? ⟨wN.heap.size, 5, none⟩ = some (.slice C1 m1 d1) := RN.out.cell 5; have q9_6 : wB.cell? ⟨wN.heap.size, 6, none⟩ = some (.int .i64 x.att.h) := RN.out.cell 6; have q9_7 : wB.cell? ⟨wN.heap.size, 7, none⟩ = some (.int .i64 x.att.o) := RN.out.cell 7; have q9_8 : wB.cell? ⟨wN.heap.size, 8, none⟩ = some (.string ⟨x.att.r.toArray⟩) := RN.out.cell 8; have q9_9 : wB.cell? ⟨wN.heap.size, 9, none⟩ = some (.int .i64 x.att.l) := RN.out.cell 9; have q9_10 : wB.cell? ⟨wN.heap.size, 10, none⟩ = some (.int .i64 x.att.i) := RN.out.cell 10; have q9_11 : wB.cell? ⟨wN.heap.size, 11, none⟩ = some (.int .i64 x.att.g) := RN.out.cell 11; have q9_12 : wB.cell? ⟨wN.heap.size, 12, none⟩ = some (.int .i64 x.att.s) := RN.out.cell 12; have q5_1 : wB.cell? ⟨w.heap.size + 1, 1, none⟩ = some (.slice AV nV cV) := R5.out.cell 1; have H3 := hide h3; clear h3; clear hbel))
     go_ret
     exact ⟨none, 0, rfl, RdE.none_ _ _ _ _, HB.out⟩
   ·have HRA := hide ha
    rw [if_pos rfl, hrl2]
    clear hb ha hrl2
    go_enter Tryz.func21, Tryz.ntmps21
    go_wp2_with (first | (go_at_call 67; refine (At_e HX.out W1 HU.out (by omega) (by have := HFU.out.1; omega)).mono ?_; rintro e1 wN ⟨A1, n1, c1, C1, m1, d1, rfl, -, -, -, -, hbel⟩; clear q4_4 q5_1; replace HB := hide (HB.out.trans (hbel.mono HB.out.size)); replace R4 := hide (R4.out.on hbel); replace R5 := hide (R5.out.on hbel); replace HU := hide (HU.out.under hbel (by omega)); replace HL := hide (HL.out.under hbel (by omega)); replace HV := hide (HV.out.under hbel (by omega)); have hsz2 := hbel.size; have q4_4 : wN.cell? ⟨w.heap.size, 4, none⟩ = some (.slice AU nU cU) := R4.out.cell 4; have q5_1 : wN.cell? ⟨w.heap.size + 1, 1, none⟩ = some (.slice AV nV cV) := R5.out.cell 1; clear hbel) | (refine wpList_storeW rfl 63 (.tmp 9) (.tmp 20) rfl 13 nod_size (wN.heap.size) 63 rfl (nodC nod0 (.slice none 0 0) (.slice none 0 0)) (nodC x (.slice A1 n1 c1) (.slice C1 m1 d1)) rfl (RowL.new wN 63 (nodC nod0 (.slice none 0 0) (.slice none 0 0))) rfl rfl (nodC_one _ _ _ _ _ _ _) ?_; intro wS3 hr3 hg3 hs3; have hzb := below_stored' hg3; clear q4_4 q5_1; replace HB := hide (HB.out.trans (hzb.mono HB.out.size)); replace R4 := hide (R4.out.on hzb); replace R5 := hide (R5.out.on hzb); replace HU := hide (HU.out.under hzb (by omega)); replace HL := hide (HL.out.under hzb (by omega)); replace HV := hide (HV.out.under hzb (by omega)); have hsz4 := hzb.size; have q4_4 : wS3.cell? ⟨w.heap.size, 4, none⟩ = some (.slice AU nU cU) := R4.out.cell 4; have q5_1 : wS3.cell? ⟨w.heap.size + 1, 1, none⟩ = some (.slice AV nV cV) := R5.out.cell 1; have RN := hide hr3; have hlt3 := hr3.lt; have q9_0 : wS3.cell? ⟨wN.heap.size, 0, none⟩ = some (.int .i64 x.k) := RN.out.cell 0; have q9_1 : wS3.cell? ⟨wN.heap.size, 1, none⟩ = some (.int .i64 x.p) := RN.out.cell 1; have q9_2 : wS3.cell? ⟨wN.heap.size, 2, none⟩ = some (.int .i64 x.n) := RN.out.cell 2; have q9_3 : wS3.cell? ⟨wN.heap.size, 3, none⟩ = some (.int .i64 x.g) := RN.out.cell 3; have q9_4 : wS3.cell? ⟨wN.heap.size, 4, none⟩ = some (.slice A1 n1 c1) := RN.out.cell 4; have q9_5 : wS3.cell? ⟨wN.heap.size, 5, none⟩ = some (.slice C1 m1 d1) := RN.out.cell 5; have q9_6 : wS3.cell? ⟨wN.heap.size, 6, none⟩ = some (.int .i64 x.att.h) := RN.out.cell 6; have q9_7 : wS3.cell? ⟨wN.heap.size, 7, none⟩ = some (.int .i64 x.att.o) := RN.out.cell 7; have q9_8 : wS3.cell? ⟨wN.heap.size, 8, none⟩ = some (.string ⟨x.att.r.toArray⟩) := RN.out.cell 8; have q9_9 : wS3.cell? ⟨wN.heap.size, 9, none⟩ = some (.int .i64 x.att.l) := RN.out.cell 9; have q9_10 : wS3.cell? ⟨wN.heap.size, 10, none⟩ = some (.int .i64 x.att.i) := RN.out.cell 10; have q9_11 : wS3.cell? ⟨wN.heap.size, 11, none⟩ = some (.int .i64 x.att.g) := RN.out.cell 11; have q9_12 : wS3.cell? ⟨wN.heap.size, 12, none⟩ = some (.int .i64 x.att.s) := RN.out.cell 12; clear hzb hr3; clear hg3 hs3) | (go_at_call 31; refine (RVOpq_b HOP.out hatt.1 hatt.2 wS3).mono ?_; rintro e5 wO ⟨rfl, hbel⟩; clear q4_4 q9_0 q9_1 q9_2 q9_3 q9_4 q9_5 q9_6 q9_7 q9_8 q9_9 q9_10 q9_11 q9_12 q5_1; replace HB := hide (HB.out.trans (hbel.mono HB.out.size)); replace R4 := hide (R4.out.on hbel); replace R5 := hide (R5.out.on hbel); replace HU := hide (HU.out.under hbel (by omega)); replace HL := hide (HL.out.under hbel (by omega)); replace HV := hide (HV.out.under hbel (by omega)); replace RN := hide (RN.out.on hbel); have hsz6 := hbel.size; have q4_4 : wO.cell? ⟨w.heap.size, 4, none⟩ = some (.slice AU nU cU) := R4.out.cell 4; have q9_0 : wO.cell? ⟨wN.heap.size, 0, none⟩ = some (.int .i64 x.k) := RN.out.cell 0; have q9_1 : wO.cell? ⟨wN.heap.size, 1, none⟩ = some (.int .i64 x.p) := RN.out.cell 1; have q9_2 : wO.cell? ⟨wN.heap.size, 2, none⟩ = some (.int .i64 x.n) := RN.out.cell 2; have q9_3 : wO.cell? ⟨wN.heap.size, 3, none⟩ = some (.int .i64 x.g) := RN.out.cell 3; have q9_4 : wO.cell? ⟨wN.heap.size, 4, none⟩ = some (.slice A1 n1 c1) := RN.out.cell 4; have q9_5 : wO.cell? ⟨wN.heap.size, 5, none⟩ = some (.slice C1 m1 d1) := RN.out.cell 5; have q9_6 : wO.cell? ⟨wN.heap.size, 6, none⟩ = some (.int .i64 x.att.h) := RN.out.cell 6; have q9_7 : wO.cell? ⟨wN.heap.size, 7, none⟩ = some (.int .i64 x.att.o) := RN.out.cell 7; have q9_8 : wO.cell? ⟨wN.heap.size, 8, none⟩ = some (.string ⟨x.att.r.toArray⟩) := RN.out.cell 8; have q9_9 : wO.cell? ⟨wN.heap.size, 9, none⟩ = some (.int .i64 x.att.l) := RN.out.cell 9; have q9_10 : wO.cell? ⟨wN.heap.size, 10, none⟩ = some (.int .i64 x.att.i) := RN.out.cell 10; have q9_11 : wO.cell? ⟨wN.heap.size, 11, none⟩ = some (.int .i64 x.att.g) := RN.out.cell 11; have q9_12 : wO.cell? ⟨wN.heap.size, 12, none⟩ = some (.int .i64 x.att.s) := RN.out.cell 12; have q5_1 : wO.cell? ⟨w.heap.size + 1, 1, none⟩ = some (.slice AV nV cV) := R5.out.cell 1; clear hbel) | (refine wpList_loadC rfl 61 (.tmp 28) rfl 7 att_agg att_size (wN.heap.size) 6 63 rfl (nodC x (.slice A1 n1 c1) (.slice C1 m1 d1)) (attC x.att) RN.out rfl rfl ?_) | (go_at_call 74; refine (RHas2_b hatt.1 hatt.2 HHR.out wO).mono ?_; rintro e7 wH ⟨rfl, hbel⟩; clear q4_4 q9_0 q9_1 q9_2 q9_3 q9_4 q9_5 q9_6 q9_7 q9_8 q9_9 q9_10 q9_11 q9_12 q5_1; replace HB := hide (HB.out.trans (hbel.mono HB.out.size)); replace R4 := hide (R4.out.on hbel); replace R5 := hide (R5.out.on hbel); replace HU := hide (HU.out.under hbel (by omega)); replace HL := hide (HL.out.under hbel (by omega)); replace HV := hide (HV.out.under hbel (by omega)); replace RN := hide (RN.out.on hbel); have hsz8 := hbel.size; have q4_4 : wH.cell? ⟨w.heap.size, 4, none⟩ = some (.slice AU nU cU) := R4.out.cell 4; have q9_0 : wH.cell? ⟨wN.heap.size, 0, none⟩ = some (.int .i64 x.k) := RN.out.cell 0; have q9_1 : wH.cell? ⟨wN.heap.size, 1, none⟩ = some (.int .i64 x.p) := RN.out.cell 1; have q9_2 : wH.cell? ⟨wN.heap.size, 2, none⟩ = some (.int .i64 x.n) := RN.out.cell 2; have q9_3 : wH.cell? ⟨wN.heap.size, 3, none⟩ = some (.int .i64 x.g) := RN.out.cell 3; have q9_4 : wH.cell? ⟨wN.heap.size, 4, none⟩ = some (.slice A1 n1 c1) := RN.out.cell 4; have q9_5 : wH.cell? ⟨wN.heap.size, 5, none⟩ = some (.slice C1 m1 d1) := RN.out.cell 5; have q9_6 : wH.cell? ⟨wN.heap.size, 6, none⟩ = some (.int .i64 x.att.h) := RN.out.cell 6; have q9_7 : wH.cell? ⟨wN.heap.size, 7, none⟩ = some (.int .i64 x.att.o) := RN.out.cell 7; have q9_8 : wH.cell? ⟨wN.heap.size, 8, none⟩ = some (.string ⟨x.att.r.toArray⟩) := RN.out.cell 8; have q9_9 : wH.cell? ⟨wN.heap.size, 9, none⟩ = some (.int .i64 x.att.l) := RN.out.cell 9; have q9_10 : wH.cell? ⟨wN.heap.size, 10, none⟩ = some (.int .i64 x.att.i) := RN.out.cell 10; have q9_11 : wH.cell? ⟨wN.heap.size, 11, none⟩ = some (.int .i64 x.att.g) := RN.out.cell 11; have q9_12 : wH.cell? ⟨wN.heap.size, 12, none⟩ = some (.int .i64 x.att.s) := RN.out.cell 12; have q5_1 : wH.cell? ⟨w.heap.size + 1, 1, none⟩ = some (.slice AV nV cV) := R5.out.cell 1; clear hbel) | (go_at_call 75; refine (RRed_e HRL.out HRA.out HRB.out wH).mono ?_; rintro e9 wP ⟨A6, n6, c6, rfl, h6, hbel⟩; replace h6 := h6.rd; clear q4_4 q9_0 q9_1 q9_2 q9_3 q9_4 q9_5 q9_6 q9_7 q9_8 q9_9 q9_10 q9_11 q9_12 q5_1; replace HB := hide (HB.out.trans (hbel.mono HB.out.size)); replace R4 := hide (R4.out.on hbel); replace R5 := hide (R5.out.on hbel); replace HU := hide (HU.out.under hbel (by omega)); replace HL := hide (HL.out.under hbel (by omega)); replace HV := hide (HV.out.under hbel (by omega)); replace RN := hide (RN.out.on hbel); have hsz10 := hbel.size; have q4_4 : wP.cell? ⟨w.heap.size, 4, none⟩ = some (.slice AU nU cU) := R4.out.cell 4; have q9_0 : wP.cell? ⟨wN.heap.size, 0, none⟩ = some (.int .i64 x.k) := RN.out.cell 0; have q9_1 : wP.cell? ⟨wN.heap.size, 1, none⟩ = some (.int .i64 x.p) := RN.out.cell 1; have q9_2 : wP.cell? ⟨wN.heap.size, 2, none⟩ = some (.int .i64 x.n) := RN.out.cell 2; have q9_3 : wP.cell? ⟨wN.heap.size, 3, none⟩ = some (.int .i64 x.g) := RN.out.cell 3; have q9_4 : wP.cell? ⟨wN.heap.size, 4, none⟩ = some (.slice A1 n1 c1) := RN.out.cell 4; have q9_5 : wP.cell? ⟨wN.heap.size, 5, none⟩ = some (.slice C1 m1 d1) := RN.out.cell 5; have q9_6 : wP.cell? ⟨wN.heap.size, 6, none⟩ = some (.int .i64 x.att.h) := RN.out.cell 6; have q9_7 : wP.cell? ⟨wN.heap.size, 7, none⟩ = some (.int .i64 x.att.o) := RN.out.cell 7; have q9_8 : wP.cell? ⟨wN.heap.size, 8, none⟩ = some (.string ⟨x.att.r.toArray⟩) := RN.out.cell 8; have q9_9 : wP.cell? ⟨wN.heap.size, 9, none⟩ = some (.int .i64 x.att.l) := RN.out.cell 9; have q9_10 : wP.cell? ⟨wN.heap.size, 10, none⟩ = some (.int .i64 x.att.i) := RN.out.cell 10; have q9_11 : wP.cell? ⟨wN.heap.size, 11, none⟩ = some (.int .i64 x.att.g) := RN.out.cell 11; have q9_12 : wP.cell? ⟨wN.heap.size, 12, none⟩ = some (.int .i64 x.att.s) := RN.out.cell 12; have q5_1 : wP.cell? ⟨w.heap.size + 1, 1, none⟩ = some (.slice AV nV cV) := R5.out.cell 1; have HN := hide h6; clear h6; clear hbel))
    refine wp_region_planN (fun w' => Below wP.heap.size wP w') [(0, true), (1, true), (3, true), (2, false), (4, false), (5, true), (6, true), (7, true), (8, true), (9, true)] (by kernel_rfl) (by kernel_rfl) (by kernel_rfl) (by kernel_rfl) rfl (fun _ _ _ _ _ h => h) (below_drew (below_self wP)) (fun hHeld => ?_)
    simp only [planOps, List.filterMap_cons, List.filterMap_nil, List.getElem?_toArray, List.getElem?_cons_succ, List.getElem?_cons_zero, Option.map_some]
    refine wpPlan_take (v := ?_) (by kernel_rfl) (fun wS hSw => ?_) ?_
    rotate_left
    ·refine execOp_load (x := .tmp 4) (k := 6) (g := w.heap.size) (off := 0) (cs := (stkC g (.slice AU nU cU) (.slice AL nL cL))) ?_ stk_agg stk_size ?_ (fun j v hv => by rw [Nat.zero_add]; exact ((R4.out.on hSw).cell j).trans hv) rfl <;> rfl
    (try simp only [Act.put, pu1, pu2, pu3])
    refine wpPlan_take (v := ?_) (by kernel_rfl) (fun wS hSw => ?_) ?_
    rotate_left
    ·refine execOp_load (x := .tmp 4) (k := 6) (g := w.heap.size) (off := 0) (cs := (stkC g (.slice AU nU cU) (.slice AL nL cL))) ?_ stk_agg stk_size ?_ (fun j v hv => by rw [Nat.zero_add]; exact ((R4.out.on hSw).cell j).trans hv) rfl <;> rfl
    (try simp only [Act.put, pu1, pu2, pu3])
    refine wpPlan_take (v := ?_) (by kernel_rfl) (fun wS hSw => ?_) ?_
    rotate_left
    ·(try dsimp only at hSw); go_simp; (try with_reducible rfl)
    (try simp only [Act.put, pu1, pu2, pu3])
    refine wpPlan_call (by kernel_rfl) (fun K hK => ?_)
    have hOld := hide hHeld
    clear hHeld
    go_simp
    go_at_call 72
    refine (RRoots_f _ (und_up (HL.out.under hOld.out (by omega)) (by have := hOld.out.size; omega)) HF.out).mono ?_
    rintro e w' ⟨A8, c8, rfl, h8, hbel⟩
    have H8 := hide (fr_low h8 (lo' := w.heap.size) (by have := hOld.out.size; omega))
    clear h8
    refine hK.out _ _ (hOld.out.trans (hbel.mono hOld.out.size)) (fun hHeld => ?_)
    clear hK K
    (try simp only [Act.put, pu1, pu2, pu3])
    refine wpPlan_call (by kernel_rfl) (fun K hK => ?_)
    have hOld := hide hHeld
    clear hHeld
    go_simp
    go_at_call 76
    refine (RLook_f (B := B) (lo := w.heap.size) _ (HL.out.under hOld.out (by omega)) (by have := hOld.out.size; omega) H8.out (HN.out.on hOld.out) (by have := hOld.out.size; omega) HF.out (roots_few HF.out) (by have := HN.out.len; omega)).mono ?_
    rintro e w' ⟨A9, n9, c9, rfl, h9, hbel⟩
    obtain rfl : n9 = _ := h9.1.symm
    have H9 := hide h9
    clear h9
    refine hK.out _ _ (hOld.out.trans (hbel.mono hOld.out.size)) (fun hHeld => ?_)
    clear hK K
    (try simp only [Act.put, pu1, pu2, pu3])
    iterate 5
     refine wpPlan_take (v := ?_) (by kernel_rfl) (fun wS hSw => ?_) ?_
     rotate_left
     ·(try dsimp only at hSw); go_simp; (try with_reducible rfl)
     (try simp only [Act.put, pu1, pu2, pu3])
    refine wpPlan_end ?_
    have HBX := hide (HB.out.trans (hHeld.mono HB.out.size))
    clear hHeld
    go_wp2_with fail
    go_ret
    exact ⟨A9, c9, rfl, H9.out, HBX.out⟩
theorem RVPart_e {g : GeoQ} {AU AL : Option Addr} {nU cU nL cL B : Nat} {up : List NodV} {ls : List (List NodV)} {u : Int} {AV : Option Addr} {nV cV BV : Nat} {vl : List (Int × Int)} {i : Int} {nm : List UInt8} {P : List (Int × Int)} (hP : partV up ls vl i nm = P) (w : World) (hu : RdE nodEn w (Under B) AU nU up) (h : RdE layEn w (Under B) AL nL ls) (hB : B ≤ w.heap.size) (hF : FewL ls) (hup : FewU up) (hv : RdE prEn w (Under BV) AV nV vl) (hBV : BV ≤ w.heap.size) (hnV : nV ≤ 1000) : Calls Tryz.prog 21 #[.agg (stkC g (.slice AU nU cU) (.slice AL nL cL)).toArray, .agg (viwC u (.slice AV nV cV)).toArray, .int .i64 i, .string ⟨nm.toArray⟩] w (PlcsF w P) := by rw [← hP]; exact RVPart_any w hu h hB hF hup hv hBV hnV
end Go.Proofs.YtabhgoekpbmdlaaGreat

