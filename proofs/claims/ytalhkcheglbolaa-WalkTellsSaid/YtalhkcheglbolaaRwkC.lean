/- The law WalkTells: its walk (layer 13). -/
import Derived.Test.YtalhkcheglbolaaRwkB
namespace Go.Proofs.Ytalhkcheglbolaa
open Go.RowKit Go.Shelf Plain

theorem EqB_same {A B : Option Addr} {n m c d W1 W2 : Nat} {l : List Bool} (w : World) (ha : Rd Value.bool w W1 A n l) (hb : Rd Value.bool w W2 B m l) (hn : n ≤ 140737488355328) : Calls Try.prog 15 #[.slice A n c, .slice B m d] w (BoolB w true) := by
  have h := EqualB_any (c := c) (d := d) w ha hb hn
  rwa [show (l == l) = true from by simp] at h
theorem EqS_same {A B : Option Addr} {n m c d W1 W2 : Nat} {l : List (List UInt8)} (w : World) (ha : Rd st w W1 A n l) (hb : Rd st w W2 B m l) (hn : n ≤ 140737488355328) : Calls Try.prog 18 #[.slice A n c, .slice B m d] w (BRt w true) := by
  have h := EqualS_any (c := c) (d := d) w ha hb hn
  rwa [show (l == l) = true from by simp] at h
set_option maxRecDepth 100000 in
set_option maxHeartbeats 16000000 in
theorem law_WalkTells {A F : Option Addr} {n c k d : Nat} {ns : List NodV} {ff : List Int} (i : Int) (w : World) (h : RdE nodEn w (Under w.heap.size) A n ns) (hf : RdE Enc.int w (Under w.heap.size) F k ff) (hfine : ∀ x ∈ ns, x.ents.length ≤ 9223372036854775807) :
    Calls Try.prog 3 #[.agg #[.slice A n c], .slice F k d, .int .i64 i] w (LawOk w) := by
  have r := RowL.new w 24 [.slice A n c]
  have hb1 := below_new (below_self w) (.cells [Value.slice A n c].toArray 24)
  obtain ⟨W1, hW1⟩ : ∃ W1, w.alloc (.cells [Value.slice A n c].toArray 24) = W1 := ⟨_, rfl⟩
  have H0 := h.on hb1
  have F0 := hf.on hb1
  have HLN := hide h.1
  rw [hW1] at r hb1 H0 F0
  have hW1' : w.alloc (.cells #[.slice A n c] 24) = W1 := hW1
  have q1 : W1.cell? ⟨w.heap.size, 0, none⟩ = some (.slice A n c) := r.cell 0
  have R1 := hide r
  have HB1 := hide hb1
  have HN1 := hide H0
  have HF1 := hide F0
  have HFINE := hide hfine
  clear r hb1 H0 F0 hW1 h hf hfine
  go_enter Try.func3, Try.ntmps3
  go_wp2_with fail
  clear hW1'
  refine (PBranch_any W1 HN1.out (by omega) HFINE.out).mono ?_
  rintro e w2 ⟨p, rfl, hb2, hp⟩
  have HP := hide hp
  have HB2 := hide (HB1.out.trans (hb2.mono HB1.out.size))
  have HNA := hide (HN1.out.on hb2)
  have HFA := hide (HF1.out.on hb2)
  have R2 := hide (R1.out.on hb2)
  clear hp hb2 q1 HN1 HF1 R1 HFINE
  cases p
  · go_wp2_with fail
    refine (awake13_any _).mono ?_
    rintro e wz ⟨rfl, hbz⟩
    have HBZ := hide (HB2.out.trans (hbz.mono HB2.out.size))
    clear hbz
    go_wp2_with fail
    go_ret
    exact LawOk.of HBZ.out
  obtain ⟨hn24, hpl⟩ := HP.out (by first | rfl | trivial)
  by_cases hk : (10 : Int) < (k : Int)
  · have dk : decide ((10 : Int) < (k : Int)) = true := decide_eq_true hk
    clear hpl
    go_wp2_with fail
    refine (awake13_any _).mono ?_
    rintro e wz ⟨rfl, hbz⟩
    have HBZ := hide (HB2.out.trans (hbz.mono HB2.out.size))
    clear hbz
    go_wp2_with fail
    go_ret
    exact LawOk.of HBZ.out
  have dk : decide ((10 : Int) < (k : Int)) = false := decide_eq_false hk
  have hk10 : k ≤ 10 := by omega
  have hn24' : n ≤ 24 := by omega
  have hMD := plain_many (by rw [HLN.out]; exact hn24') hpl
  have HM := hide hMD.1
  have hLle : (walkW ns ff).1.length ≤ 24 := by have := (walk_ok ns ff).le; have := HLN.out; omega
  have htle : (twiceS ns (walkW ns ff)).length ≤ 384 := by have := walk_tw hMD.1 ff; rw [twice_len]; omega
  have hple : (pathS (walkW ns ff).1 i).length ≤ 24 := by have := upsF_len (walkW ns ff).1 (walkW ns ff).1.length i; unfold pathS; rw [List.length_reverse]; omega
  have hnl : ns.length ≤ 24 := by rw [HLN.out]; exact hn24'
  have HQ := hide (fun W (hb : Below w2.heap.size w2 W) => show W.cell? ⟨w.heap.size, 0, none⟩ = some (.slice A n c) from (R2.out.on hb).cell 0)
  clear HP hpl hMD hn24 hk
  go_wp2_with fail
  refine wp_region_planN (fun w' => Below w2.heap.size w2 w') [(0, true), (1, true), (3, true), (4, true), (2, false), (5, false), (6, true), (7, true)] (by kernel_rfl) (by kernel_rfl) (by kernel_rfl) (by kernel_rfl) rfl (fun _ _ _ _ _ h => h) (below_drew (below_self w2)) (fun hHeld => ?_)
  simp only [planOps, List.filterMap_cons, List.filterMap_nil, List.getElem?_toArray, List.getElem?_cons_succ, List.getElem?_cons_zero, Option.map_some]
  refine wpPlan_take (v := ?_) (by kernel_rfl) (fun wS hSw => ?_) ?_
  rotate_left
  · have qx := HQ.out wS hSw; go_simp; (try with_reducible rfl)
  (try simp only [Act.put, List.setIfInBounds_toArray, List.set_cons_zero, List.set_cons_succ])
  refine wpPlan_take (v := ?_) (by kernel_rfl) (fun wS hSw => ?_) ?_
  rotate_left
  · (try dsimp only at hSw); go_simp; (try with_reducible rfl)
  (try simp only [Act.put, List.setIfInBounds_toArray, List.set_cons_zero, List.set_cons_succ])
  refine wpPlan_take (v := ?_) (by kernel_rfl) (fun wS hSw => ?_) ?_
  rotate_left
  · have qx := HQ.out wS hSw; go_simp; (try with_reducible rfl)
  (try simp only [Act.put, List.setIfInBounds_toArray, List.set_cons_zero, List.set_cons_succ])
  refine wpPlan_take (v := ?_) (by kernel_rfl) (fun wS hSw => ?_) ?_
  rotate_left
  · (try dsimp only at hSw); go_simp; (try with_reducible rfl)
  (try simp only [Act.put, List.setIfInBounds_toArray, List.set_cons_zero, List.set_cons_succ])
  refine wpPlan_call (by kernel_rfl) (fun K hK => ?_)
  have hOld := hide hHeld
  clear hHeld
  go_simp
  go_at_call 9
  refine (Dirs_any _ (HNA.out.on hOld.out) (HFA.out.on hOld.out) HM.out (by omega)).mono ?_
  rintro e w' ⟨A3, n3, c3, rfl, hc3, h3, hbel⟩
  obtain rfl : n3 = (walkW ns ff).1.length := h3.1.symm
  have HWa := hide (h3.mono (fun _ _ => rfl) (fun b hb => hb.2) : RdE wayEn w' (Under w'.heap.size) A3 (walkW ns ff).1.length (walkW ns ff).1)
  clear h3
  refine hK.out _ _ (hOld.out.trans (hbel.mono hOld.out.size)) (fun hHeld => ?_)
  clear hK K
  (try simp only [Act.put, List.setIfInBounds_toArray, List.set_cons_zero, List.set_cons_succ])
  refine wpPlan_call (by kernel_rfl) (fun K hK => ?_)
  have hOld := hide hHeld
  clear hHeld
  go_simp
  go_at_call 10
  refine (RDirs_any _ (HNA.out.on hOld.out) (HFA.out.on hOld.out) HM.out (by omega)).mono ?_
  rintro e w' ⟨A4, c4, rfl, hc4, h4, hbel⟩
  have HWb := hide (h4.mono (fun _ _ => rfl) (fun b hb => hb.2) : RdE wayEn w' (Under w'.heap.size) A4 (walkW ns ff).1.length (walkW ns ff).1)
  have HWa' := hide (HWa.out.on hbel)
  clear HWa
  have HWa := HWa'
  clear HWa'
  clear h4
  refine hK.out _ _ (hOld.out.trans (hbel.mono hOld.out.size)) (fun hHeld => ?_)
  clear hK K
  (try simp only [Act.put, List.setIfInBounds_toArray, List.set_cons_zero, List.set_cons_succ])
  refine wpPlan_take (v := ?_) (by kernel_rfl) (fun wS hSw => ?_) ?_
  rotate_left
  · (try dsimp only at hSw); go_simp; (try with_reducible rfl)
  (try simp only [Act.put, List.setIfInBounds_toArray, List.set_cons_zero, List.set_cons_succ])
  refine wpPlan_take (v := ?_) (by kernel_rfl) (fun wS hSw => ?_) ?_
  rotate_left
  · (try dsimp only at hSw); go_simp; (try with_reducible rfl)
  (try simp only [Act.put, List.setIfInBounds_toArray, List.set_cons_zero, List.set_cons_succ])
  refine wpPlan_end ?_
  have HB6 := hide (HB2.out.trans (hHeld.mono HB2.out.size))
  have HNB := hide (HNA.out.on hHeld)
  have HFB := hide (HFA.out.on hHeld)
  have HQ6 := hide (fun W (hb : Below w'.heap.size w' W) => HQ.out W (hHeld.trans (hb.mono hHeld.size)))
  clear HNA HFA HQ hHeld
  have HNA := HNB
  have HFA := HFB
  clear HNB HFB
  generalize w' = w6 at *
  go_wp2_with fail
  refine wp_region_planN (fun w' => Below w6.heap.size w6 w') [(0, true), (1, true), (2, false), (3, true), (4, true), (5, true), (7, true), (8, true), (6, false), (9, false), (10, false), (11, true), (12, true), (13, true), (14, true), (16, true), (17, true), (15, false), (18, false), (19, false), (20, true), (21, true), (22, true), (23, true), (25, true), (26, true), (24, false), (27, false), (28, false), (29, true), (30, true), (31, false), (32, true), (33, true)] (by kernel_rfl) (by kernel_rfl) (by kernel_rfl) (by kernel_rfl) rfl (fun _ _ _ _ _ h => h) (below_drew (below_self w6)) (fun hHeld => ?_)
  simp only [planOps, List.filterMap_cons, List.filterMap_nil, List.getElem?_toArray, List.getElem?_cons_succ, List.getElem?_cons_zero, Option.map_some]
  refine wpPlan_take (v := ?_) (by kernel_rfl) (fun wS hSw => ?_) ?_
  rotate_left
  · (try dsimp only at hSw); go_simp; (try with_reducible rfl)
  (try simp only [Act.put, List.setIfInBounds_toArray, List.set_cons_zero, List.set_cons_succ])
  refine wpPlan_take (v := ?_) (by kernel_rfl) (fun wS hSw => ?_) ?_
  rotate_left
  · (try dsimp only at hSw); go_simp; (try with_reducible rfl)
  (try simp only [Act.put, List.setIfInBounds_toArray, List.set_cons_zero, List.set_cons_succ])
  refine wpPlan_call (by kernel_rfl) (fun K hK => ?_)
  have hOld := hide hHeld
  clear hHeld
  go_simp
  go_at_call 11
  refine (EqWay_same (L := (walkW ns ff).1) _ (HWa.out.on hOld.out) (HWb.out.on hOld.out) (by omega)).mono ?_
  rintro e w' ⟨rfl, hbel⟩
  refine hK.out _ _ (hOld.out.trans (hbel.mono hOld.out.size)) (fun hHeld => ?_)
  clear hK K
  (try simp only [Act.put, List.setIfInBounds_toArray, List.set_cons_zero, List.set_cons_succ])
  refine wpPlan_take (v := ?_) (by kernel_rfl) (fun wS hSw => ?_) ?_
  rotate_left
  · (try dsimp only at hSw); go_simp; (try with_reducible rfl)
  (try simp only [Act.put, List.setIfInBounds_toArray, List.set_cons_zero, List.set_cons_succ])
  refine wpPlan_take (v := ?_) (by kernel_rfl) (fun wS hSw => ?_) ?_
  rotate_left
  · have qx := HQ6.out wS hSw; go_simp; (try with_reducible rfl)
  (try simp only [Act.put, List.setIfInBounds_toArray, List.set_cons_zero, List.set_cons_succ])
  refine wpPlan_take (v := ?_) (by kernel_rfl) (fun wS hSw => ?_) ?_
  rotate_left
  · (try dsimp only at hSw); go_simp; (try with_reducible rfl)
  (try simp only [Act.put, List.setIfInBounds_toArray, List.set_cons_zero, List.set_cons_succ])
  refine wpPlan_take (v := ?_) (by kernel_rfl) (fun wS hSw => ?_) ?_
  rotate_left
  · have qx := HQ6.out wS hSw; go_simp; (try with_reducible rfl)
  (try simp only [Act.put, List.setIfInBounds_toArray, List.set_cons_zero, List.set_cons_succ])
  refine wpPlan_take (v := ?_) (by kernel_rfl) (fun wS hSw => ?_) ?_
  rotate_left
  · (try dsimp only at hSw); go_simp; (try with_reducible rfl)
  (try simp only [Act.put, List.setIfInBounds_toArray, List.set_cons_zero, List.set_cons_succ])
  refine wpPlan_call (by kernel_rfl) (fun K hK => ?_)
  have hOld := hide hHeld
  clear hHeld
  go_simp
  go_at_call 13
  refine (Twice_any _ (HNA.out.on hOld.out) (HFA.out.on hOld.out) HM.out (by omega)).mono ?_
  rintro e w' ⟨A5, n5, c5, rfl, -, h5, hbel⟩
  obtain rfl : n5 = (twiceS ns (walkW ns ff)).length := h5.1.symm
  have HT := hide h5
  clear h5
  refine hK.out _ _ (hOld.out.trans (hbel.mono hOld.out.size)) (fun hHeld => ?_)
  clear hK K
  (try simp only [Act.put, List.setIfInBounds_toArray, List.set_cons_zero, List.set_cons_succ])
  refine wpPlan_call (by kernel_rfl) (fun K hK => ?_)
  have hOld := hide hHeld
  clear hHeld
  go_simp
  go_at_call 14
  refine (RTwice_any _ (HNA.out.on hOld.out) (HFA.out.on hOld.out) HM.out (by omega)).mono ?_
  rintro e w' ⟨A6, c6, rfl, h6, hbel⟩
  have HU := hide h6
  have HT' := hide (HT.out.on hbel)
  clear HT
  have HT := HT'
  clear HT'
  clear h6
  refine hK.out _ _ (hOld.out.trans (hbel.mono hOld.out.size)) (fun hHeld => ?_)
  clear hK K
  (try simp only [Act.put, List.setIfInBounds_toArray, List.set_cons_zero, List.set_cons_succ])
  refine wpPlan_call (by kernel_rfl) (fun K hK => ?_)
  have hOld := hide hHeld
  clear hHeld
  go_simp
  go_at_call 12
  refine (EqPr_same (L := twiceS ns (walkW ns ff)) _ HT.out HU.out (by omega)).mono ?_
  rintro e w' ⟨rfl, hbel⟩
  clear HT HU
  refine hK.out _ _ (hOld.out.trans (hbel.mono hOld.out.size)) (fun hHeld => ?_)
  clear hK K
  (try simp only [Act.put, List.setIfInBounds_toArray, List.set_cons_zero, List.set_cons_succ])
  refine wpPlan_take (v := ?_) (by kernel_rfl) (fun wS hSw => ?_) ?_
  rotate_left
  · (try dsimp only at hSw); go_simp; (try with_reducible rfl)
  (try simp only [Act.put, List.setIfInBounds_toArray, List.set_cons_zero, List.set_cons_succ])
  refine wpPlan_take (v := ?_) (by kernel_rfl) (fun wS hSw => ?_) ?_
  rotate_left
  · (try dsimp only at hSw); go_simp; (try with_reducible rfl)
  (try simp only [Act.put, List.setIfInBounds_toArray, List.set_cons_zero, List.set_cons_succ])
  refine wpPlan_take (v := ?_) (by kernel_rfl) (fun wS hSw => ?_) ?_
  rotate_left
  · have qx := HQ6.out wS hSw; go_simp; (try with_reducible rfl)
  (try simp only [Act.put, List.setIfInBounds_toArray, List.set_cons_zero, List.set_cons_succ])
  refine wpPlan_take (v := ?_) (by kernel_rfl) (fun wS hSw => ?_) ?_
  rotate_left
  · (try dsimp only at hSw); go_simp; (try with_reducible rfl)
  (try simp only [Act.put, List.setIfInBounds_toArray, List.set_cons_zero, List.set_cons_succ])
  refine wpPlan_take (v := ?_) (by kernel_rfl) (fun wS hSw => ?_) ?_
  rotate_left
  · have qx := HQ6.out wS hSw; go_simp; (try with_reducible rfl)
  (try simp only [Act.put, List.setIfInBounds_toArray, List.set_cons_zero, List.set_cons_succ])
  refine wpPlan_take (v := ?_) (by kernel_rfl) (fun wS hSw => ?_) ?_
  rotate_left
  · (try dsimp only at hSw); go_simp; (try with_reducible rfl)
  (try simp only [Act.put, List.setIfInBounds_toArray, List.set_cons_zero, List.set_cons_succ])
  refine wpPlan_call (by kernel_rfl) (fun K hK => ?_)
  have hOld := hide hHeld
  clear hHeld
  go_simp
  go_at_call 16
  refine (Reach_any _ (HNA.out.on hOld.out) (HFA.out.on hOld.out) HM.out (by omega)).mono ?_
  rintro e w' ⟨A7, n7, c7, rfl, -, h7, hbel, -⟩
  have hn7 := h7.1
  rw [reachL_len] at hn7
  subst hn7
  have HT := hide h7
  clear h7
  refine hK.out _ _ (hOld.out.trans (hbel.mono hOld.out.size)) (fun hHeld => ?_)
  clear hK K
  (try simp only [Act.put, List.setIfInBounds_toArray, List.set_cons_zero, List.set_cons_succ])
  refine wpPlan_call (by kernel_rfl) (fun K hK => ?_)
  have hOld := hide hHeld
  clear hHeld
  go_simp
  go_at_call 17
  refine (RReach_any _ (HNA.out.on hOld.out) (HFA.out.on hOld.out) HM.out (by omega)).mono ?_
  rintro e w' ⟨A8, n8, c8, rfl, -, h8, hbel, -⟩
  have hn8 := h8.1
  rw [reachL_len] at hn8
  subst hn8
  have HU := hide h8
  have HT' := hide (HT.out.on hbel)
  clear HT
  have HT := HT'
  clear HT'
  clear h8
  refine hK.out _ _ (hOld.out.trans (hbel.mono hOld.out.size)) (fun hHeld => ?_)
  clear hK K
  (try simp only [Act.put, List.setIfInBounds_toArray, List.set_cons_zero, List.set_cons_succ])
  refine wpPlan_call (by kernel_rfl) (fun K hK => ?_)
  have hOld := hide hHeld
  clear hHeld
  go_simp
  go_at_call 15
  refine (EqB_same _ HT.out HU.out (by omega)).mono ?_
  rintro e w' ⟨rfl, hbel⟩
  clear HT HU
  refine hK.out _ _ (hOld.out.trans (hbel.mono hOld.out.size)) (fun hHeld => ?_)
  clear hK K
  (try simp only [Act.put, List.setIfInBounds_toArray, List.set_cons_zero, List.set_cons_succ])
  refine wpPlan_take (v := ?_) (by kernel_rfl) (fun wS hSw => ?_) ?_
  rotate_left
  · (try dsimp only at hSw); go_simp; (try with_reducible rfl)
  (try simp only [Act.put, List.setIfInBounds_toArray, List.set_cons_zero, List.set_cons_succ])
  refine wpPlan_take (v := ?_) (by kernel_rfl) (fun wS hSw => ?_) ?_
  rotate_left
  · (try dsimp only at hSw); go_simp; (try with_reducible rfl)
  (try simp only [Act.put, List.setIfInBounds_toArray, List.set_cons_zero, List.set_cons_succ])
  refine wpPlan_take (v := ?_) (by kernel_rfl) (fun wS hSw => ?_) ?_
  rotate_left
  · (try dsimp only at hSw); go_simp; (try with_reducible rfl)
  (try simp only [Act.put, List.setIfInBounds_toArray, List.set_cons_zero, List.set_cons_succ])
  refine wpPlan_take (v := ?_) (by kernel_rfl) (fun wS hSw => ?_) ?_
  rotate_left
  · (try dsimp only at hSw); go_simp; (try with_reducible rfl)
  (try simp only [Act.put, List.setIfInBounds_toArray, List.set_cons_zero, List.set_cons_succ])
  refine wpPlan_take (v := ?_) (by kernel_rfl) (fun wS hSw => ?_) ?_
  rotate_left
  · (try dsimp only at hSw); go_simp; (try with_reducible rfl)
  (try simp only [Act.put, List.setIfInBounds_toArray, List.set_cons_zero, List.set_cons_succ])
  refine wpPlan_take (v := ?_) (by kernel_rfl) (fun wS hSw => ?_) ?_
  rotate_left
  · (try dsimp only at hSw); go_simp; (try with_reducible rfl)
  (try simp only [Act.put, List.setIfInBounds_toArray, List.set_cons_zero, List.set_cons_succ])
  refine wpPlan_call (by kernel_rfl) (fun K hK => ?_)
  have hOld := hide hHeld
  clear hHeld
  go_simp
  go_at_call 19
  refine (Path_any _ (HWb.out.on hOld.out) (by omega)).mono ?_
  rintro e w' ⟨A9, c9, rfl, h9, hbel⟩
  have HT := hide h9.rd
  clear h9
  refine hK.out _ _ (hOld.out.trans (hbel.mono hOld.out.size)) (fun hHeld => ?_)
  clear hK K
  (try simp only [Act.put, List.setIfInBounds_toArray, List.set_cons_zero, List.set_cons_succ])
  refine wpPlan_call (by kernel_rfl) (fun K hK => ?_)
  have hOld := hide hHeld
  clear hHeld
  go_simp
  go_at_call 20
  refine (RPath_any _ (HWb.out.on hOld.out) (by omega)).mono ?_
  rintro e w' ⟨A10, c10, rfl, h10, hbel⟩
  have HU := hide h10.rd
  have HT' := hide (HT.out.on hbel)
  clear HT
  have HT := HT'
  clear HT'
  clear h10
  refine hK.out _ _ (hOld.out.trans (hbel.mono hOld.out.size)) (fun hHeld => ?_)
  clear hK K
  (try simp only [Act.put, List.setIfInBounds_toArray, List.set_cons_zero, List.set_cons_succ])
  refine wpPlan_call (by kernel_rfl) (fun K hK => ?_)
  have hOld := hide hHeld
  clear hHeld
  go_simp
  go_at_call 18
  refine (EqS_same _ HT.out HU.out (by omega)).mono ?_
  rintro e w' ⟨rfl, hbel⟩
  clear HT HU
  refine hK.out _ _ (hOld.out.trans (hbel.mono hOld.out.size)) (fun hHeld => ?_)
  clear hK K
  (try simp only [Act.put, List.setIfInBounds_toArray, List.set_cons_zero, List.set_cons_succ])
  refine wpPlan_take (v := ?_) (by kernel_rfl) (fun wS hSw => ?_) ?_
  rotate_left
  · (try dsimp only at hSw); go_simp; (try with_reducible rfl)
  (try simp only [Act.put, List.setIfInBounds_toArray, List.set_cons_zero, List.set_cons_succ])
  refine wpPlan_take (v := ?_) (by kernel_rfl) (fun wS hSw => ?_) ?_
  rotate_left
  · (try dsimp only at hSw); go_simp; (try with_reducible rfl)
  (try simp only [Act.put, List.setIfInBounds_toArray, List.set_cons_zero, List.set_cons_succ])
  refine wpPlan_call (by kernel_rfl) (fun K hK => ?_)
  have hOld := hide hHeld
  clear hHeld
  go_simp
  go_at_call 8
  refine (awake13_any _).mono ?_
  rintro e w' ⟨rfl, hbel⟩
  refine hK.out _ _ (hOld.out.trans (hbel.mono hOld.out.size)) (fun hHeld => ?_)
  clear hK K
  (try simp only [Act.put, List.setIfInBounds_toArray, List.set_cons_zero, List.set_cons_succ])
  refine wpPlan_take (v := ?_) (by kernel_rfl) (fun wS hSw => ?_) ?_
  rotate_left
  · (try dsimp only at hSw); go_simp; (try with_reducible rfl)
  (try simp only [Act.put, List.setIfInBounds_toArray, List.set_cons_zero, List.set_cons_succ])
  refine wpPlan_take (v := ?_) (by kernel_rfl) (fun wS hSw => ?_) ?_
  rotate_left
  · (try dsimp only at hSw); go_simp; (try with_reducible rfl)
  (try simp only [Act.put, List.setIfInBounds_toArray, List.set_cons_zero, List.set_cons_succ])
  refine wpPlan_end ?_
  have HBX := hide (HB6.out.trans (hHeld.mono HB6.out.size))
  clear hHeld
  go_wp2_with fail
  go_ret
  exact LawOk.of HBX.out
end Go.Proofs.Ytalhkcheglbolaa
