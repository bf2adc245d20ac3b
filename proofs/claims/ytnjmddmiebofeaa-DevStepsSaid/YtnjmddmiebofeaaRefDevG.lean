/- The contract of the reference's Go (layer 5): read. -/
import Derived.Test.YtnjmddmiebofeaaRefDevF
import Derived.Deep.RegionWith
namespace Go.Proofs.Ytnjmddmiebofeaa
open Go.RowKit Plain

theorem Bs.off {w w' : World} {B n g : Nat} {A : Option Addr} {l : List UInt8} (h : Bs w B A n l) (hg : NoByte w g) (hk : Kept (fun b => b < B ∧ b ≠ g) w w') : Bs w' B A n l := by
  refine ⟨h.1, fun hn => ?_⟩
  obtain ⟨b, o, e, hb, hc⟩ := h.2 hn
  have hbg : b ≠ g := by
    intro e2
    subst e2
    exact hg _ _ (hc 0 _ (List.getElem?_eq_getElem (by have := h.1; omega)))
  exact ⟨b, o, e, hb, fun i x hx => (hk.cell (D := fun b => b < B ∧ b ≠ g) ⟨hb, hbg⟩).trans (hc i x hx)⟩
set_option maxRecDepth 100000 in
set_option maxHeartbeats 3200000 in
theorem RDGo_read {w : World} {A A2 AB AK : Option Addr} {n c m c2 nb cb nk ck : Nat} {safe : List (List UInt8)} {wait : List (Int × List UInt8)} {dd lf : Int} {q : Nat} {x : List UInt8} (wn fl : Int) (hs : RdE Enc.bytes w (Und w) A n safe) (hnc : n ≤ c) (hw : RdE penE w (Und w) A2 m wait) (hmc : m ≤ c2) (h3 : (dd == 3) = false) (h4 : (dd == 4) = false) (h2 : (dd != 2) = true) (h1' : (dd == 1) = false) (h1'' : (dd != 1) = true) (hi : q < n) (hm : m ≤ 1000000) (hx : lastS safe wait q = x) (hxl : x.length = 64) :
    Calls Try.prog 11 #[.agg #[.slice A n c, .slice A2 m c2, .int .i64 lf, .int .i64 wn, .int .i64 fl, .bool false], .agg #[.int .i64 dd, .int .i64 q, .slice AB nb cb, .slice AK nk ck]] w (GRet w n safe wait lf wn fl false x 0) := by
  have g0 : decide ((q : Int) < 0) = false := by simp
  have g1 : decide ((n : Int) ≤ (q : Int)) = false := by simp; omega
  have HX := hide hx
  have hsz3 : (((w.alloc (.cells #[.slice A n c, .slice A2 m c2, .int .i64 lf, .int .i64 wn, .int .i64 fl, .bool false] 31)).alloc (.cells #[.int .i64 dd, .int .i64 q, .slice AB nb cb, .slice AK nk ck] 41)).alloc (.cells #[.slice none 0 0, .slice none 0 0, .int .i64 0, .int .i64 0, .int .i64 0, .bool false] 31)).heap.size = w.heap.size + 3 := by simp
  have hb3 : Below w.heap.size w (((w.alloc (.cells #[.slice A n c, .slice A2 m c2, .int .i64 lf, .int .i64 wn, .int .i64 fl, .bool false] 31)).alloc (.cells #[.int .i64 dd, .int .i64 q, .slice AB nb cb, .slice AK nk ck] 41)).alloc (.cells #[.slice none 0 0, .slice none 0 0, .int .i64 0, .int .i64 0, .int .i64 0, .bool false] 31)) := below_new (below_new (below_new (below_self w) _) _) _
  have HS := hide hs
  have HW := hide hw
  clear hs hw hx
  go_enter Try.func11, Try.ntmps11
  go_wp2_with fail
  have hrow : RowL (((w.alloc (.cells #[.slice A n c, .slice A2 m c2, .int .i64 lf, .int .i64 wn, .int .i64 fl, .bool false] 31)).alloc (.cells #[.int .i64 dd, .int .i64 q, .slice AB nb cb, .slice AK nk ck] 41)).alloc (.cells #[.slice none 0 0, .slice none 0 0, .int .i64 0, .int .i64 0, .int .i64 0, .bool false] 31)) (w.heap.size + 2) 31 d0 := by
    have := RowL.new ((w.alloc (.cells #[.slice A n c, .slice A2 m c2, .int .i64 lf, .int .i64 wn, .int .i64 fl, .bool false] 31)).alloc (.cells #[.int .i64 dd, .int .i64 q, .slice AB nb cb, .slice AK nk ck] 41)) 31 d0
    simpa [d0, RowL] using this
  have hbox : RowL (((w.alloc (.cells #[.slice A n c, .slice A2 m c2, .int .i64 lf, .int .i64 wn, .int .i64 fl, .bool false] 31)).alloc (.cells #[.int .i64 dd, .int .i64 q, .slice AB nb cb, .slice AK nk ck] 41)).alloc (.cells #[.slice none 0 0, .slice none 0 0, .int .i64 0, .int .i64 0, .int .i64 0, .bool false] 31)) w.heap.size 31 [.slice A n c, .slice A2 m c2, .int .i64 lf, .int .i64 wn, .int .i64 fl, .bool false] := ((RowL.new w 31 [.slice A n c, .slice A2 m c2, .int .i64 lf, .int .i64 wn, .int .i64 fl, .bool false]).grown (World.grownBy_alloc _ (.cells #[.int .i64 dd, .int .i64 q, .slice AB nb cb, .slice AK nk ck] 41) none) (by simp)).grown (World.grownBy_alloc _ (.cells d0.toArray 31) none) (by simp)
  have hstep : RowL (((w.alloc (.cells #[.slice A n c, .slice A2 m c2, .int .i64 lf, .int .i64 wn, .int .i64 fl, .bool false] 31)).alloc (.cells #[.int .i64 dd, .int .i64 q, .slice AB nb cb, .slice AK nk ck] 41)).alloc (.cells #[.slice none 0 0, .slice none 0 0, .int .i64 0, .int .i64 0, .int .i64 0, .bool false] 31)) (w.heap.size + 1) 41 [.int .i64 dd, .int .i64 q, .slice AB nb cb, .slice AK nk ck] := by
    have := (RowL.new (w.alloc (.cells #[.slice A n c, .slice A2 m c2, .int .i64 lf, .int .i64 wn, .int .i64 fl, .bool false] 31)) 41 [.int .i64 dd, .int .i64 q, .slice AB nb cb, .slice AK nk ck]).grown (World.grownBy_alloc _ (.cells d0.toArray 31) none) (by simp)
    simpa [d0, RowL] using this
  have c00 : (((w.alloc (.cells #[.slice A n c, .slice A2 m c2, .int .i64 lf, .int .i64 wn, .int .i64 fl, .bool false] 31)).alloc (.cells #[.int .i64 dd, .int .i64 q, .slice AB nb cb, .slice AK nk ck] 41)).alloc (.cells #[.slice none 0 0, .slice none 0 0, .int .i64 0, .int .i64 0, .int .i64 0, .bool false] 31)).cell? ⟨w.heap.size, 0, none⟩ = some (.slice A n c) := hbox.cell 0
  have c01 : (((w.alloc (.cells #[.slice A n c, .slice A2 m c2, .int .i64 lf, .int .i64 wn, .int .i64 fl, .bool false] 31)).alloc (.cells #[.int .i64 dd, .int .i64 q, .slice AB nb cb, .slice AK nk ck] 41)).alloc (.cells #[.slice none 0 0, .slice none 0 0, .int .i64 0, .int .i64 0, .int .i64 0, .bool false] 31)).cell? ⟨w.heap.size, 1, none⟩ = some (.slice A2 m c2) := hbox.cell 1
  have c02 : (((w.alloc (.cells #[.slice A n c, .slice A2 m c2, .int .i64 lf, .int .i64 wn, .int .i64 fl, .bool false] 31)).alloc (.cells #[.int .i64 dd, .int .i64 q, .slice AB nb cb, .slice AK nk ck] 41)).alloc (.cells #[.slice none 0 0, .slice none 0 0, .int .i64 0, .int .i64 0, .int .i64 0, .bool false] 31)).cell? ⟨w.heap.size, 2, none⟩ = some (.int .i64 lf) := hbox.cell 2
  have c03 : (((w.alloc (.cells #[.slice A n c, .slice A2 m c2, .int .i64 lf, .int .i64 wn, .int .i64 fl, .bool false] 31)).alloc (.cells #[.int .i64 dd, .int .i64 q, .slice AB nb cb, .slice AK nk ck] 41)).alloc (.cells #[.slice none 0 0, .slice none 0 0, .int .i64 0, .int .i64 0, .int .i64 0, .bool false] 31)).cell? ⟨w.heap.size, 3, none⟩ = some (.int .i64 wn) := hbox.cell 3
  have c04 : (((w.alloc (.cells #[.slice A n c, .slice A2 m c2, .int .i64 lf, .int .i64 wn, .int .i64 fl, .bool false] 31)).alloc (.cells #[.int .i64 dd, .int .i64 q, .slice AB nb cb, .slice AK nk ck] 41)).alloc (.cells #[.slice none 0 0, .slice none 0 0, .int .i64 0, .int .i64 0, .int .i64 0, .bool false] 31)).cell? ⟨w.heap.size, 4, none⟩ = some (.int .i64 fl) := hbox.cell 4
  have c05 : (((w.alloc (.cells #[.slice A n c, .slice A2 m c2, .int .i64 lf, .int .i64 wn, .int .i64 fl, .bool false] 31)).alloc (.cells #[.int .i64 dd, .int .i64 q, .slice AB nb cb, .slice AK nk ck] 41)).alloc (.cells #[.slice none 0 0, .slice none 0 0, .int .i64 0, .int .i64 0, .int .i64 0, .bool false] 31)).cell? ⟨w.heap.size, 5, none⟩ = some (.bool false) := hbox.cell 5
  have c11 : (((w.alloc (.cells #[.slice A n c, .slice A2 m c2, .int .i64 lf, .int .i64 wn, .int .i64 fl, .bool false] 31)).alloc (.cells #[.int .i64 dd, .int .i64 q, .slice AB nb cb, .slice AK nk ck] 41)).alloc (.cells #[.slice none 0 0, .slice none 0 0, .int .i64 0, .int .i64 0, .int .i64 0, .bool false] 31)).cell? ⟨w.heap.size + 1, 1, none⟩ = some (.int .i64 (q : Int)) := hstep.cell 1
  generalize (((w.alloc (.cells #[.slice A n c, .slice A2 m c2, .int .i64 lf, .int .i64 wn, .int .i64 fl, .bool false] 31)).alloc (.cells #[.int .i64 dd, .int .i64 q, .slice AB nb cb, .slice AK nk ck] 41)).alloc (.cells #[.slice none 0 0, .slice none 0 0, .int .i64 0, .int .i64 0, .int .i64 0, .bool false] 31)) = w1 at *
  have HB := hide hb3
  have HRW := hide hrow
  have hlt : w.heap.size + 2 < w1.heap.size := by omega
  clear hb3 hrow hsz3 hbox hstep
  refine wp_region_plan (fun w' => Below w.heap.size w w' ∧ w.heap.size + 2 < w'.heap.size ∧ w'.cell? ⟨w.heap.size, 0, none⟩ = some (.slice A n c) ∧ w'.cell? ⟨w.heap.size, 1, none⟩ = some (.slice A2 m c2) ∧ w'.cell? ⟨w.heap.size, 2, none⟩ = some (.int .i64 lf) ∧ w'.cell? ⟨w.heap.size, 3, none⟩ = some (.int .i64 wn) ∧ w'.cell? ⟨w.heap.size, 4, none⟩ = some (.int .i64 fl) ∧ w'.cell? ⟨w.heap.size, 5, none⟩ = some (.bool false) ∧ w'.cell? ⟨w.heap.size + 1, 1, none⟩ = some (.int .i64 (q : Int))) [(0, true), (1, true), (2, true), (3, true), (4, false), (5, false), (6, true), (7, true)] (by kernel_rfl) (by kernel_rfl) (by kernel_rfl) (by kernel_rfl) rfl (fun _ _ _ _ _ h => h) ⟨below_drewN HB.out 1, hlt, c00, c01, c02, c03, c04, c05, c11⟩ (fun hHeld => ?_)
  simp only [planOps, List.filterMap_cons, List.filterMap_nil, List.getElem?_toArray, List.getElem?_cons_succ, List.getElem?_cons_zero, Option.map_some]
  refine wpPlan_take (v := ?_) (by kernel_rfl) (fun wS hSw => ?_) ?_
  rotate_left
  · (try dsimp only at hSw); go_simp; (try with_reducible rfl)
  (try simp only [Act.put, List.setIfInBounds_toArray, List.set_cons_zero, List.set_cons_succ])
  refine wpPlan_take (v := ?_) (by kernel_rfl) (fun wS hSw => ?_) ?_
  rotate_left
  · (try dsimp only at hSw); go_simp; (try with_reducible rfl)
  (try simp only [Act.put, List.setIfInBounds_toArray, List.set_cons_zero, List.set_cons_succ])
  refine wpPlan_take (v := ?_) (by kernel_rfl) (fun wS hSw => ?_) ?_
  rotate_left
  · (try dsimp only at hSw); go_simp; (try with_reducible rfl)
  (try simp only [Act.put, List.setIfInBounds_toArray, List.set_cons_zero, List.set_cons_succ])
  refine wpPlan_take (v := ?_) (by kernel_rfl) (fun wS hSw => ?_) ?_
  rotate_left
  · (try dsimp only at hSw); go_simp; (try with_reducible rfl)
  (try simp only [Act.put, List.setIfInBounds_toArray, List.set_cons_zero, List.set_cons_succ])
  refine wpPlan_call (by kernel_rfl) (fun K hK => ?_)
  have hOld := hide hHeld
  clear hHeld
  go_simp
  go_at_call 50
  refine (RDLast_x lf wn fl false (HS.out.plain.on hOld.out.1) (HW.out.plain.on hOld.out.1) hi hm HX.out hxl).mono ?_
  rintro e w' ⟨A5, c5, rfl, hown, hbel⟩
  have hlO := hOld.out.2.1
  have HBA := hide hbel
  have hrow : RowL w' (w.heap.size + 2) 31 d0 := (hbel.block _ hlO).trans HRW.out
  have HO := hide hown
  refine hK.out _ _ (⟨hOld.out.1.trans (hbel.mono (by omega)), by have := hbel.size; omega, cell_on (w := w1.drew) c00 hbel (by omega), cell_on (w := w1.drew) c01 hbel (by omega), cell_on (w := w1.drew) c02 hbel (by omega), cell_on (w := w1.drew) c03 hbel (by omega), cell_on (w := w1.drew) c04 hbel (by omega), cell_on (w := w1.drew) c05 hbel (by omega), cell_on (w := w1.drew) c11 hbel (by omega)⟩) (fun hHeld => ?_)
  clear hK K
  (try simp only [Act.put, List.setIfInBounds_toArray, List.set_cons_zero, List.set_cons_succ])
  refine wpPlan_call (by kernel_rfl) (fun K hK => ?_)
  have hOld := hide hHeld
  clear hHeld
  have r0 : w'.cell? ⟨w.heap.size + 2, 0, none⟩ = some (.slice none 0 0) := hrow.cell 0
  have r1 : w'.cell? ⟨w.heap.size + 2, 1, none⟩ = some (.slice none 0 0) := hrow.cell 1
  have r2 : w'.cell? ⟨w.heap.size + 2, 2, none⟩ = some (.int .i64 0) := hrow.cell 2
  have r3 : w'.cell? ⟨w.heap.size + 2, 3, none⟩ = some (.int .i64 0) := hrow.cell 3
  have r4 : w'.cell? ⟨w.heap.size + 2, 4, none⟩ = some (.int .i64 0) := hrow.cell 4
  have r5 : w'.cell? ⟨w.heap.size + 2, 5, none⟩ = some (.bool false) := hrow.cell 5
  have f0 := hrow.frozen 0
  have f1 := hrow.frozen 1
  have f2 := hrow.frozen 2
  have f3 := hrow.frozen 3
  have f4 := hrow.frozen 4
  have f5 := hrow.frozen 5
  unfold Oper.wp execOp
  go_simp
  have hbS : Below (w.heap.size + 2) w' ((((((w'.setCell ⟨w.heap.size + 2, 0, none⟩ (.slice A n c)).setCell ⟨w.heap.size + 2, 1, none⟩ (.slice A2 m c2)).setCell ⟨w.heap.size + 2, 2, none⟩ (.int .i64 lf)).setCell ⟨w.heap.size + 2, 3, none⟩ (.int .i64 wn)).setCell ⟨w.heap.size + 2, 4, none⟩ (.int .i64 fl)).setCell ⟨w.heap.size + 2, 5, none⟩ (.bool false)) := (((((((Below.refl _ _).setCell (by simp) _).setCell (by simp) _).setCell (by simp) _).setCell (by simp) _).setCell (by simp) _).setCell (by simp) _)
  refine hK.out _ _ (⟨hOld.out.1.trans (hbS.mono (by omega)), Nat.lt_of_lt_of_le hOld.out.2.1 hbS.size, cell_on hOld.out.2.2.1 hbS (by omega), cell_on hOld.out.2.2.2.1 hbS (by omega), cell_on hOld.out.2.2.2.2.1 hbS (by omega), cell_on hOld.out.2.2.2.2.2.1 hbS (by omega), cell_on hOld.out.2.2.2.2.2.2.1 hbS (by omega), cell_on hOld.out.2.2.2.2.2.2.2.1 hbS (by omega), cell_on hOld.out.2.2.2.2.2.2.2.2 hbS (by omega)⟩) (fun hHeld => ?_)
  clear hK K
  (try simp only [Act.put, List.setIfInBounds_toArray, List.set_cons_zero, List.set_cons_succ])
  refine wpPlan_take (v := ?_) (by kernel_rfl) (fun wS hSw => ?_) ?_
  rotate_left
  · (try dsimp only at hSw); go_simp; (try with_reducible rfl)
  (try simp only [Act.put, List.setIfInBounds_toArray, List.set_cons_zero, List.set_cons_succ])
  refine wpPlan_take (v := ?_) (by kernel_rfl) (fun wS hSw => ?_) ?_
  rotate_left
  · (try dsimp only at hSw); go_simp; (try with_reducible rfl)
  (try simp only [Act.put, List.setIfInBounds_toArray, List.set_cons_zero, List.set_cons_succ])
  refine wpPlan_end ?_
  have HH := hide hHeld.1
  have hbs : Bs ((((((w'.setCell ⟨w.heap.size + 2, 0, none⟩ (.slice A n c)).setCell ⟨w.heap.size + 2, 1, none⟩ (.slice A2 m c2)).setCell ⟨w.heap.size + 2, 2, none⟩ (.int .i64 lf)).setCell ⟨w.heap.size + 2, 3, none⟩ (.int .i64 wn)).setCell ⟨w.heap.size + 2, 4, none⟩ (.int .i64 fl)).setCell ⟨w.heap.size + 2, 5, none⟩ (.bool false)) w'.heap.size A5 64 x := HO.out.bs.off (d0_byte hrow) (((((((Kept.refl _ w').set_ (fun _ h => h.2) _ _).set_ (fun _ h => h.2) _ _).set_ (fun _ h => h.2) _ _).set_ (fun _ h => h.2) _ _).set_ (fun _ h => h.2) _ _).set_ (fun _ h => h.2) _ _)
  clear hHeld c00 c01 c02 c03 c04 c05 c11
  go_wp2_with fail
  exact bodyPost_ret (v := .tuple #[dV (.slice A n c) (.slice A2 m c2) lf wn fl false, .slice A5 64 c5, .int .i64 0]) (by simp [results, Try.results11, go_sem, dV, r0, r1, r2, r3, r4, r5]) rfl ⟨_, _, _, _, _, _, _, _, rfl, hnc, hmc, HS.out.ond HH.out, HW.out.ond HH.out, by simpa using hbs, HH.out⟩

end Go.Proofs.Ytnjmddmiebofeaa
