/- The contract of the reference's Go (layer 5): flush. -/
import Derived.Test.YtnjmddmiebofeaaRefDevG
import Derived.Test.YtnjmddmiebofeaaPlanL
namespace Go.Proofs.Ytnjmddmiebofeaa
open Go.RowKit Plain

theorem flushTo_len (safe : List (List UInt8)) (wait : List (Int × List UInt8)) (k : Nat) : (flushTo safe wait k).length = safe.length := by
  induction k with
  | zero => rfl
  | succ k ih => rw [flushTo_succ, layS_length, ih]
theorem RowL.keep {w w' : World} {g t : Nat} {cs : List Value} {D : Nat → Prop} (h : RowL w g t cs) (hk : Kept D w w') (hg : D g) : RowL w' g t cs := (hk g hg).trans h
set_option maxRecDepth 100000 in
set_option maxHeartbeats 3200000 in
theorem RDGo_flush {w : World} {A A2 AB AK : Option Addr} {n c m c2 nb cb nk ck : Nat} {safe : List (List UInt8)} {wait : List (Int × List UInt8)} {at_ lf : Int} (wn fl : Int) (hs : RdE Enc.bytes w (Und w) A n safe) (hnc : n ≤ c) (hw : RdE penE w (Und w) A2 m wait) (_ : m ≤ c2) (h : lf ≠ 0) (h2 : lf ≤ 9223372036854775807) (hf1 : -1000000000 ≤ fl) (hf2 : fl ≤ 1000000000) (hn : n ≤ 1000000) (hm : m ≤ 1000000) (hat : ∀ p ∈ wait, 0 ≤ p.1 ∧ p.1 < n) :
    Calls Try.prog 11 #[.agg #[.slice A n c, .slice A2 m c2, .int .i64 lf, .int .i64 wn, .int .i64 fl, .bool false], .agg #[.int .i64 2, .int .i64 at_, .slice AB nb cb, .slice AK nk ck]] w (GRet w n (flushTo safe wait m) [] (leftS lf) wn (fl + 1) false [] 0) := by
  obtain ⟨L, hL⟩ : ∃ L, leftS lf = L := ⟨_, rfl⟩
  have hwl := hw.len
  have HS := hide hs
  have HNC := hide hnc
  have HW := hide hw
  have hbn := RDBurn_yes (A := A) (A2 := A2) (n := n) (c := c) (m := m) (c2 := c2) (wn := wn) (fl := fl) (((w.alloc (.cells #[.slice A n c, .slice A2 m c2, .int .i64 lf, .int .i64 wn, .int .i64 fl, .bool false] 31)).alloc (.cells #[.int .i64 2, .int .i64 at_, .slice AB nb cb, .slice AK nk ck] 41)).alloc (.cells d0.toArray 31)) h h2
  rw [hL] at hbn ⊢
  have HBN := hide hbn
  clear hbn hs hnc h h2 hL
  go_enter Try.func11, Try.ntmps11
  go_wp2_with fail
  refine HBN.out.mono ?_
  clear HBN
  rintro e w1 ⟨he, hbel⟩
  unfold dV at he
  subst he
  have hrow : RowL w1 (w.heap.size + 2) 31 d0 := by
    have := RowL.new ((w.alloc (.cells #[.slice A n c, .slice A2 m c2, .int .i64 lf, .int .i64 wn, .int .i64 fl, .bool false] 31)).alloc (.cells #[.int .i64 2, .int .i64 at_, .slice AB nb cb, .slice AK nk ck] 41)) 31 d0
    exact (hbel.block _ (by simp)).trans (by simpa [d0, RowL] using this)
  have hbox : RowL w1 w.heap.size 31 [.slice A n c, .slice A2 m c2, .int .i64 lf, .int .i64 wn, .int .i64 fl, .bool false] := by
    have := ((RowL.new w 31 [.slice A n c, .slice A2 m c2, .int .i64 lf, .int .i64 wn, .int .i64 fl, .bool false]).grown (World.grownBy_alloc _ (.cells #[.int .i64 2, .int .i64 at_, .slice AB nb cb, .slice AK nk ck] 41) none) (by simp)).grown (World.grownBy_alloc _ (.cells d0.toArray 31) none) (by simp)
    exact (hbel.block _ (by simp; omega)).trans this
  have hstep : RowL w1 (w.heap.size + 1) 41 [.int .i64 2, .int .i64 at_, .slice AB nb cb, .slice AK nk ck] := by
    have := (RowL.new (w.alloc (.cells #[.slice A n c, .slice A2 m c2, .int .i64 lf, .int .i64 wn, .int .i64 fl, .bool false] 31)) 41 [.int .i64 2, .int .i64 at_, .slice AB nb cb, .slice AK nk ck]).grown (World.grownBy_alloc _ (.cells d0.toArray 31) none) (by simp)
    exact (hbel.block _ (by simp)).trans (by simpa [d0, RowL] using this)
  have s0 : w1.cell? ⟨w.heap.size + 1, 0, none⟩ = some (.int .i64 2) := hstep.cell 0
  have hlt : w.heap.size + 2 < w1.heap.size := by have := hbel.size; simp at this; omega
  have k0 : w1.cell? ⟨w.heap.size, 0, none⟩ = some (.slice A n c) := hbox.cell 0
  have e0 := hbox.frozen 0
  have k1 : w1.cell? ⟨w.heap.size, 1, none⟩ = some (.slice A2 m c2) := hbox.cell 1
  have e1 := hbox.frozen 1
  have k2 : w1.cell? ⟨w.heap.size, 2, none⟩ = some (.int .i64 lf) := hbox.cell 2
  have e2 := hbox.frozen 2
  have k3 : w1.cell? ⟨w.heap.size, 3, none⟩ = some (.int .i64 wn) := hbox.cell 3
  have e3 := hbox.frozen 3
  have k4 : w1.cell? ⟨w.heap.size, 4, none⟩ = some (.int .i64 fl) := hbox.cell 4
  have e4 := hbox.frozen 4
  have k5 : w1.cell? ⟨w.heap.size, 5, none⟩ = some (.bool false) := hbox.cell 5
  have e5 := hbox.frozen 5
  have hbS : Below w.heap.size w ((((((w1.setCell ⟨w.heap.size, 0, none⟩ (.slice A n c)).setCell ⟨w.heap.size, 1, none⟩ (.slice A2 m c2)).setCell ⟨w.heap.size, 2, none⟩ (.int .i64 L)).setCell ⟨w.heap.size, 3, none⟩ (.int .i64 wn)).setCell ⟨w.heap.size, 4, none⟩ (.int .i64 fl)).setCell ⟨w.heap.size, 5, none⟩ (.bool false)) := (((((((below_step (below_new (below_new (below_new (below_self w) _) _) _) hbel).setCell (by simp) _).setCell (by simp) _).setCell (by simp) _).setCell (by simp) _).setCell (by simp) _).setCell (by simp) _)
  have hboxS : RowL ((((((w1.setCell ⟨w.heap.size, 0, none⟩ (.slice A n c)).setCell ⟨w.heap.size, 1, none⟩ (.slice A2 m c2)).setCell ⟨w.heap.size, 2, none⟩ (.int .i64 L)).setCell ⟨w.heap.size, 3, none⟩ (.int .i64 wn)).setCell ⟨w.heap.size, 4, none⟩ (.int .i64 fl)).setCell ⟨w.heap.size, 5, none⟩ (.bool false)) w.heap.size 31 [.slice A n c, .slice A2 m c2, .int .i64 L, .int .i64 wn, .int .i64 fl, .bool false] := (((((hbox.set_ 0 _).set_ 1 _).set_ 2 _).set_ 3 _).set_ 4 _).set_ 5 _
  have hrowS : RowL ((((((w1.setCell ⟨w.heap.size, 0, none⟩ (.slice A n c)).setCell ⟨w.heap.size, 1, none⟩ (.slice A2 m c2)).setCell ⟨w.heap.size, 2, none⟩ (.int .i64 L)).setCell ⟨w.heap.size, 3, none⟩ (.int .i64 wn)).setCell ⟨w.heap.size, 4, none⟩ (.int .i64 fl)).setCell ⟨w.heap.size, 5, none⟩ (.bool false)) (w.heap.size + 2) 31 d0 := hrow.keep (D := fun b => b ≠ w.heap.size) (((((((Kept.refl _ w1).set_ (fun _ h => h) _ _).set_ (fun _ h => h) _ _).set_ (fun _ h => h) _ _).set_ (fun _ h => h) _ _).set_ (fun _ h => h) _ _).set_ (fun _ h => h) _ _) (by omega)
  have HBS := hide hbS
  have HXS := hide hboxS
  have HRS := hide hrowS
  clear hrow hbox hstep hbel hbS hboxS hrowS
  go_wp2_with fail
  go_loopw [8] (fun kv wr => ∃ (k : Nat) (A1 : Option Addr) (c1 : Nat), k ≤ m ∧ kv = .int .i64 k ∧ n ≤ c1 ∧ RdE Enc.bytes wr (Und wr) A1 n (flushTo safe wait k) ∧ (0 < n → ∀ a, A1 = some a → a.block < w.heap.size ∨ w.heap.size + 2 < a.block) ∧ RowL wr w.heap.size 31 [.slice A1 n c1, .slice A2 m c2, .int .i64 L, .int .i64 wn, .int .i64 fl, .bool false] ∧ RowL wr (w.heap.size + 2) 31 d0 ∧ Below w.heap.size w wr ∧ w.heap.size + 2 < wr.heap.size) (fun kv _ => m - (intOf kv).toNat)
  case atStart => exact ⟨0, _, _, by omega, rfl, HNC.out, HS.out.ond HBS.out, fun hn a ha => .inl (HS.out.plain.addr hn a ha), HXS.out, HRS.out, HBS.out, by simpa using hlt⟩
  case round =>
    obtain ⟨k, A1, c1, hkm, rfl, hnc1, hr1, hfar, hbx, hrow, hbel, hsz⟩ := hrel
    clear HBS HXS HRS k0 k1 k2 k3 k4 k5 e0 e1 e2 e3 e4 e5 s0 hlt
    have j0 : wr.cell? ⟨w.heap.size, 0, none⟩ = some (.slice A1 n c1) := hbx.cell 0
    have j1 : wr.cell? ⟨w.heap.size, 1, none⟩ = some (.slice A2 m c2) := hbx.cell 1
    by_cases hlt : k < m
    · obtain ⟨p, hp⟩ : ∃ p, wait[k]? = some p := ⟨_, List.getElem?_eq_getElem (by omega)⟩
      obtain ⟨hp0, hpn⟩ := hat p (List.mem_of_getElem? hp)
      obtain ⟨b2, o2, rfl, hb2, hp1, A4, n4, c4, hp2, hnc4, hr4⟩ := hw.get_int_list hp
      obtain ⟨q, hq⟩ : ∃ q : Nat, p.1 = q := ⟨p.1.toNat, by omega⟩
      rw [hq] at hp1 hpn
      have hq1 := cell_on hp1 hbel hb2.1
      have hq2 := cell_on hp2 hbel hb2.1
      have hlay : layS wait (flushTo safe wait k) k = (flushTo safe wait k).set q p.2 := by
        unfold layS
        simp [List.getD, hp, hq]
      have hsn := flushTo_succ safe wait k
      rw [hlay] at hsn
      have HB := hide hbel
      have HR := hide hr1
      have HBX := hide hbx
      have HRW := hide hrow
      have HSN := hide hsn
      have HR4 := hide ((hr4.mono (Kept.of_below hbel fun _ h => h.1) (D' := Und wr) fun _ h => h.on hbel).ond (Below.refl wr.heap.size wr).drew)
      clear hsn hlay hbel hr1 hr4 hrow hbx hp hp1 hp2 hfar
      go_wp2_with fail
      refine wp_region_planL (fun w' => Below w.heap.size w w' ∧ w.heap.size + 2 < w'.heap.size ∧ w'.cell? ⟨w.heap.size, 0, none⟩ = some (.slice A1 n c1) ∧ w'.cell? ⟨w.heap.size, 1, none⟩ = some (.slice (some ⟨b2, o2, none⟩) m c2) ∧ w'.cell? ⟨b2, o2 + k * 2, none⟩ = some (.int .i64 (q : Int)) ∧ w'.cell? ⟨b2, o2 + k * 2 + 1, none⟩ = some (.slice A4 n4 c4)) [(0, true), (1, true), (2, true), (3, true), (4, true), (5, true), (6, true), (7, false), (8, true)] 9 (by kernel_rfl) (by kernel_rfl) (by kernel_rfl) (by kernel_rfl) (by kernel_rfl) rfl (fun _ _ _ _ _ h => h) ⟨HB.out.drew, hsz, j0, j1, hq1, hq2⟩ (fun hHeld => ?_)
      simp only [planOps, List.filterMap_cons, List.filterMap_nil, List.getElem?_toArray, List.getElem?_cons_succ, List.getElem?_cons_zero, Option.map_some]
      refine wpPlan_take (v := ?_) (by kernel_rfl) (fun wS hSw => ?_) ?_
      rotate_left
      · (try dsimp only at hSw); go_simp; (try with_reducible rfl)
      (try simp only [Act.put, List.setIfInBounds_toArray, List.set_cons_zero, List.set_cons_succ])
      refine wpPlan_take (v := ?_) (by kernel_rfl) (fun wS hSw => ?_) ?_
      rotate_left
      · (try dsimp only at hSw); go_simp; (try with_reducible rfl)
      (try simp only [Act.put, List.setIfInBounds_toArray, List.set_cons_zero, List.set_cons_succ])
      refine wpPlan_take (v := ?_) (by kernel_rfl) (fun wS hSw => ?_) ?_
      rotate_left
      · (try dsimp only at hSw); go_simp; (try with_reducible rfl)
      (try simp only [Act.put, List.setIfInBounds_toArray, List.set_cons_zero, List.set_cons_succ])
      refine wpPlan_take (v := ?_) (by kernel_rfl) (fun wS hSw => ?_) ?_
      rotate_left
      · (try dsimp only at hSw); go_simp; (try with_reducible rfl)
      (try simp only [Act.put, List.setIfInBounds_toArray, List.set_cons_zero, List.set_cons_succ])
      refine wpPlan_take (v := ?_) (by kernel_rfl) (fun wS hSw => ?_) ?_
      rotate_left
      · (try dsimp only at hSw); go_simp; (try with_reducible rfl)
      (try simp only [Act.put, List.setIfInBounds_toArray, List.set_cons_zero, List.set_cons_succ])
      refine wpPlan_take (v := ?_) (by kernel_rfl) (fun wS hSw => ?_) ?_
      rotate_left
      · (try dsimp only at hSw); go_simp; (try with_reducible rfl)
      (try simp only [Act.put, List.setIfInBounds_toArray, List.set_cons_zero, List.set_cons_succ])
      refine wpPlan_take (v := ?_) (by kernel_rfl) (fun wS hSw => ?_) ?_
      rotate_left
      · (try dsimp only at hSw); go_simp; (try with_reducible rfl)
      (try simp only [Act.put, List.setIfInBounds_toArray, List.set_cons_zero, List.set_cons_succ])
      refine wpPlan_call (by kernel_rfl) (fun K hK => ?_)
      have hOld := hide hHeld
      clear hHeld
      go_simp
      go_at_call 52
      refine (RDLay_any (HR.out.ond (Below.refl wr.heap.size wr).drew) HR4.out hnc4 (by omega) hn).mono ?_
      rintro e w' ⟨A5, c5, rfl, hown, hbel⟩
      have hlO := hOld.out.2.1
      have hcap := hown.cap
      have HRD := hide (hown.rd (by decide))
      have HFA := hide (hown.far (g := w.heap.size + 2) (B := w.heap.size) hlO)
      have HBX2 := hide ((hbel.block _ (by omega)).trans HBX.out)
      have HRW2 := hide ((hbel.block _ hlO).trans HRW.out)
      have hf0 : w'.frozen? ⟨w.heap.size, 0, none⟩ = false := RowL.frozen (t := 31) HBX2.out 0
      refine hK.out _ _ (⟨hOld.out.1.trans (hbel.mono (by omega)), Nat.lt_of_lt_of_le hOld.out.2.1 hbel.size, cell_on hOld.out.2.2.1 hbel (by omega), cell_on hOld.out.2.2.2.1 hbel (by omega), cell_on hOld.out.2.2.2.2.1 hbel (by have := hb2.1; omega), cell_on hOld.out.2.2.2.2.2 hbel (by have := hb2.1; omega)⟩) (fun hHeld => ?_)
      clear hK K
      (try simp only [Act.put, List.setIfInBounds_toArray, List.set_cons_zero, List.set_cons_succ])
      refine wpPlan_take (v := ?_) (by kernel_rfl) (fun wS hSw => ?_) ?_
      rotate_left
      · (try dsimp only at hSw); go_simp; (try with_reducible rfl)
      (try simp only [Act.put, List.setIfInBounds_toArray, List.set_cons_zero, List.set_cons_succ])
      refine wpPlan_end ?_
      refine postL_go rfl (by kernel_rfl) ?_
      have j2 := hHeld.2.2.1
      have hsz2 := hHeld.2.1
      have HB2 := hide (hHeld.1.setCell (p := ⟨w.heap.size, 0, none⟩) (by simp) (.slice A5 n c5))
      have hbx3 : RowL (w'.setCell ⟨w.heap.size, 0, none⟩ (.slice A5 n c5)) w.heap.size 31 [.slice A5 n c5, .slice (some ⟨b2, o2, none⟩) m c2, .int .i64 L, .int .i64 wn, .int .i64 fl, .bool false] := RowL.set_ (t := 31) HBX2.out 0 _
      have hrw3 : RowL (w'.setCell ⟨w.heap.size, 0, none⟩ (.slice A5 n c5)) (w.heap.size + 2) 31 d0 := RowL.keep (D := fun b => b ≠ w.heap.size) HRW2.out ((Kept.refl _ w').set_ (fun _ h => h) _ _) (by omega)
      have hrd3 : RdE Enc.bytes (w'.setCell ⟨w.heap.size, 0, none⟩ (.slice A5 n c5)) (Und (w'.setCell ⟨w.heap.size, 0, none⟩ (.slice A5 n c5))) A5 n ((flushTo safe wait k).set q p.2) := (HRD.out.notin_bytes (g := w.heap.size) (fun hn a ha => by have := HFA.out hn a ha; omega) (RowL.noByte (t := 31) HBX2.out (by intro v hv x e; subst e; simp at hv))).mono ((Kept.refl _ w').set_ (fun _ h => h.2) _ _) (fun _ h => h.1.set h.2 _ _)
      have HX3 := hide hbx3
      have HR3 := hide hrw3
      have HD3 := hide hrd3
      clear hHeld hbx3 hrw3 hrd3
      unfold Oper.wp execOp
      go_simp
      go_wp2_with fail
      go_roundw
      case rel => exact ⟨k + 1, _, _, by omega, by go_num, hcap, by rw [HSN.out]; exact HD3.out, HFA.out, HX3.out, HR3.out, HB2.out, by simpa using hsz2⟩
      case measure => simp [intOf]; omega
    · obtain rfl : k = m := by omega
      have hbyte : NoByte wr w.heap.size := hbx.noByte (by intro v hv x e; subst e; simp at hv)
      have hr2 := (hr1.notin_bytes (g := w.heap.size) (fun hn a ha => by have := hfar hn a ha; omega) hbyte).notin_bytes (g := w.heap.size + 2) (fun hn a ha => by have := hfar hn a ha; omega) (d0_byte hrow)
      have hr3 : RdE Enc.bytes ((((((((wr.setCell ⟨w.heap.size, 1, none⟩ (.slice none 0 0)).setCell ⟨w.heap.size, 4, none⟩ (.int .i64 (fl + 1))).setCell ⟨w.heap.size + 2, 0, none⟩ (.slice A1 n c1)).setCell ⟨w.heap.size + 2, 1, none⟩ (.slice none 0 0)).setCell ⟨w.heap.size + 2, 2, none⟩ (.int .i64 L)).setCell ⟨w.heap.size + 2, 3, none⟩ (.int .i64 wn)).setCell ⟨w.heap.size + 2, 4, none⟩ (.int .i64 (fl + 1))).setCell ⟨w.heap.size + 2, 5, none⟩ (.bool false)) (Und ((((((((wr.setCell ⟨w.heap.size, 1, none⟩ (.slice none 0 0)).setCell ⟨w.heap.size, 4, none⟩ (.int .i64 (fl + 1))).setCell ⟨w.heap.size + 2, 0, none⟩ (.slice A1 n c1)).setCell ⟨w.heap.size + 2, 1, none⟩ (.slice none 0 0)).setCell ⟨w.heap.size + 2, 2, none⟩ (.int .i64 L)).setCell ⟨w.heap.size + 2, 3, none⟩ (.int .i64 wn)).setCell ⟨w.heap.size + 2, 4, none⟩ (.int .i64 (fl + 1))).setCell ⟨w.heap.size + 2, 5, none⟩ (.bool false))) A1 n (flushTo safe wait k) := hr2.mono (((((((((Kept.refl _ wr).set_ (fun _ h => h.1.2) _ _).set_ (fun _ h => h.1.2) _ _).set_ (fun _ h => h.2) _ _).set_ (fun _ h => h.2) _ _).set_ (fun _ h => h.2) _ _).set_ (fun _ h => h.2) _ _).set_ (fun _ h => h.2) _ _).set_ (fun _ h => h.2) _ _) (fun _ h => ((((((((h.1.1.set h.1.2 _ _).set h.1.2 _ _).set h.2 _ _).set h.2 _ _).set h.2 _ _).set h.2 _ _).set h.2 _ _).set h.2 _ _))
      have hbE : Below w.heap.size w ((((((((wr.setCell ⟨w.heap.size, 1, none⟩ (.slice none 0 0)).setCell ⟨w.heap.size, 4, none⟩ (.int .i64 (fl + 1))).setCell ⟨w.heap.size + 2, 0, none⟩ (.slice A1 n c1)).setCell ⟨w.heap.size + 2, 1, none⟩ (.slice none 0 0)).setCell ⟨w.heap.size + 2, 2, none⟩ (.int .i64 L)).setCell ⟨w.heap.size + 2, 3, none⟩ (.int .i64 wn)).setCell ⟨w.heap.size + 2, 4, none⟩ (.int .i64 (fl + 1))).setCell ⟨w.heap.size + 2, 5, none⟩ (.bool false)) := ((((((((hbel.setCell (by simp) _).setCell (by simp) _).setCell (by simp) _).setCell (by simp) _).setCell (by simp) _).setCell (by simp) _).setCell (by simp) _).setCell (by simp) _)
      have r0 : wr.cell? ⟨w.heap.size + 2, 0, none⟩ = some (.slice none 0 0) := hrow.cell 0
      have r1 : wr.cell? ⟨w.heap.size + 2, 1, none⟩ = some (.slice none 0 0) := hrow.cell 1
      have r2 : wr.cell? ⟨w.heap.size + 2, 2, none⟩ = some (.int .i64 0) := hrow.cell 2
      have r3 : wr.cell? ⟨w.heap.size + 2, 3, none⟩ = some (.int .i64 0) := hrow.cell 3
      have r4 : wr.cell? ⟨w.heap.size + 2, 4, none⟩ = some (.int .i64 0) := hrow.cell 4
      have r5 : wr.cell? ⟨w.heap.size + 2, 5, none⟩ = some (.bool false) := hrow.cell 5
      have f0 := hrow.frozen 0
      have f1 := hrow.frozen 1
      have f2 := hrow.frozen 2
      have f3 := hrow.frozen 3
      have f4 := hrow.frozen 4
      have f5 := hrow.frozen 5
      have x2 : wr.cell? ⟨w.heap.size, 2, none⟩ = some (.int .i64 L) := hbx.cell 2
      have x3 : wr.cell? ⟨w.heap.size, 3, none⟩ = some (.int .i64 wn) := hbx.cell 3
      have x4 : wr.cell? ⟨w.heap.size, 4, none⟩ = some (.int .i64 fl) := hbx.cell 4
      have x5 : wr.cell? ⟨w.heap.size, 5, none⟩ = some (.bool false) := hbx.cell 5
      have y0 := hbx.frozen 0
      have y1 := hbx.frozen 1
      have y2 := hbx.frozen 2
      have y3 := hbx.frozen 3
      have y4 := hbx.frozen 4
      have y5 := hbx.frozen 5
      have hw1 : IntKind.i64.wrap (fl + 1) = fl + 1 := IntWalk.i64_in _ (by omega)
      have HR3 := hide hr3
      have HBE := hide hbE
      clear hbyte hr1 hr2 hr3 hbE hbx hrow hbel hfar
      go_wp2_with fail
      exact bodyPost_ret (v := .tuple #[dV (.slice A1 n c1) (.slice none 0 0) L wn (fl + 1) false, .slice none 0 0, .int .i64 0]) (by simp [results, Try.results11, go_sem, dV, r0, r1, r2, r3, r4, r5]) rfl ⟨_, _, _, _, _, _, _, _, rfl, hnc1, Nat.le_refl _, HR3.out, RdE.none_ _ _ _ _, Bs.none_ _ _ _, HBE.out⟩

end Go.Proofs.Ytnjmddmiebofeaa
