/- The contract of the reference's Go (layer 5): a write that comes through. -/
import Derived.Test.YtnjmddmiebofeaaRefDevI
import Derived.Test.YtnjmddmiebofeaaMemG
import Derived.Test.YtnjmddmiebofeaaPlanT
namespace Go.Proofs.Ytnjmddmiebofeaa
open Go.RowKit Plain

theorem info_pen : (Try.prog.info? 87).map (fun i => (i.zero, i.size, i.bytes)) = some (some (.agg #[.int .i64 0, .slice none 0 0]), penE.k, 32) := by kernel_rfl
theorem Own.up {w : World} {b B e n c g : Nat} {l : List UInt8} (h : Own w b e (some ⟨g, 0, none⟩) n c l) (hB : B ≤ g) : Own w B e (some ⟨g, 0, none⟩) n c l := by
  refine ⟨h.1, ?_⟩
  rcases h.2 with h0 | ⟨g', cap, cur, h1, h2, h3⟩
  · exact .inl h0
  · refine .inr ⟨g', cap, cur, h1, ?_, h3⟩
    cases h1
    exact hB
/-- append onto an empty literal of bytes: the row lies in a new block. -/
theorem wp_append_bytes0 {P : Program} (w : World) {o : Oper} {a : Act} {K : Act → World → Prop} {Q : Exit → Act → World → Prop} (s x : Operand) (t : TypeId)
    (ho : o.op = .call { callee := .builtin .append, args := #[s, x], argTypes := #[t, t] })
    (base : Nat) (e : TypeId) (ht : P.underlying t = some (.slice e)) (hinfo : (P.info? e).map (fun i => (i.zero, i.size, i.bytes)) = some (some (.int .u8 0), 1, 1))
    (p : Nat) (hs : a.eval s = .slice (some ⟨p, 0, none⟩) 0 0) (hown : Own w base e (some ⟨p, 0, none⟩) 0 0 []) (B : Nat) (A : Option Addr) (m c : Nat) (l1 : List UInt8) (hx : a.eval x = .slice A m c) (hb : Bs w B A m l1) (hm : 0 < m)
    (hbytes : m ≤ 140737488355328) (hbase : base ≤ w.heap.size)
    (h : ∀ A' c' w', Own w' w.heap.size e A' m c' l1 → Below w.heap.size w w' → K (a.put o.dst (.slice A' m c')) w') : o.wp P a w K Q := by
  obtain ⟨v', w', hr, h2, h3⟩ := run_append_Bs (P := P) w base t o.type e ht hinfo _ 0 [] hown B A m c l1 hb (by omega) hbase
  obtain ⟨i, hi, hz, hsz, hby⟩ := info_parts hinfo
  obtain ⟨b, off, rfl, hlt, hcell⟩ := hb.2 hm
  have h4 := run_append_grow (P := P) w t o.type e i _ ht hi hz ⟨p, 0, none⟩ 0 0 [] (by simp) (by simp) ⟨b, off, none⟩ m c (bvs l1) (by rw [hsz, bvs_length, hb.1]; omega) (fun j u hu => by
    unfold bvs at hu
    rw [List.getElem?_map, Option.map_eq_some_iff] at hu
    obtain ⟨y, hy, rfl⟩ := hu
    have := hcell j y hy
    rw [← this]
    congr 1
    unfold Addr.add
    split
    · rename_i h0; subst h0; rfl
    · rfl) (by omega) (by omega) (growslice_fits (by omega) (by rw [hby]; omega))
  rw [hr] at h4
  rw [Nat.zero_add] at h4 h2
  have e1 := congrArg (fun r => match r with | Result.ok v w => some (v, w) | _ => none) h4
  simp only [Option.some.injEq, Prod.mk.injEq] at e1
  obtain ⟨rfl, rfl⟩ := e1
  unfold Oper.wp execOp
  simp only [ho, resolve, invoke, builtin, Sem.run_bind, Sem.run_pure, Result.andThen_ok, List.map_toArray, List.map_cons, List.map_nil, hs, hx, hr]
  exact h _ _ _ (Own.up (b := base) (by simp only [List.nil_append] at h2; exact h2) (Nat.le_refl _)) ((Below.refl _ _).drew.alloc (Nat.le_refl _) _)
set_option maxRecDepth 100000 in
set_option maxHeartbeats 3200000 in
theorem RDGo_write {w : World} {A A2 AB AK : Option Addr} {n c m c2 cb nk ck : Nat} {safe : List (List UInt8)} {wait : List (Int × List UInt8)} {lf : Int} {q : Nat} {x : List UInt8} (wn fl : Int) (hs : RdE Enc.bytes w (Und w) A n safe) (hnc : n ≤ c) (hw : RdE penE w (Und w) A2 m wait) (_ : m ≤ c2) (h : lf ≠ 0) (h2 : lf ≤ 9223372036854775807) (hf1 : -1000000000 ≤ wn) (hf2 : wn ≤ 1000000000) (hm : m ≤ 1000000) (hi : q < n) (hx : Bs w w.heap.size AB 64 x) :
    Calls Try.prog 11 #[.agg #[.slice A n c, .slice A2 m c2, .int .i64 lf, .int .i64 wn, .int .i64 fl, .bool false], .agg #[.int .i64 1, .int .i64 (q : Int), .slice AB 64 cb, .slice AK nk ck]] w (GRet w n safe (wait ++ [((q : Int), x)]) (leftS lf) (wn + 1) fl false [] 0) := by
  obtain ⟨L, hL⟩ : ∃ L, leftS lf = L := ⟨_, rfl⟩
  have g0 : decide ((q : Int) < 0) = false := by simp
  have g1 : decide ((n : Int) ≤ (q : Int)) = false := by simp; omega
  have hwl := hw.len
  have HS := hide hs
  have HW := hide hw
  have HX := hide hx
  have hbn := RDBurn_yes (A := A) (A2 := A2) (n := n) (c := c) (m := m) (c2 := c2) (wn := wn) (fl := fl) (((w.alloc (.cells #[.slice A n c, .slice A2 m c2, .int .i64 lf, .int .i64 wn, .int .i64 fl, .bool false] 31)).alloc (.cells #[.int .i64 1, .int .i64 (q : Int), .slice AB 64 cb, .slice AK nk ck] 41)).alloc (.cells d0.toArray 31)) h h2
  rw [hL] at hbn ⊢
  have HBN := hide hbn
  clear hbn hs h h2 hL hw hx
  go_enter Try.func11, Try.ntmps11
  go_wp2_with fail
  refine HBN.out.mono ?_
  clear HBN
  rintro e w1 ⟨he, hbel⟩
  unfold dV at he
  subst he
  have hrow : RowL w1 (w.heap.size + 2) 31 d0 := by
    have := RowL.new ((w.alloc (.cells #[.slice A n c, .slice A2 m c2, .int .i64 lf, .int .i64 wn, .int .i64 fl, .bool false] 31)).alloc (.cells #[.int .i64 1, .int .i64 (q : Int), .slice AB 64 cb, .slice AK nk ck] 41)) 31 d0
    exact (hbel.block _ (by simp)).trans (by simpa [d0, RowL] using this)
  have hbox : RowL w1 w.heap.size 31 [.slice A n c, .slice A2 m c2, .int .i64 lf, .int .i64 wn, .int .i64 fl, .bool false] := by
    have := ((RowL.new w 31 [.slice A n c, .slice A2 m c2, .int .i64 lf, .int .i64 wn, .int .i64 fl, .bool false]).grown (World.grownBy_alloc _ (.cells #[.int .i64 1, .int .i64 (q : Int), .slice AB 64 cb, .slice AK nk ck] 41) none) (by simp)).grown (World.grownBy_alloc _ (.cells d0.toArray 31) none) (by simp)
    exact (hbel.block _ (by simp; omega)).trans this
  have hstep : RowL w1 (w.heap.size + 1) 41 [.int .i64 1, .int .i64 (q : Int), .slice AB 64 cb, .slice AK nk ck] := by
    have := (RowL.new (w.alloc (.cells #[.slice A n c, .slice A2 m c2, .int .i64 lf, .int .i64 wn, .int .i64 fl, .bool false] 31)) 41 [.int .i64 1, .int .i64 (q : Int), .slice AB 64 cb, .slice AK nk ck]).grown (World.grownBy_alloc _ (.cells d0.toArray 31) none) (by simp)
    exact (hbel.block _ (by simp)).trans (by simpa [d0, RowL] using this)
  have s0 : w1.cell? ⟨w.heap.size + 1, 0, none⟩ = some (.int .i64 1) := hstep.cell 0
  have hlt : w.heap.size + 2 < w1.heap.size := by have := hbel.size; simp at this; omega
  have k0 : w1.cell? ⟨w.heap.size, 0, none⟩ = some (.slice A n c) := hbox.cell 0
  have e0 := hbox.frozen 0
  have k1 : w1.cell? ⟨w.heap.size, 1, none⟩ = some (.slice A2 m c2) := hbox.cell 1
  have e1 := hbox.frozen 1
  have k2 : w1.cell? ⟨w.heap.size, 2, none⟩ = some (.int .i64 lf) := hbox.cell 2
  have e2 := hbox.frozen 2
  have k3 : w1.cell? ⟨w.heap.size, 3, none⟩ = some (.int .i64 wn) := hbox.cell 3
  have e3 := hbox.frozen 3
  have k4 : w1.cell? ⟨w.heap.size, 4, none⟩ = some (.int .i64 fl) := hbox.cell 4
  have e4 := hbox.frozen 4
  have k5 : w1.cell? ⟨w.heap.size, 5, none⟩ = some (.bool false) := hbox.cell 5
  have e5 := hbox.frozen 5
  have hbS : Below w.heap.size w ((((((w1.setCell ⟨w.heap.size, 0, none⟩ (.slice A n c)).setCell ⟨w.heap.size, 1, none⟩ (.slice A2 m c2)).setCell ⟨w.heap.size, 2, none⟩ (.int .i64 L)).setCell ⟨w.heap.size, 3, none⟩ (.int .i64 wn)).setCell ⟨w.heap.size, 4, none⟩ (.int .i64 fl)).setCell ⟨w.heap.size, 5, none⟩ (.bool false)) := (((((((below_step (below_new (below_new (below_new (below_self w) _) _) _) hbel).setCell (by simp) _).setCell (by simp) _).setCell (by simp) _).setCell (by simp) _).setCell (by simp) _).setCell (by simp) _)
  have hboxS : RowL ((((((w1.setCell ⟨w.heap.size, 0, none⟩ (.slice A n c)).setCell ⟨w.heap.size, 1, none⟩ (.slice A2 m c2)).setCell ⟨w.heap.size, 2, none⟩ (.int .i64 L)).setCell ⟨w.heap.size, 3, none⟩ (.int .i64 wn)).setCell ⟨w.heap.size, 4, none⟩ (.int .i64 fl)).setCell ⟨w.heap.size, 5, none⟩ (.bool false)) w.heap.size 31 [.slice A n c, .slice A2 m c2, .int .i64 L, .int .i64 wn, .int .i64 fl, .bool false] := (((((hbox.set_ 0 _).set_ 1 _).set_ 2 _).set_ 3 _).set_ 4 _).set_ 5 _
  have hrowS : RowL ((((((w1.setCell ⟨w.heap.size, 0, none⟩ (.slice A n c)).setCell ⟨w.heap.size, 1, none⟩ (.slice A2 m c2)).setCell ⟨w.heap.size, 2, none⟩ (.int .i64 L)).setCell ⟨w.heap.size, 3, none⟩ (.int .i64 wn)).setCell ⟨w.heap.size, 4, none⟩ (.int .i64 fl)).setCell ⟨w.heap.size, 5, none⟩ (.bool false)) (w.heap.size + 2) 31 d0 := hrow.keep (D := fun b => b ≠ w.heap.size) (((((((Kept.refl _ w1).set_ (fun _ h => h) _ _).set_ (fun _ h => h) _ _).set_ (fun _ h => h) _ _).set_ (fun _ h => h) _ _).set_ (fun _ h => h) _ _).set_ (fun _ h => h) _ _) (by omega)
  have hstS : RowL ((((((w1.setCell ⟨w.heap.size, 0, none⟩ (.slice A n c)).setCell ⟨w.heap.size, 1, none⟩ (.slice A2 m c2)).setCell ⟨w.heap.size, 2, none⟩ (.int .i64 L)).setCell ⟨w.heap.size, 3, none⟩ (.int .i64 wn)).setCell ⟨w.heap.size, 4, none⟩ (.int .i64 fl)).setCell ⟨w.heap.size, 5, none⟩ (.bool false)) (w.heap.size + 1) 41 [.int .i64 1, .int .i64 (q : Int), .slice AB 64 cb, .slice AK nk ck] := hstep.keep (D := fun b => b ≠ w.heap.size) (((((((Kept.refl _ w1).set_ (fun _ h => h) _ _).set_ (fun _ h => h) _ _).set_ (fun _ h => h) _ _).set_ (fun _ h => h) _ _).set_ (fun _ h => h) _ _).set_ (fun _ h => h) _ _) (by omega)
  have HBS := hide hbS
  have HXS := hide hboxS
  have HRS := hide hrowS
  have HST := hide hstS
  clear hrow hbox hstep hbel hbS hboxS hrowS hstS
  go_wp2_with fail
  generalize ((((((w1.setCell ⟨w.heap.size, 0, none⟩ (.slice A n c)).setCell ⟨w.heap.size, 1, none⟩ (.slice A2 m c2)).setCell ⟨w.heap.size, 2, none⟩ (.int .i64 L)).setCell ⟨w.heap.size, 3, none⟩ (.int .i64 wn)).setCell ⟨w.heap.size, 4, none⟩ (.int .i64 fl)).setCell ⟨w.heap.size, 5, none⟩ (.bool false)) = w2 at *
  clear s0 hlt k0 e0 k1 e1 k2 e2 k3 e3 k4 e4 k5 e5
  obtain ⟨b0, hb0⟩ : ∃ b0, w2.heap.size = b0 := ⟨_, rfl⟩
  have hlt : w.heap.size + 2 < b0 := by rw [← hb0]; exact RowL.lt HRS.out
  have HSS : Hid (∀ X W : World, Below b0 X W → (Below w.heap.size w X ∧ b0 ≤ X.heap.size ∧ X.cell? ⟨w.heap.size, 1, none⟩ = some (.slice A2 m c2) ∧ X.cell? ⟨w.heap.size + 1, 1, none⟩ = some (.int .i64 (q : Int)) ∧ X.cell? ⟨w.heap.size + 1, 2, none⟩ = some (.slice AB 64 cb) ∧ RowL X w.heap.size 31 [.slice A n c, .slice A2 m c2, .int .i64 L, .int .i64 wn, .int .i64 fl, .bool false] ∧ RowL X (w.heap.size + 2) 31 d0) → (Below w.heap.size w W ∧ b0 ≤ W.heap.size ∧ W.cell? ⟨w.heap.size, 1, none⟩ = some (.slice A2 m c2) ∧ W.cell? ⟨w.heap.size + 1, 1, none⟩ = some (.int .i64 (q : Int)) ∧ W.cell? ⟨w.heap.size + 1, 2, none⟩ = some (.slice AB 64 cb) ∧ RowL W w.heap.size 31 [.slice A n c, .slice A2 m c2, .int .i64 L, .int .i64 wn, .int .i64 fl, .bool false] ∧ RowL W (w.heap.size + 2) 31 d0)) := hide (fun X W hb h => ⟨h.1.trans (hb.mono (by omega)), Nat.le_trans h.2.1 hb.size, cell_on h.2.2.1 hb (by omega), cell_on h.2.2.2.1 hb (by omega), cell_on h.2.2.2.2.1 hb (by omega), (hb.block _ (by omega)).trans h.2.2.2.2.2.1, (hb.block _ (by omega)).trans h.2.2.2.2.2.2⟩)
  refine wp_region_treeL (fun w' => Below w.heap.size w w' ∧ b0 ≤ w'.heap.size ∧ w'.cell? ⟨w.heap.size, 1, none⟩ = some (.slice A2 m c2) ∧ w'.cell? ⟨w.heap.size + 1, 1, none⟩ = some (.int .i64 (q : Int)) ∧ w'.cell? ⟨w.heap.size + 1, 2, none⟩ = some (.slice AB 64 cb) ∧ RowL w' w.heap.size 31 [.slice A n c, .slice A2 m c2, .int .i64 L, .int .i64 wn, .int .i64 fl, .bool false] ∧ RowL w' (w.heap.size + 2) 31 d0) (.one 1 true (.one 2 true (.one 4 true (.one 5 true (.one 7 true (.one 8 true (.two 0 (.two 3 (.one 6 false (.one 9 false (.one 10 true (.one 11 false (.one 12 false (.one 13 true .leaf)))))) 6 (.one 3 false (.one 9 false (.one 10 true (.one 11 false (.one 12 false (.one 13 true .leaf))))))) 6 (.one 0 false (.one 3 false (.one 9 false (.one 10 true (.one 11 false (.one 12 false (.one 13 true .leaf)))))))))))))) 14 (by kernel_rfl) (by kernel_rfl) (by kernel_rfl) (by kernel_rfl) (by kernel_rfl) rfl (fun _ _ _ _ _ h => h) ⟨HBS.out.drew, by simp [hb0], HXS.out.cell 1, HST.out.cell 1, HST.out.cell 2, HXS.out, HRS.out⟩ (fun hHeld => ?_)
  simp only [Tree.map, List.getElem?_toArray, List.getElem?_cons_succ, List.getElem?_cons_zero]
  generalize w2.drew = u0 at *
  clear hb0 HBS HXS HRS HST
  refine wpTree_take (v := ?_) (by kernel_rfl) (fun wS hSw => ?_) ?_
  rotate_left
  · (try dsimp only at hSw); go_simp; (try with_reducible rfl)
  (try simp only [Act.put, List.setIfInBounds_toArray, List.set_cons_zero, List.set_cons_succ])
  refine wpTree_take (v := ?_) (by kernel_rfl) (fun wS hSw => ?_) ?_
  rotate_left
  · (try dsimp only at hSw); go_simp; (try with_reducible rfl)
  (try simp only [Act.put, List.setIfInBounds_toArray, List.set_cons_zero, List.set_cons_succ])
  refine wpTree_take (v := ?_) (by kernel_rfl) (fun wS hSw => ?_) ?_
  rotate_left
  · (try dsimp only at hSw); go_simp; (try with_reducible rfl)
  (try simp only [Act.put, List.setIfInBounds_toArray, List.set_cons_zero, List.set_cons_succ])
  refine wpTree_take (v := ?_) (by kernel_rfl) (fun wS hSw => ?_) ?_
  rotate_left
  · (try dsimp only at hSw); go_simp; (try with_reducible rfl)
  (try simp only [Act.put, List.setIfInBounds_toArray, List.set_cons_zero, List.set_cons_succ])
  refine wpTree_take (v := ?_) (by kernel_rfl) (fun wS hSw => ?_) ?_
  rotate_left
  · (try dsimp only at hSw); go_simp; (try with_reducible rfl)
  (try simp only [Act.put, List.setIfInBounds_toArray, List.set_cons_zero, List.set_cons_succ])
  refine wpTree_take (v := ?_) (by kernel_rfl) (fun wS hSw => ?_) ?_
  rotate_left
  · (try dsimp only at hSw); go_simp; (try with_reducible rfl)
  (try simp only [Act.put, List.setIfInBounds_toArray, List.set_cons_zero, List.set_cons_succ])
  refine wpTree_two (by kernel_rfl) (by kernel_rfl) (fun K hK => ?_) (fun K hK => ?_)
  · have hOld := hide hHeld
    clear hHeld
    unfold Oper.wp execOp
    go_simp
    have HP : Hid (OwE penE (u0.alloc (.cells #[] 87)) b0 87 (some ⟨u0.heap.size, 0, none⟩) 0 0 []) := hide (OwE.empty_up penE u0 87 _ b0 (by simp) hOld.out.2.1)
    have hpb : b0 ≤ u0.heap.size := hOld.out.2.1
    refine hK.out _ _ (HSS.out _ _ ((below_new (below_self u0) _).mono hOld.out.2.1) hOld.out) (fun hHeld => ?_)
    clear hK K hOld
    (try simp only [Act.put, List.setIfInBounds_toArray, List.set_cons_zero, List.set_cons_succ])
    refine wpTree_two (by kernel_rfl) (by kernel_rfl) (fun K hK => ?_) (fun K hK => ?_)
    · have hOld := hide hHeld
      clear hHeld
      refine wp_append_lit0 (u0.alloc (.cells #[] 87)) (.tmp 78) (.tmp 80) 29 rfl b0 87 _ 32 Try.underlying29 info_pen rfl (by decide) u0.heap.size rfl HP.out (Und w) A2 m c2 wait rfl (HW.out.mono (Kept.of_below hOld.out.1 fun _ h => h.1) (fun _ h => h)) (fun b hb => ⟨hb.on hOld.out.1, fun a ha => by cases ha; have := hb.1; show b ≠ u0.heap.size; omega⟩) (by omega) (by omega) hOld.out.2.1 ?_
      intro A3 c3 w3 ho3 hbel3 _
      have HO := hide ho3
      refine hK.out _ _ (HSS.out _ _ (hbel3.mono hOld.out.2.1) hOld.out) (fun hHeld => ?_)
      clear hK K hOld
      (try simp only [Act.put, List.setIfInBounds_toArray, List.set_cons_zero, List.set_cons_succ])
      clear ho3 hbel3
      refine wpTree_call (by kernel_rfl) (fun K hK => ?_)
      have hOld := hide hHeld
      clear hHeld
      unfold Oper.wp execOp
      go_simp
      have HQ : Hid (Own (w3.alloc (.cells #[] 5)) b0 5 (some ⟨w3.heap.size, 0, none⟩) 0 0 []) := hide (own_empty_up w3 5 _ b0 (by simp) hOld.out.2.1)
      refine hK.out _ _ (HSS.out _ _ ((below_new (below_self w3) _).mono hOld.out.2.1) hOld.out) (fun hHeld => ?_)
      clear hK K hOld
      (try simp only [Act.put, List.setIfInBounds_toArray, List.set_cons_zero, List.set_cons_succ])
      have HOx := hide (HO.out.alloc (.cells #[] 5))
      clear HO
      have HO := HOx
      clear HOx
      have HLT := hide HO.out.lt
      refine wpTree_call (by kernel_rfl) (fun K hK => ?_)
      have hOld := hide hHeld
      clear hHeld
      refine wp_append_bytes0 (w3.alloc (.cells #[] 5)) (.tmp 84) (.tmp 86) 22 rfl b0 5 Try.underlying22 info8d w3.heap.size rfl HQ.out w.heap.size AB 64 cb x rfl (HX.out.below hOld.out.1) (by omega) (by omega) hOld.out.2.1 ?_
      intro A5 c5 w5 ho5 hbel5
      have HO5 := hide ho5
      have HOa := hide (HO.out.below hbel5)
      have hwz := hbel5.size
      have hbl := hbel5.mono hOld.out.2.1
      clear ho5 hbel5
      refine hK.out _ _ (HSS.out _ _ (hbl) hOld.out) (fun hHeld => ?_)
      clear hK K hOld
      (try simp only [Act.put, List.setIfInBounds_toArray, List.set_cons_zero, List.set_cons_succ])
      clear hbl
      refine wpTree_take (v := ?_) (by kernel_rfl) (fun wS hSw => ?_) ?_
      rotate_left
      · (try dsimp only at hSw); go_simp; (try with_reducible rfl)
      (try simp only [Act.put, List.setIfInBounds_toArray, List.set_cons_zero, List.set_cons_succ])
      refine wpTree_call (by kernel_rfl) (fun K hK => ?_)
      have hOld := hide hHeld
      clear hHeld
      unfold Oper.wp execOp
      go_simp
      refine hK.out _ _ (HSS.out _ _ ((below_new (below_self w5) _).mono hOld.out.2.1) hOld.out) (fun hHeld => ?_)
      clear hK K hOld
      (try simp only [Act.put, List.setIfInBounds_toArray, List.set_cons_zero, List.set_cons_succ])
      have HO7 := hide (HOa.out.alloc (.cells #[.int .i64 (q : Int), .slice A5 64 c5] 87))
      have hlit : RdE penE (w5.alloc (.cells #[.int .i64 (q : Int), .slice A5 64 c5] 87)) (fun b => ((w3.alloc (.cells #[] 5)).heap.size ≤ b ∧ Und w5 b) ∨ b = w5.heap.size) (some ⟨w5.heap.size, 0, none⟩) 1 [((q : Int), x)] := by
        obtain ⟨g, cs, hA5, hg, hrg, _⟩ := HO5.out.row (by omega)
        exact RdE.one _ (cs := [.int .i64 (q : Int), .slice A5 64 c5]) ⟨[.int .i64 (q : Int)], [.slice A5 64 c5], rfl, rfl, A5, 64, c5, rfl, HO5.out.cap, RdE.of_bs HO5.out.bs (fun _ a ha => by rw [hA5] at ha; cases ha; exact ⟨hg, Und.row hrg (by decide)⟩)⟩ (fun b hb => hb.2.1)
      have HLI := hide hlit
      clear hlit HOa HO5
      refine wpTree_call (by kernel_rfl) (fun K hK => ?_)
      have hOld := hide hHeld
      clear hHeld
      refine wp_append_OwE (w5.alloc (.cells #[.int .i64 (q : Int), .slice A5 64 c5] 87)) (.tmp 81) (.tmp 89) 29 rfl b0 87 _ 32 Try.underlying29 info_pen rfl (by decide) _ m _ _ rfl HO7.out _ _ 1 1 _ rfl HLI.out (fun b hb => ⟨hb.elim (fun h => h.2.on (below_new (below_self w5) _)) (fun h => by subst h; exact Und.row (heap_alloc_new w5 _) (by decide)), fun a ha => by have := HLT.out a ha; have hb2 : (w3.alloc (.cells #[] 5)).heap.size ≤ b := hb.elim (fun h => h.1) (fun h => by omega); omega⟩) (m + 1) rfl (by omega) (by omega) hOld.out.2.1 ?_
      intro A8 c8 w8 ho8 hbel8
      have HO8 := hide ho8
      clear ho8
      refine hK.out _ _ (HSS.out _ _ (hbel8) hOld.out) (fun hHeld => ?_)
      clear hK K hOld
      (try simp only [Act.put, List.setIfInBounds_toArray, List.set_cons_zero, List.set_cons_succ])
      clear hbel8 HLI HO7 HLT HO HQ
      refine wpTree_take (v := ?_) (by kernel_rfl) (fun wS hSw => ?_) ?_
      rotate_left
      · (try dsimp only at hSw); go_simp; (try with_reducible rfl)
      (try simp only [Act.put, List.setIfInBounds_toArray, List.set_cons_zero, List.set_cons_succ])
      have hbx := hHeld.2.2.2.2.2.1
      have hrw := hHeld.2.2.2.2.2.2
      have HB := hide hHeld.1
      have x0 : w8.cell? ⟨w.heap.size, 0, none⟩ = some (.slice A n c) := hbx.cell 0
      have x1 : w8.cell? ⟨w.heap.size, 1, none⟩ = some (.slice A2 m c2) := hbx.cell 1
      have x2 : w8.cell? ⟨w.heap.size, 2, none⟩ = some (.int .i64 L) := hbx.cell 2
      have x3 : w8.cell? ⟨w.heap.size, 3, none⟩ = some (.int .i64 wn) := hbx.cell 3
      have x4 : w8.cell? ⟨w.heap.size, 4, none⟩ = some (.int .i64 fl) := hbx.cell 4
      have x5 : w8.cell? ⟨w.heap.size, 5, none⟩ = some (.bool false) := hbx.cell 5
      have y0 := hbx.frozen 0
      have y1 := hbx.frozen 1
      have y2 := hbx.frozen 2
      have y3 := hbx.frozen 3
      have y4 := hbx.frozen 4
      have y5 := hbx.frozen 5
      have r0 : w8.cell? ⟨w.heap.size + 2, 0, none⟩ = some (.slice none 0 0) := hrw.cell 0
      have r1 : w8.cell? ⟨w.heap.size + 2, 1, none⟩ = some (.slice none 0 0) := hrw.cell 1
      have r2 : w8.cell? ⟨w.heap.size + 2, 2, none⟩ = some (.int .i64 0) := hrw.cell 2
      have r3 : w8.cell? ⟨w.heap.size + 2, 3, none⟩ = some (.int .i64 0) := hrw.cell 3
      have r4 : w8.cell? ⟨w.heap.size + 2, 4, none⟩ = some (.int .i64 0) := hrw.cell 4
      have r5 : w8.cell? ⟨w.heap.size + 2, 5, none⟩ = some (.bool false) := hrw.cell 5
      have f0 := hrw.frozen 0
      have f1 := hrw.frozen 1
      have f2 := hrw.frozen 2
      have f3 := hrw.frozen 3
      have f4 := hrw.frozen 4
      have f5 := hrw.frozen 5
      have hw1 : IntKind.i64.wrap (wn + 1) = wn + 1 := IntWalk.i64_in _ (by omega)
      have hcap8 := HO8.out.cap
      have hr8 : RdE penE ((((((((w8.setCell ⟨w.heap.size, 1, none⟩ (.slice A8 (m + 1) c8)).setCell ⟨w.heap.size, 3, none⟩ (.int .i64 (wn + 1))).setCell ⟨w.heap.size + 2, 0, none⟩ (.slice A n c)).setCell ⟨w.heap.size + 2, 1, none⟩ (.slice A8 (m + 1) c8)).setCell ⟨w.heap.size + 2, 2, none⟩ (.int .i64 L)).setCell ⟨w.heap.size + 2, 3, none⟩ (.int .i64 (wn + 1))).setCell ⟨w.heap.size + 2, 4, none⟩ (.int .i64 fl)).setCell ⟨w.heap.size + 2, 5, none⟩ (.bool false)) (Und ((((((((w8.setCell ⟨w.heap.size, 1, none⟩ (.slice A8 (m + 1) c8)).setCell ⟨w.heap.size, 3, none⟩ (.int .i64 (wn + 1))).setCell ⟨w.heap.size + 2, 0, none⟩ (.slice A n c)).setCell ⟨w.heap.size + 2, 1, none⟩ (.slice A8 (m + 1) c8)).setCell ⟨w.heap.size + 2, 2, none⟩ (.int .i64 L)).setCell ⟨w.heap.size + 2, 3, none⟩ (.int .i64 (wn + 1))).setCell ⟨w.heap.size + 2, 4, none⟩ (.int .i64 fl)).setCell ⟨w.heap.size + 2, 5, none⟩ (.bool false))) A8 (m + 1) (wait ++ [((q : Int), x)]) := (((HO8.out.rd (by decide)).notin_pens (g := w.heap.size) (HO8.out.off (by omega)) (hbx.noByte (by intro v hv x e; subst e; simp at hv))).notin_pens (g := w.heap.size + 2) (HO8.out.off (by omega)) (d0_byte hrw)).mono (((((((((Kept.refl _ w8).set_ (fun _ h => h.1.2) _ _).set_ (fun _ h => h.1.2) _ _).set_ (fun _ h => h.2) _ _).set_ (fun _ h => h.2) _ _).set_ (fun _ h => h.2) _ _).set_ (fun _ h => h.2) _ _).set_ (fun _ h => h.2) _ _).set_ (fun _ h => h.2) _ _) (fun _ h => ((((((((h.1.1.set h.1.2 _ _).set h.1.2 _ _).set h.2 _ _).set h.2 _ _).set h.2 _ _).set h.2 _ _).set h.2 _ _).set h.2 _ _))
      have hbE : Below w.heap.size w ((((((((w8.setCell ⟨w.heap.size, 1, none⟩ (.slice A8 (m + 1) c8)).setCell ⟨w.heap.size, 3, none⟩ (.int .i64 (wn + 1))).setCell ⟨w.heap.size + 2, 0, none⟩ (.slice A n c)).setCell ⟨w.heap.size + 2, 1, none⟩ (.slice A8 (m + 1) c8)).setCell ⟨w.heap.size + 2, 2, none⟩ (.int .i64 L)).setCell ⟨w.heap.size + 2, 3, none⟩ (.int .i64 (wn + 1))).setCell ⟨w.heap.size + 2, 4, none⟩ (.int .i64 fl)).setCell ⟨w.heap.size + 2, 5, none⟩ (.bool false)) := ((((((((HB.out.setCell (by simp) _).setCell (by simp) _).setCell (by simp) _).setCell (by simp) _).setCell (by simp) _).setCell (by simp) _).setCell (by simp) _).setCell (by simp) _)
      have HR8 := hide hr8
      have HBE := hide hbE
      clear hr8 hbE hbx hrw hHeld HO8 HB HSS
      refine wpTree_leaf ?_
      refine postL_go rfl (by kernel_rfl) ?_
      unfold Oper.wp execOp
      go_simp
      go_wp2_with fail
      exact bodyPost_ret (v := .tuple #[dV (.slice A n c) (.slice A8 (m + 1) c8) L (wn + 1) fl false, .slice none 0 0, .int .i64 0]) (by simp [results, Try.results11, go_sem, dV, r0, r1, r2, r3, r4, r5]) rfl ⟨_, _, _, _, _, _, _, _, rfl, hnc, hcap8, HS.out.ond HBE.out, HR8.out, Bs.none_ _ _ _, HBE.out⟩
    · have hOld := hide hHeld
      clear hHeld
      unfold Oper.wp execOp
      go_simp
      have HQ : Hid (Own ((u0.alloc (.cells #[] 87)).alloc (.cells #[] 5)) b0 5 (some ⟨(u0.heap.size + 1), 0, none⟩) 0 0 []) := hide (own_empty_up (u0.alloc (.cells #[] 87)) 5 _ b0 (by simp) (by have := hOld.out.2.1; simp at this; omega))
      refine hK.out _ _ (HSS.out _ _ ((below_new (below_self (u0.alloc (.cells #[] 87))) _).mono hOld.out.2.1) hOld.out) (fun hHeld => ?_)
      clear hK K hOld
      (try simp only [Act.put, List.setIfInBounds_toArray, List.set_cons_zero, List.set_cons_succ])
      have HPx := hide (HP.out.alloc (.cells #[] 5))
      clear HP
      have HP := HPx
      clear HPx
      refine wpTree_call (by kernel_rfl) (fun K hK => ?_)
      have hOld := hide hHeld
      clear hHeld
      refine wp_append_lit0 ((u0.alloc (.cells #[] 87)).alloc (.cells #[] 5)) (.tmp 78) (.tmp 80) 29 rfl b0 87 _ 32 Try.underlying29 info_pen rfl (by decide) u0.heap.size rfl HP.out (Und w) A2 m c2 wait rfl (HW.out.mono (Kept.of_below hOld.out.1 fun _ h => h.1) (fun _ h => h)) (fun b hb => ⟨hb.on hOld.out.1, fun a ha => by cases ha; have := hb.1; show b ≠ u0.heap.size; omega⟩) (by omega) (by omega) hOld.out.2.1 ?_
      intro A3 c3 w3 ho3 hbel3 _
      have HO := hide ho3
      have HQx := hide (HQ.out.below hbel3)
      clear HQ
      have HQ := HQx
      clear HQx
      refine hK.out _ _ (HSS.out _ _ (hbel3.mono hOld.out.2.1) hOld.out) (fun hHeld => ?_)
      clear hK K hOld
      (try simp only [Act.put, List.setIfInBounds_toArray, List.set_cons_zero, List.set_cons_succ])
      clear ho3 hbel3
      have HLT := hide HO.out.lt
      refine wpTree_call (by kernel_rfl) (fun K hK => ?_)
      have hOld := hide hHeld
      clear hHeld
      refine wp_append_bytes0 w3 (.tmp 84) (.tmp 86) 22 rfl b0 5 Try.underlying22 info8d (u0.heap.size + 1) rfl HQ.out w.heap.size AB 64 cb x rfl (HX.out.below hOld.out.1) (by omega) (by omega) hOld.out.2.1 ?_
      intro A5 c5 w5 ho5 hbel5
      have HO5 := hide ho5
      have HOa := hide (HO.out.below hbel5)
      have hwz := hbel5.size
      have hbl := hbel5.mono hOld.out.2.1
      clear ho5 hbel5
      refine hK.out _ _ (HSS.out _ _ (hbl) hOld.out) (fun hHeld => ?_)
      clear hK K hOld
      (try simp only [Act.put, List.setIfInBounds_toArray, List.set_cons_zero, List.set_cons_succ])
      clear hbl
      refine wpTree_take (v := ?_) (by kernel_rfl) (fun wS hSw => ?_) ?_
      rotate_left
      · (try dsimp only at hSw); go_simp; (try with_reducible rfl)
      (try simp only [Act.put, List.setIfInBounds_toArray, List.set_cons_zero, List.set_cons_succ])
      refine wpTree_call (by kernel_rfl) (fun K hK => ?_)
      have hOld := hide hHeld
      clear hHeld
      unfold Oper.wp execOp
      go_simp
      refine hK.out _ _ (HSS.out _ _ ((below_new (below_self w5) _).mono hOld.out.2.1) hOld.out) (fun hHeld => ?_)
      clear hK K hOld
      (try simp only [Act.put, List.setIfInBounds_toArray, List.set_cons_zero, List.set_cons_succ])
      have HO7 := hide (HOa.out.alloc (.cells #[.int .i64 (q : Int), .slice A5 64 c5] 87))
      have hlit : RdE penE (w5.alloc (.cells #[.int .i64 (q : Int), .slice A5 64 c5] 87)) (fun b => (w3.heap.size ≤ b ∧ Und w5 b) ∨ b = w5.heap.size) (some ⟨w5.heap.size, 0, none⟩) 1 [((q : Int), x)] := by
        obtain ⟨g, cs, hA5, hg, hrg, _⟩ := HO5.out.row (by omega)
        exact RdE.one _ (cs := [.int .i64 (q : Int), .slice A5 64 c5]) ⟨[.int .i64 (q : Int)], [.slice A5 64 c5], rfl, rfl, A5, 64, c5, rfl, HO5.out.cap, RdE.of_bs HO5.out.bs (fun _ a ha => by rw [hA5] at ha; cases ha; exact ⟨hg, Und.row hrg (by decide)⟩)⟩ (fun b hb => hb.2.1)
      have HLI := hide hlit
      clear hlit HOa HO5
      refine wpTree_call (by kernel_rfl) (fun K hK => ?_)
      have hOld := hide hHeld
      clear hHeld
      refine wp_append_OwE (w5.alloc (.cells #[.int .i64 (q : Int), .slice A5 64 c5] 87)) (.tmp 81) (.tmp 89) 29 rfl b0 87 _ 32 Try.underlying29 info_pen rfl (by decide) _ m _ _ rfl HO7.out _ _ 1 1 _ rfl HLI.out (fun b hb => ⟨hb.elim (fun h => h.2.on (below_new (below_self w5) _)) (fun h => by subst h; exact Und.row (heap_alloc_new w5 _) (by decide)), fun a ha => by have := HLT.out a ha; have hb2 : w3.heap.size ≤ b := hb.elim (fun h => h.1) (fun h => by omega); omega⟩) (m + 1) rfl (by omega) (by omega) hOld.out.2.1 ?_
      intro A8 c8 w8 ho8 hbel8
      have HO8 := hide ho8
      clear ho8
      refine hK.out _ _ (HSS.out _ _ (hbel8) hOld.out) (fun hHeld => ?_)
      clear hK K hOld
      (try simp only [Act.put, List.setIfInBounds_toArray, List.set_cons_zero, List.set_cons_succ])
      clear hbel8 HLI HO7 HLT HO HQ
      refine wpTree_take (v := ?_) (by kernel_rfl) (fun wS hSw => ?_) ?_
      rotate_left
      · (try dsimp only at hSw); go_simp; (try with_reducible rfl)
      (try simp only [Act.put, List.setIfInBounds_toArray, List.set_cons_zero, List.set_cons_succ])
      have hbx := hHeld.2.2.2.2.2.1
      have hrw := hHeld.2.2.2.2.2.2
      have HB := hide hHeld.1
      have x0 : w8.cell? ⟨w.heap.size, 0, none⟩ = some (.slice A n c) := hbx.cell 0
      have x1 : w8.cell? ⟨w.heap.size, 1, none⟩ = some (.slice A2 m c2) := hbx.cell 1
      have x2 : w8.cell? ⟨w.heap.size, 2, none⟩ = some (.int .i64 L) := hbx.cell 2
      have x3 : w8.cell? ⟨w.heap.size, 3, none⟩ = some (.int .i64 wn) := hbx.cell 3
      have x4 : w8.cell? ⟨w.heap.size, 4, none⟩ = some (.int .i64 fl) := hbx.cell 4
      have x5 : w8.cell? ⟨w.heap.size, 5, none⟩ = some (.bool false) := hbx.cell 5
      have y0 := hbx.frozen 0
      have y1 := hbx.frozen 1
      have y2 := hbx.frozen 2
      have y3 := hbx.frozen 3
      have y4 := hbx.frozen 4
      have y5 := hbx.frozen 5
      have r0 : w8.cell? ⟨w.heap.size + 2, 0, none⟩ = some (.slice none 0 0) := hrw.cell 0
      have r1 : w8.cell? ⟨w.heap.size + 2, 1, none⟩ = some (.slice none 0 0) := hrw.cell 1
      have r2 : w8.cell? ⟨w.heap.size + 2, 2, none⟩ = some (.int .i64 0) := hrw.cell 2
      have r3 : w8.cell? ⟨w.heap.size + 2, 3, none⟩ = some (.int .i64 0) := hrw.cell 3
      have r4 : w8.cell? ⟨w.heap.size + 2, 4, none⟩ = some (.int .i64 0) := hrw.cell 4
      have r5 : w8.cell? ⟨w.heap.size + 2, 5, none⟩ = some (.bool false) := hrw.cell 5
      have f0 := hrw.frozen 0
      have f1 := hrw.frozen 1
      have f2 := hrw.frozen 2
      have f3 := hrw.frozen 3
      have f4 := hrw.frozen 4
      have f5 := hrw.frozen 5
      have hw1 : IntKind.i64.wrap (wn + 1) = wn + 1 := IntWalk.i64_in _ (by omega)
      have hcap8 := HO8.out.cap
      have hr8 : RdE penE ((((((((w8.setCell ⟨w.heap.size, 1, none⟩ (.slice A8 (m + 1) c8)).setCell ⟨w.heap.size, 3, none⟩ (.int .i64 (wn + 1))).setCell ⟨w.heap.size + 2, 0, none⟩ (.slice A n c)).setCell ⟨w.heap.size + 2, 1, none⟩ (.slice A8 (m + 1) c8)).setCell ⟨w.heap.size + 2, 2, none⟩ (.int .i64 L)).setCell ⟨w.heap.size + 2, 3, none⟩ (.int .i64 (wn + 1))).setCell ⟨w.heap.size + 2, 4, none⟩ (.int .i64 fl)).setCell ⟨w.heap.size + 2, 5, none⟩ (.bool false)) (Und ((((((((w8.setCell ⟨w.heap.size, 1, none⟩ (.slice A8 (m + 1) c8)).setCell ⟨w.heap.size, 3, none⟩ (.int .i64 (wn + 1))).setCell ⟨w.heap.size + 2, 0, none⟩ (.slice A n c)).setCell ⟨w.heap.size + 2, 1, none⟩ (.slice A8 (m + 1) c8)).setCell ⟨w.heap.size + 2, 2, none⟩ (.int .i64 L)).setCell ⟨w.heap.size + 2, 3, none⟩ (.int .i64 (wn + 1))).setCell ⟨w.heap.size + 2, 4, none⟩ (.int .i64 fl)).setCell ⟨w.heap.size + 2, 5, none⟩ (.bool false))) A8 (m + 1) (wait ++ [((q : Int), x)]) := (((HO8.out.rd (by decide)).notin_pens (g := w.heap.size) (HO8.out.off (by omega)) (hbx.noByte (by intro v hv x e; subst e; simp at hv))).notin_pens (g := w.heap.size + 2) (HO8.out.off (by omega)) (d0_byte hrw)).mono (((((((((Kept.refl _ w8).set_ (fun _ h => h.1.2) _ _).set_ (fun _ h => h.1.2) _ _).set_ (fun _ h => h.2) _ _).set_ (fun _ h => h.2) _ _).set_ (fun _ h => h.2) _ _).set_ (fun _ h => h.2) _ _).set_ (fun _ h => h.2) _ _).set_ (fun _ h => h.2) _ _) (fun _ h => ((((((((h.1.1.set h.1.2 _ _).set h.1.2 _ _).set h.2 _ _).set h.2 _ _).set h.2 _ _).set h.2 _ _).set h.2 _ _).set h.2 _ _))
      have hbE : Below w.heap.size w ((((((((w8.setCell ⟨w.heap.size, 1, none⟩ (.slice A8 (m + 1) c8)).setCell ⟨w.heap.size, 3, none⟩ (.int .i64 (wn + 1))).setCell ⟨w.heap.size + 2, 0, none⟩ (.slice A n c)).setCell ⟨w.heap.size + 2, 1, none⟩ (.slice A8 (m + 1) c8)).setCell ⟨w.heap.size + 2, 2, none⟩ (.int .i64 L)).setCell ⟨w.heap.size + 2, 3, none⟩ (.int .i64 (wn + 1))).setCell ⟨w.heap.size + 2, 4, none⟩ (.int .i64 fl)).setCell ⟨w.heap.size + 2, 5, none⟩ (.bool false)) := ((((((((HB.out.setCell (by simp) _).setCell (by simp) _).setCell (by simp) _).setCell (by simp) _).setCell (by simp) _).setCell (by simp) _).setCell (by simp) _).setCell (by simp) _)
      have HR8 := hide hr8
      have HBE := hide hbE
      clear hr8 hbE hbx hrw hHeld HO8 HB HSS
      refine wpTree_leaf ?_
      refine postL_go rfl (by kernel_rfl) ?_
      unfold Oper.wp execOp
      go_simp
      go_wp2_with fail
      exact bodyPost_ret (v := .tuple #[dV (.slice A n c) (.slice A8 (m + 1) c8) L (wn + 1) fl false, .slice none 0 0, .int .i64 0]) (by simp [results, Try.results11, go_sem, dV, r0, r1, r2, r3, r4, r5]) rfl ⟨_, _, _, _, _, _, _, _, rfl, hnc, hcap8, HS.out.ond HBE.out, HR8.out, Bs.none_ _ _ _, HBE.out⟩
  · have hOld := hide hHeld
    clear hHeld
    unfold Oper.wp execOp
    go_simp
    have HQ : Hid (Own (u0.alloc (.cells #[] 5)) b0 5 (some ⟨u0.heap.size, 0, none⟩) 0 0 []) := hide (own_empty_up u0 5 _ b0 (by simp) hOld.out.2.1)
    refine hK.out _ _ (HSS.out _ _ ((below_new (below_self u0) _).mono hOld.out.2.1) hOld.out) (fun hHeld => ?_)
    clear hK K hOld
    (try simp only [Act.put, List.setIfInBounds_toArray, List.set_cons_zero, List.set_cons_succ])
    refine wpTree_call (by kernel_rfl) (fun K hK => ?_)
    have hOld := hide hHeld
    clear hHeld
    unfold Oper.wp execOp
    go_simp
    have HP : Hid (OwE penE ((u0.alloc (.cells #[] 5)).alloc (.cells #[] 87)) b0 87 (some ⟨(u0.heap.size + 1), 0, none⟩) 0 0 []) := hide (OwE.empty_up penE (u0.alloc (.cells #[] 5)) 87 _ b0 (by simp) (by have := hOld.out.2.1; simp at this; omega))
    have hpb : b0 ≤ (u0.heap.size + 1) := (by have := hOld.out.2.1; simp at this; omega)
    refine hK.out _ _ (HSS.out _ _ ((below_new (below_self (u0.alloc (.cells #[] 5))) _).mono hOld.out.2.1) hOld.out) (fun hHeld => ?_)
    clear hK K hOld
    (try simp only [Act.put, List.setIfInBounds_toArray, List.set_cons_zero, List.set_cons_succ])
    have HQx := hide (HQ.out.alloc (.cells #[] 87))
    clear HQ
    have HQ := HQx
    clear HQx
    refine wpTree_call (by kernel_rfl) (fun K hK => ?_)
    have hOld := hide hHeld
    clear hHeld
    refine wp_append_lit0 ((u0.alloc (.cells #[] 5)).alloc (.cells #[] 87)) (.tmp 78) (.tmp 80) 29 rfl b0 87 _ 32 Try.underlying29 info_pen rfl (by decide) (u0.heap.size + 1) rfl HP.out (Und w) A2 m c2 wait rfl (HW.out.mono (Kept.of_below hOld.out.1 fun _ h => h.1) (fun _ h => h)) (fun b hb => ⟨hb.on hOld.out.1, fun a ha => by cases ha; have := hb.1; show b ≠ (u0.heap.size + 1); omega⟩) (by omega) (by omega) hOld.out.2.1 ?_
    intro A3 c3 w3 ho3 hbel3 _
    have HO := hide ho3
    have HQx := hide (HQ.out.below hbel3)
    clear HQ
    have HQ := HQx
    clear HQx
    refine hK.out _ _ (HSS.out _ _ (hbel3.mono hOld.out.2.1) hOld.out) (fun hHeld => ?_)
    clear hK K hOld
    (try simp only [Act.put, List.setIfInBounds_toArray, List.set_cons_zero, List.set_cons_succ])
    clear ho3 hbel3
    have HLT := hide HO.out.lt
    refine wpTree_call (by kernel_rfl) (fun K hK => ?_)
    have hOld := hide hHeld
    clear hHeld
    refine wp_append_bytes0 w3 (.tmp 84) (.tmp 86) 22 rfl b0 5 Try.underlying22 info8d u0.heap.size rfl HQ.out w.heap.size AB 64 cb x rfl (HX.out.below hOld.out.1) (by omega) (by omega) hOld.out.2.1 ?_
    intro A5 c5 w5 ho5 hbel5
    have HO5 := hide ho5
    have HOa := hide (HO.out.below hbel5)
    have hwz := hbel5.size
    have hbl := hbel5.mono hOld.out.2.1
    clear ho5 hbel5
    refine hK.out _ _ (HSS.out _ _ (hbl) hOld.out) (fun hHeld => ?_)
    clear hK K hOld
    (try simp only [Act.put, List.setIfInBounds_toArray, List.set_cons_zero, List.set_cons_succ])
    clear hbl
    refine wpTree_take (v := ?_) (by kernel_rfl) (fun wS hSw => ?_) ?_
    rotate_left
    · (try dsimp only at hSw); go_simp; (try with_reducible rfl)
    (try simp only [Act.put, List.setIfInBounds_toArray, List.set_cons_zero, List.set_cons_succ])
    refine wpTree_call (by kernel_rfl) (fun K hK => ?_)
    have hOld := hide hHeld
    clear hHeld
    unfold Oper.wp execOp
    go_simp
    refine hK.out _ _ (HSS.out _ _ ((below_new (below_self w5) _).mono hOld.out.2.1) hOld.out) (fun hHeld => ?_)
    clear hK K hOld
    (try simp only [Act.put, List.setIfInBounds_toArray, List.set_cons_zero, List.set_cons_succ])
    have HO7 := hide (HOa.out.alloc (.cells #[.int .i64 (q : Int), .slice A5 64 c5] 87))
    have hlit : RdE penE (w5.alloc (.cells #[.int .i64 (q : Int), .slice A5 64 c5] 87)) (fun b => (w3.heap.size ≤ b ∧ Und w5 b) ∨ b = w5.heap.size) (some ⟨w5.heap.size, 0, none⟩) 1 [((q : Int), x)] := by
      obtain ⟨g, cs, hA5, hg, hrg, _⟩ := HO5.out.row (by omega)
      exact RdE.one _ (cs := [.int .i64 (q : Int), .slice A5 64 c5]) ⟨[.int .i64 (q : Int)], [.slice A5 64 c5], rfl, rfl, A5, 64, c5, rfl, HO5.out.cap, RdE.of_bs HO5.out.bs (fun _ a ha => by rw [hA5] at ha; cases ha; exact ⟨hg, Und.row hrg (by decide)⟩)⟩ (fun b hb => hb.2.1)
    have HLI := hide hlit
    clear hlit HOa HO5
    refine wpTree_call (by kernel_rfl) (fun K hK => ?_)
    have hOld := hide hHeld
    clear hHeld
    refine wp_append_OwE (w5.alloc (.cells #[.int .i64 (q : Int), .slice A5 64 c5] 87)) (.tmp 81) (.tmp 89) 29 rfl b0 87 _ 32 Try.underlying29 info_pen rfl (by decide) _ m _ _ rfl HO7.out _ _ 1 1 _ rfl HLI.out (fun b hb => ⟨hb.elim (fun h => h.2.on (below_new (below_self w5) _)) (fun h => by subst h; exact Und.row (heap_alloc_new w5 _) (by decide)), fun a ha => by have := HLT.out a ha; have hb2 : w3.heap.size ≤ b := hb.elim (fun h => h.1) (fun h => by omega); omega⟩) (m + 1) rfl (by omega) (by omega) hOld.out.2.1 ?_
    intro A8 c8 w8 ho8 hbel8
    have HO8 := hide ho8
    clear ho8
    refine hK.out _ _ (HSS.out _ _ (hbel8) hOld.out) (fun hHeld => ?_)
    clear hK K hOld
    (try simp only [Act.put, List.setIfInBounds_toArray, List.set_cons_zero, List.set_cons_succ])
    clear hbel8 HLI HO7 HLT HO HQ
    refine wpTree_take (v := ?_) (by kernel_rfl) (fun wS hSw => ?_) ?_
    rotate_left
    · (try dsimp only at hSw); go_simp; (try with_reducible rfl)
    (try simp only [Act.put, List.setIfInBounds_toArray, List.set_cons_zero, List.set_cons_succ])
    have hbx := hHeld.2.2.2.2.2.1
    have hrw := hHeld.2.2.2.2.2.2
    have HB := hide hHeld.1
    have x0 : w8.cell? ⟨w.heap.size, 0, none⟩ = some (.slice A n c) := hbx.cell 0
    have x1 : w8.cell? ⟨w.heap.size, 1, none⟩ = some (.slice A2 m c2) := hbx.cell 1
    have x2 : w8.cell? ⟨w.heap.size, 2, none⟩ = some (.int .i64 L) := hbx.cell 2
    have x3 : w8.cell? ⟨w.heap.size, 3, none⟩ = some (.int .i64 wn) := hbx.cell 3
    have x4 : w8.cell? ⟨w.heap.size, 4, none⟩ = some (.int .i64 fl) := hbx.cell 4
    have x5 : w8.cell? ⟨w.heap.size, 5, none⟩ = some (.bool false) := hbx.cell 5
    have y0 := hbx.frozen 0
    have y1 := hbx.frozen 1
    have y2 := hbx.frozen 2
    have y3 := hbx.frozen 3
    have y4 := hbx.frozen 4
    have y5 := hbx.frozen 5
    have r0 : w8.cell? ⟨w.heap.size + 2, 0, none⟩ = some (.slice none 0 0) := hrw.cell 0
    have r1 : w8.cell? ⟨w.heap.size + 2, 1, none⟩ = some (.slice none 0 0) := hrw.cell 1
    have r2 : w8.cell? ⟨w.heap.size + 2, 2, none⟩ = some (.int .i64 0) := hrw.cell 2
    have r3 : w8.cell? ⟨w.heap.size + 2, 3, none⟩ = some (.int .i64 0) := hrw.cell 3
    have r4 : w8.cell? ⟨w.heap.size + 2, 4, none⟩ = some (.int .i64 0) := hrw.cell 4
    have r5 : w8.cell? ⟨w.heap.size + 2, 5, none⟩ = some (.bool false) := hrw.cell 5
    have f0 := hrw.frozen 0
    have f1 := hrw.frozen 1
    have f2 := hrw.frozen 2
    have f3 := hrw.frozen 3
    have f4 := hrw.frozen 4
    have f5 := hrw.frozen 5
    have hw1 : IntKind.i64.wrap (wn + 1) = wn + 1 := IntWalk.i64_in _ (by omega)
    have hcap8 := HO8.out.cap
    have hr8 : RdE penE ((((((((w8.setCell ⟨w.heap.size, 1, none⟩ (.slice A8 (m + 1) c8)).setCell ⟨w.heap.size, 3, none⟩ (.int .i64 (wn + 1))).setCell ⟨w.heap.size + 2, 0, none⟩ (.slice A n c)).setCell ⟨w.heap.size + 2, 1, none⟩ (.slice A8 (m + 1) c8)).setCell ⟨w.heap.size + 2, 2, none⟩ (.int .i64 L)).setCell ⟨w.heap.size + 2, 3, none⟩ (.int .i64 (wn + 1))).setCell ⟨w.heap.size + 2, 4, none⟩ (.int .i64 fl)).setCell ⟨w.heap.size + 2, 5, none⟩ (.bool false)) (Und ((((((((w8.setCell ⟨w.heap.size, 1, none⟩ (.slice A8 (m + 1) c8)).setCell ⟨w.heap.size, 3, none⟩ (.int .i64 (wn + 1))).setCell ⟨w.heap.size + 2, 0, none⟩ (.slice A n c)).setCell ⟨w.heap.size + 2, 1, none⟩ (.slice A8 (m + 1) c8)).setCell ⟨w.heap.size + 2, 2, none⟩ (.int .i64 L)).setCell ⟨w.heap.size + 2, 3, none⟩ (.int .i64 (wn + 1))).setCell ⟨w.heap.size + 2, 4, none⟩ (.int .i64 fl)).setCell ⟨w.heap.size + 2, 5, none⟩ (.bool false))) A8 (m + 1) (wait ++ [((q : Int), x)]) := (((HO8.out.rd (by decide)).notin_pens (g := w.heap.size) (HO8.out.off (by omega)) (hbx.noByte (by intro v hv x e; subst e; simp at hv))).notin_pens (g := w.heap.size + 2) (HO8.out.off (by omega)) (d0_byte hrw)).mono (((((((((Kept.refl _ w8).set_ (fun _ h => h.1.2) _ _).set_ (fun _ h => h.1.2) _ _).set_ (fun _ h => h.2) _ _).set_ (fun _ h => h.2) _ _).set_ (fun _ h => h.2) _ _).set_ (fun _ h => h.2) _ _).set_ (fun _ h => h.2) _ _).set_ (fun _ h => h.2) _ _) (fun _ h => ((((((((h.1.1.set h.1.2 _ _).set h.1.2 _ _).set h.2 _ _).set h.2 _ _).set h.2 _ _).set h.2 _ _).set h.2 _ _).set h.2 _ _))
    have hbE : Below w.heap.size w ((((((((w8.setCell ⟨w.heap.size, 1, none⟩ (.slice A8 (m + 1) c8)).setCell ⟨w.heap.size, 3, none⟩ (.int .i64 (wn + 1))).setCell ⟨w.heap.size + 2, 0, none⟩ (.slice A n c)).setCell ⟨w.heap.size + 2, 1, none⟩ (.slice A8 (m + 1) c8)).setCell ⟨w.heap.size + 2, 2, none⟩ (.int .i64 L)).setCell ⟨w.heap.size + 2, 3, none⟩ (.int .i64 (wn + 1))).setCell ⟨w.heap.size + 2, 4, none⟩ (.int .i64 fl)).setCell ⟨w.heap.size + 2, 5, none⟩ (.bool false)) := ((((((((HB.out.setCell (by simp) _).setCell (by simp) _).setCell (by simp) _).setCell (by simp) _).setCell (by simp) _).setCell (by simp) _).setCell (by simp) _).setCell (by simp) _)
    have HR8 := hide hr8
    have HBE := hide hbE
    clear hr8 hbE hbx hrw hHeld HO8 HB HSS
    refine wpTree_leaf ?_
    refine postL_go rfl (by kernel_rfl) ?_
    unfold Oper.wp execOp
    go_simp
    go_wp2_with fail
    exact bodyPost_ret (v := .tuple #[dV (.slice A n c) (.slice A8 (m + 1) c8) L (wn + 1) fl false, .slice none 0 0, .int .i64 0]) (by simp [results, Try.results11, go_sem, dV, r0, r1, r2, r3, r4, r5]) rfl ⟨_, _, _, _, _, _, _, _, rfl, hnc, hcap8, HS.out.ond HBE.out, HR8.out, Bs.none_ _ _ _, HBE.out⟩

end Go.Proofs.Ytnjmddmiebofeaa
