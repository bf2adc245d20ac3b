import Derived.Test.YtnehkgbdppbhiaaGreatPrtC

/- Words for walks that a program writes (walk.py): two boxes that are written in a drawn region. -/
namespace Go.Proofs.YtnehkgbdppbhiaaGreat
open Go.RowKit Go.Shelf Plain

/-- Two boxes that may be written, and nothing else that was there. -/
def TwoS (Wx : World) (base r5 t5 k5 r6 t6 k6 : Nat) (W : World) : Prop := (∀ b, b < Wx.heap.size → b ≠ r5 → b ≠ r6 → W.heap[b]? = Wx.heap[b]?) ∧ (∃ cu, RowL W r5 t5 cu ∧ cu.length = k5) ∧ (∃ cu, RowL W r6 t6 cu ∧ cu.length = k6) ∧ Below base Wx W
theorem TwoS.start {Wx : World} {base r5 t5 k5 r6 t6 k6 : Nat} {c5 c6 : List Value} (h5 : RowL Wx r5 t5 c5) (l5 : c5.length = k5) (h6 : RowL Wx r6 t6 c6) (l6 : c6.length = k6) : TwoS Wx base r5 t5 k5 r6 t6 k6 Wx.drew :=
  ⟨fun _ _ _ _ => rfl, ⟨c5, h5, l5⟩, ⟨c6, h6, l6⟩, ⟨rfl, rfl, rfl, Nat.le_refl _, fun _ _ => rfl⟩⟩
theorem TwoS.st5 {Wx W W' : World} {base r5 t5 k5 r6 t6 k6 : Nat} {cs : List Value} (h : TwoS Wx base r5 t5 k5 r6 t6 k6 W) (hg : W.grownBy W' (some r5)) (hr : RowL W' r5 t5 cs) (hl : cs.length = k5) (hb : base ≤ r5) (hne : r5 ≠ r6) (hbx : base ≤ Wx.heap.size) : TwoS Wx base r5 t5 k5 r6 t6 k6 W' := by
  obtain ⟨p1, p2, ⟨c6, p3, l6⟩, p4⟩ := h
  exact ⟨fun b h0 h1 h2 => (hg.block b (Nat.lt_of_lt_of_le h0 p4.size) (fun e => h1 (Option.some.inj e))).trans (p1 b h0 h1 h2), ⟨cs, hr, hl⟩, ⟨c6, p3.grown hg (fun e => hne (Option.some.inj e).symm), l6⟩, p4.grown hg (Nat.le_trans hbx p4.size) (fun k hk => by have := Option.some.inj hk; omega)⟩
theorem TwoS.st6 {Wx W W' : World} {base r5 t5 k5 r6 t6 k6 : Nat} {cs : List Value} (h : TwoS Wx base r5 t5 k5 r6 t6 k6 W) (hg : W.grownBy W' (some r6)) (hr : RowL W' r6 t6 cs) (hl : cs.length = k6) (hb : base ≤ r6) (hne : r5 ≠ r6) (hbx : base ≤ Wx.heap.size) : TwoS Wx base r5 t5 k5 r6 t6 k6 W' := by
  obtain ⟨p1, ⟨c5, p3, l5⟩, p2, p4⟩ := h
  exact ⟨fun b h0 h1 h2 => (hg.block b (Nat.lt_of_lt_of_le h0 p4.size) (fun e => h2 (Option.some.inj e))).trans (p1 b h0 h1 h2), ⟨c5, p3.grown hg (fun e => hne (Option.some.inj e)), l5⟩, ⟨cs, hr, hl⟩, p4.grown hg (Nat.le_trans hbx p4.size) (fun k hk => by have := Option.some.inj hk; omega)⟩
theorem TwoS.on {Wx W W' : World} {base r5 t5 k5 r6 t6 k6 : Nat} (h : TwoS Wx base r5 t5 k5 r6 t6 k6 W) (hb : Below W.heap.size W W') (hbx : base ≤ Wx.heap.size) : TwoS Wx base r5 t5 k5 r6 t6 k6 W' := by
  obtain ⟨p1, ⟨c5, p2, l5⟩, ⟨c6, p3, l6⟩, p4⟩ := h
  exact ⟨fun b h0 h1 h2 => (hb.block b (Nat.lt_of_lt_of_le h0 p4.size)).trans (p1 b h0 h1 h2), ⟨c5, p2.on hb, l5⟩, ⟨c6, p3.on hb, l6⟩, p4.trans (hb.mono (Nat.le_trans hbx p4.size))⟩
theorem TwoS.fr {α : Type} {E : Enc α} {Wx W : World} {base r5 t5 k5 r6 t6 k6 lo : Nat} {A : Option Addr} {n : Nat} {l : List α} (h : TwoS Wx base r5 t5 k5 r6 t6 k6 W) (hr : RdE E Wx (fun b => lo ≤ b ∧ b < Wx.heap.size) A n l) (h5 : r5 < lo) (h6 : r6 < lo) : RdE E W (fun b => lo ≤ b ∧ b < W.heap.size) A n l :=
  hr.mono (fun b hb => h.1 b hb.2 (by omega) (by omega)) fun _ hb => ⟨hb.1, Nat.lt_of_lt_of_le hb.2 h.2.2.2.size⟩
theorem TwoS.und {α : Type} {E : Enc α} {Wx W : World} {base r5 t5 k5 r6 t6 k6 B : Nat} {A : Option Addr} {n : Nat} {l : List α} (h : TwoS Wx base r5 t5 k5 r6 t6 k6 W) (hr : RdE E Wx (Under B) A n l) (hB : B ≤ Wx.heap.size) (h5 : B ≤ r5) (h6 : B ≤ r6) : RdE E W (Under B) A n l :=
  hr.mono (fun b hb => h.1 b (Nat.lt_of_lt_of_le hb hB) (by unfold Under at hb; omega) (by unfold Under at hb; omega)) fun _ hb => hb
theorem TwoS.row {Wx W : World} {base r5 t5 k5 r6 t6 k6 g t : Nat} {cs : List Value} (h : TwoS Wx base r5 t5 k5 r6 t6 k6 W) (hr : RowL Wx g t cs) (h5 : g ≠ r5) (h6 : g ≠ r6) : RowL W g t cs := (h.1 g hr.lt h5 h6).trans hr
section
variable {P : Program} {T T' k k' : Nat}
/-- Three results, two of which lie in memory. -/
theorem res_tcc {fn : Func} {tmps : Array Value} {w : World} {s0 s g t s' g' t' : Nat} {v : Value} {cs cs' : List Value} (hr : fn.results = #[.tmp s0, .cell s T, .cell s' T']) (ht0 : tmps.getD s0 undef = v) (ht : tmps.getD s undef = .pointer (some ⟨g, 0, none⟩)) (ht' : tmps.getD s' undef = .pointer (some ⟨g', 0, none⟩)) (hag : ∀ w, (isAgg T).run P w = .ok true w) (hsz : ∀ w, (sizeOf T).run P w = .ok k w) (hag' : ∀ w, (isAgg T').run P w = .ok true w) (hsz' : ∀ w, (sizeOf T').run P w = .ok k' w)
    (h : RowL w g t cs) (hk : cs.length = k) (h' : RowL w g' t' cs') (hk' : cs'.length = k') : (results fn tmps).run P w = .ok (.tuple #[v, .agg cs.toArray, .agg cs'.toArray]) w := by
  have hl := run_loadRow (P := P) h hk
  have hl' := run_loadRow (P := P) h' hk'
  have ht2 : tmps[s0]?.getD undef = v := by simpa using ht0
  have ht3 : tmps[s]?.getD undef = .pointer (some ⟨g, 0, none⟩) := by simpa using ht
  have ht4 : tmps[s']?.getD undef = .pointer (some ⟨g', 0, none⟩) := by simpa using ht'
  simp [results, hr, ht2, ht3, ht4, hag, hsz, hl, hag', hsz', hl', go_sem]
end
end Go.Proofs.YtnehkgbdppbhiaaGreat

/- A step by a name (layer 17). -/
namespace Go.Proofs.YtnehkgbdppbhiaaGreat
open Go.RowKit Go.Shelf Plain

/-- It returns a kind, a view and a place; the view's lower part in new memory. -/
def StepF (lo : Nat) (w : World) (R : StepV) (e : Ending) (w' : World) : Prop := ∃ A c, e = .returned (.tuple #[.int .i64 R.1, .agg (viwC R.2.1.1 (.slice A R.2.1.2.length c)).toArray, .agg (prC R.2.2).toArray]) ∧ RdE prEn w' (fun b => lo ≤ b ∧ b < w'.heap.size) A R.2.1.2.length R.2.1.2 ∧ Below w.heap.size w w'
theorem First_m {A : Option Addr} {n c : Nat} {ns : List NodV} {i : Int} {nm : List UInt8} {B : Nat} {E : EntV} {N : NodV} (hE : entO (firstB ns i nm) = E) (hN : nodB ns (firstB ns i nm) = N) (w : World) (h : RdE nodEn w (Under B) A n ns) (hB : B ≤ w.heap.size) (hm : ns.length ≤ 100000) (hel : (entB ns i).length ≤ 16) :
    Calls Tryz.prog 95 #[.agg #[.slice A n c], .int .i64 i, .string ⟨nm.toArray⟩] w (fun e w' => ∃ A n c C m d, e = .returned (.tuple #[.agg (cellsE E).toArray, .agg (nodC N (.slice A n c) (.slice C m d)).toArray]) ∧ Below w.heap.size w w') := by
  subst hE hN
  refine (First_any w h hB hm hel).mono ?_
  rintro e w' ⟨A, n, c, C, m, d, rfl, -, -, -, -, hb⟩
  exact ⟨A, n, c, C, m, d, rfl, hb⟩
set_option maxRecDepth 100000 in
set_option maxHeartbeats 16000000 in
theorem VStepB_any {g : GeoQ} {AU AL : Option Addr} {nU cU nL cL B : Nat} {up : List NodV} {ls : List (List NodV)} {u : Int} {AV : Option Addr} {nV cV BV : Nat} {vl : List (Int × Int)} {nm : List UInt8} (w : World) (hu : RdE nodEn w (Under B) AU nU up) (h : RdE layEn w (Under B) AL nL ls) (hB : B ≤ w.heap.size) (hF : FewL ls) (hup : FewU up) (hv : RdE prEn w (Under BV) AV nV vl) (hBV : BV ≤ w.heap.size) (hnV : nV ≤ 1000) : Calls Tryz.prog 96 #[.agg (vwdC g (.slice AU nU cU) (.slice AL nL cL) u (.slice AV nV cV)).toArray, .string ⟨nm.toArray⟩] w (StepF w.heap.size w (lowStep ls vl nm)) := by
  obtain ⟨W1, hW1⟩ : ∃ W1, (((w.alloc (.cells (vwdC g (.slice AU nU cU) (.slice AL nL cL) u (.slice AV nV cV)).toArray 95)).alloc (.cells (viwC 0 (.slice none 0 0)).toArray 32)).alloc (.cells (prC (0, 0)).toArray 36)) = W1 := ⟨_, rfl⟩
  obtain ⟨r0, r1, r2, hb1, hs1⟩ := rowA3 w _ _ _ _ _ _ hW1
  have hW1' : (((w.alloc (.cells #[.int .i64 g.a, .int .i64 g.b, .int .i64 g.c, .int .i64 g.d, .slice AU nU cU, .slice AL nL cL, .int .i64 u, .slice AV nV cV] 95)).alloc (.cells #[.int .i64 0, .slice none 0 0] 32)).alloc (.cells #[.int .i64 0, .int .i64 0] 36)) = W1 := hW1
  have R2 := hide r0
  have R5 := hide r1
  have R6 := hide r2
  have HB := hide hb1
  have hsz0 := hb1.size
  have HU := hide (hu.under hb1 hB)
  have HL := hide (h.under hb1 hB)
  have HF := hide hF
  have HFU := hide hup
  have HV := hide (hv.under hb1 hBV)
  obtain ⟨R, hR⟩ : ∃ R, findL ls nm vl [] = R := ⟨_, rfl⟩
  have HR := hide hR
  have hkd := findL_kind hF nm vl []
  rw [hR] at hkd
  have q2_7 : W1.cell? ⟨w.heap.size, 7, none⟩ = some (.slice AV nV cV) := R2.out.cell 7
  unfold lowStep
  rw [hR]
  unfold vwdC
  obtain ⟨K, L⟩ := R
  clear r0 r1 r2 hb1 hW1 hu h hF hup hv hR
  by_cases hk : K = 0
  · subst hk
    rw [if_pos rfl]
    have hL : L = [] := by
      by_cases hh : L = []
      · exact hh
      · exact absurd (hkd.1.2 hh) (by simp)
    subst hL
    clear hkd
    go_enter Tryz.func96, Tryz.ntmps96
    go_wp2_with (first | (refine wpList_loadC rfl 29 (.tmp 10) rfl 6 stk_agg stk_size (w.heap.size) 0 95 rfl (vwdC g (.slice AU nU cU) (.slice AL nL cL) u (.slice AV nV cV)) (stkC g (.slice AU nU cU) (.slice AL nL cL)) R2.out rfl rfl ?_) | (go_at_call 25; refine (Find_e HR.out W1 HL.out (und_up HV.out (by omega)) (by omega) HF.out hnV).mono ?_; rintro e1 wF ⟨A3, c3, rfl, -, h3, hbel⟩; clear q2_7; replace HB := hide (HB.out.trans (hbel.mono HB.out.size)); replace R2 := hide (R2.out.on hbel); replace R5 := hide (R5.out.on hbel); replace R6 := hide (R6.out.on hbel); replace HU := hide (HU.out.under hbel (by omega)); replace HL := hide (HL.out.under hbel (by omega)); replace HV := hide (HV.out.under hbel (by omega)); have hsz2 := hbel.size; have q2_7 : wF.cell? ⟨w.heap.size, 7, none⟩ = some (.slice AV nV cV) := R2.out.cell 7; have H3 := hide h3; clear h3; clear hbel) | (refine wpList_storeW rfl 32 (.tmp 5) (.tmp 22) rfl 2 viw_size (w.heap.size + 1) 32 rfl (viwC 0 (.slice none 0 0)) (viwC 0 (.slice none 0 0)) rfl R5.out rfl rfl (viwC_one _ _ _ _) ?_; intro wS3 hr3 hg3 hs3; clear q2_7; replace HB := hide (HB.out.grown hg3 (by omega) (fun k hk => by have := Option.some.inj hk; omega)); replace R2 := hide (R2.out.grown hg3 (fun e => by have := Option.some.inj e; omega)); replace R6 := hide (R6.out.grown hg3 (fun e => by have := Option.some.inj e; omega)); replace HU := hide (und_grown HU.out hg3 (by omega) (by omega)); replace HL := hide (und_grown HL.out hg3 (by omega) (by omega)); replace HV := hide (und_grown HV.out hg3 (by omega) (by omega)); replace H3 := hide (fr_grown H3.out hg3 (by omega)); have hsz4 := hg3.size; replace R5 := hide hr3; have q2_7 : wS3.cell? ⟨w.heap.size, 7, none⟩ = some (.slice AV nV cV) := R2.out.cell 7; clear hr3 hg3 hs3) | (refine wpList_storeW rfl 36 (.tmp 6) (.tmp 23) rfl 2 plc_size (w.heap.size + 1 + 1) 36 rfl (prC (0, 0)) (prC (0, 0)) rfl R6.out rfl rfl (prC_one _) ?_; intro wS5 hr5 hg5 hs5; clear q2_7; replace HB := hide (HB.out.grown hg5 (by omega) (fun k hk => by have := Option.some.inj hk; omega)); replace R2 := hide (R2.out.grown hg5 (fun e => by have := Option.some.inj e; omega)); replace R5 := hide (R5.out.grown hg5 (fun e => by have := Option.some.inj e; omega)); replace HU := hide (und_grown HU.out hg5 (by omega) (by omega)); replace HL := hide (und_grown HL.out hg5 (by omega) (by omega)); replace HV := hide (und_grown HV.out hg5 (by omega) (by omega)); replace H3 := hide (fr_grown H3.out hg5 (by omega)); have hsz6 := hg5.size; replace R6 := hide hr5; have q2_7 : wS5.cell? ⟨w.heap.size, 7, none⟩ = some (.slice AV nV cV) := R2.out.cell 7; clear hr5 hg5 hs5))
    exact bodyPost_ret (res_tcc Tryz.results96 rfl rfl rfl viw_agg viw_size plc_agg plc_size R5.out rfl R6.out rfl) rfl ⟨none, 0, rfl, RdE.none_ _ _ _ _, HB.out⟩
  · rw [if_neg hk]
    have hLn : L ≠ [] := hkd.1.1 hk
    have hLp : 0 < L.length := List.length_pos_iff.2 hLn
    obtain ⟨p, hp0⟩ : ∃ p, L[0]? = some p := ⟨_, List.getElem?_eq_getElem hLp⟩
    have hhd : L.headD (0, 0) = p := by cases L with | nil => simp at hLp | cons a r => simpa using hp0
    have hk0 : (K == 0) = false := by simpa using hk
    rw [hhd]
    by_cases hk1 : K = 1
    · have hk2 : (K == 1) = true := by simpa using hk1
      rw [if_pos hk1]
      clear hkd hLn hhd hk hk1
      go_enter Tryz.func96, Tryz.ntmps96
      go_wp2_with (first | (refine wpList_loadC rfl 29 (.tmp 10) rfl 6 stk_agg stk_size (w.heap.size) 0 95 rfl (vwdC g (.slice AU nU cU) (.slice AL nL cL) u (.slice AV nV cV)) (stkC g (.slice AU nU cU) (.slice AL nL cL)) R2.out rfl rfl ?_) | (go_at_call 25; refine (Find_e HR.out W1 HL.out (und_up HV.out (by omega)) (by omega) HF.out hnV).mono ?_; rintro e1 wF ⟨A3, c3, rfl, -, h3, hbel⟩; clear q2_7; replace HB := hide (HB.out.trans (hbel.mono HB.out.size)); replace R2 := hide (R2.out.on hbel); replace R5 := hide (R5.out.on hbel); replace R6 := hide (R6.out.on hbel); replace HU := hide (HU.out.under hbel (by omega)); replace HL := hide (HL.out.under hbel (by omega)); replace HV := hide (HV.out.under hbel (by omega)); have hsz2 := hbel.size; have q2_7 : wF.cell? ⟨w.heap.size, 7, none⟩ = some (.slice AV nV cV) := R2.out.cell 7; have H3 := hide h3; clear h3; clear hbel))
      obtain ⟨bP, oP, hAP, hbP, hcP⟩ := pr_get H3.out hp0
      have hbP2 : bP < wF.heap.size := hbP.2
      have hbP1 : W1.heap.size ≤ bP := hbP.1
      have HCP := hide (fun (j : Nat) (v : Value) (hv : (prC p)[j]? = some v) => show wF.cell? ⟨bP, oP + j, none⟩ = some v from by have := hcP j v hv; simpa using this)
      subst hAP
      clear hcP
      refine wp_region_planN (fun w' => TwoS wF w.heap.size (w.heap.size + 1) 32 2 (w.heap.size + 1 + 1) 36 2 w') [(0, true), (1, true), (2, true), (3, true), (4, true), (5, true), (6, false), (7, false)] (by kernel_rfl) (by kernel_rfl) (by kernel_rfl) (by kernel_rfl) rfl (fun _ _ _ _ _ h => h) (TwoS.start (base := w.heap.size) R5.out rfl R6.out rfl) (fun hHeld => ?_)
      simp only [planOps, List.filterMap_cons, List.filterMap_nil, List.getElem?_toArray, List.getElem?_cons_succ, List.getElem?_cons_zero, Option.map_some]
      refine wpPlan_take (v := ?_) (by kernel_rfl) (fun wS hSw => ?_) ?_
      rotate_left
      · (try dsimp only at hSw); go_simp; (try with_reducible rfl)
      (try simp only [Act.put, List.setIfInBounds_toArray, List.set_cons_zero, List.set_cons_succ])
      refine wpPlan_take (v := ?_) (by kernel_rfl) (fun wS hSw => ?_) ?_
      rotate_left
      · (try dsimp only at hSw); go_simp; (try with_reducible rfl)
      (try simp only [Act.put, List.setIfInBounds_toArray, List.set_cons_zero, List.set_cons_succ])
      refine wpPlan_take (v := ?_) (by kernel_rfl) (fun wS hSw => ?_) ?_
      rotate_left
      · (try dsimp only at hSw); go_simp; (try with_reducible rfl)
      (try simp only [Act.put, List.setIfInBounds_toArray, List.set_cons_zero, List.set_cons_succ])
      refine wpPlan_take (v := ?_) (by kernel_rfl) (fun wS hSw => ?_) ?_
      rotate_left
      · (try dsimp only at hSw); go_simp; (try with_reducible rfl)
      (try simp only [Act.put, List.setIfInBounds_toArray, List.set_cons_zero, List.set_cons_succ])
      refine wpPlan_take (v := ?_) (by kernel_rfl) (fun wS hSw => ?_) ?_
      rotate_left
      · refine execOp_load (x := .tmp 29) (k := 2) (g := bP) (off := oP) (cs := prC p) ?_ plc_agg plc_size ?_ (fun j v hv => (cell_same (hSw.1 bP hbP2 (by omega) (by omega))).trans (HCP.out j v hv)) rfl <;> rfl
      (try simp only [Act.put, List.setIfInBounds_toArray, List.set_cons_zero, List.set_cons_succ])
      refine wpPlan_take (v := ?_) (by kernel_rfl) (fun wS hSw => ?_) ?_
      rotate_left
      · (try dsimp only at hSw); go_simp; (try with_reducible rfl)
      (try simp only [Act.put, List.setIfInBounds_toArray, List.set_cons_zero, List.set_cons_succ])
      refine wpPlan_call (by kernel_rfl) (fun K hK => ?_)
      have hOld := hide hHeld
      clear hHeld
      obtain ⟨pk, ⟨cu5, p5, l5⟩, p6, pb⟩ := hOld.out
      refine wp_storeC 32 (.tmp 5) (.tmp 27) rfl 2 viw_size (w.heap.size + 1) 0 32 rfl cu5 (viwC 0 (.slice (some ⟨bP, oP, none⟩) L.length c3)) rfl p5 rfl (by omega) (viwC_one _ _ _ _) ?_
      intro w' hr' hg' hs'
      rw [splice_all _ _ (by rw [l5]; rfl)] at hr'
      refine hK.out _ _ (hOld.out.st5 hg' hr' rfl (by omega) (by omega) (by omega)) (fun hHeld => ?_)
      clear hK K
      have hsO := hOld.out.2.2.2.size
      have HR5 := hide hr'
      clear hr' hg' hs' pk p5 p6 pb hsO
      (try simp only [Act.put])
      refine wpPlan_call (by kernel_rfl) (fun K hK => ?_)
      have hOld := hide hHeld
      clear hHeld
      obtain ⟨pk, p5, ⟨cu6, p6, l6⟩, pb⟩ := hOld.out
      refine wp_storeC 36 (.tmp 6) (.tmp 30) rfl 2 plc_size (w.heap.size + 1 + 1) 0 36 rfl cu6 (prC p) rfl p6 rfl (by omega) (prC_one _) ?_
      intro w' hr' hg' hs'
      rw [splice_all _ _ (by rw [l6]; rfl)] at hr'
      refine hK.out _ _ (hOld.out.st6 hg' hr' rfl (by omega) (by omega) (by omega)) (fun hHeld => ?_)
      clear hK K
      have hsO := hOld.out.2.2.2.size
      have HR6 := hide hr'
      replace HR5 := hide (HR5.out.grown hg' (fun e => by have := Option.some.inj e; omega))
      clear hr' hg' hs' pk p5 p6 pb hsO
      (try simp only [Act.put])
      refine wpPlan_end ?_
      have HSF := hide hHeld
      clear hHeld
      go_wp2_with fail
      exact bodyPost_ret (res_tcc Tryz.results96 rfl rfl rfl viw_agg viw_size plc_agg plc_size HR5.out rfl HR6.out rfl) rfl ⟨_, c3, rfl, fr_low (HSF.out.fr H3.out (by omega) (by omega)) (by omega), HB.out.trans HSF.out.2.2.2⟩
    · have hk2 : (K == 1) = false := by simpa using hk1
      rw [if_neg hk1]
      clear hkd hLn hhd hk hk1
      go_enter Tryz.func96, Tryz.ntmps96
      go_wp2_with (first | (refine wpList_loadC rfl 29 (.tmp 10) rfl 6 stk_agg stk_size (w.heap.size) 0 95 rfl (vwdC g (.slice AU nU cU) (.slice AL nL cL) u (.slice AV nV cV)) (stkC g (.slice AU nU cU) (.slice AL nL cL)) R2.out rfl rfl ?_) | (go_at_call 25; refine (Find_e HR.out W1 HL.out (und_up HV.out (by omega)) (by omega) HF.out hnV).mono ?_; rintro e1 wF ⟨A3, c3, rfl, -, h3, hbel⟩; clear q2_7; replace HB := hide (HB.out.trans (hbel.mono HB.out.size)); replace R2 := hide (R2.out.on hbel); replace R5 := hide (R5.out.on hbel); replace R6 := hide (R6.out.on hbel); replace HU := hide (HU.out.under hbel (by omega)); replace HL := hide (HL.out.under hbel (by omega)); replace HV := hide (HV.out.under hbel (by omega)); have hsz2 := hbel.size; have q2_7 : wF.cell? ⟨w.heap.size, 7, none⟩ = some (.slice AV nV cV) := R2.out.cell 7; have H3 := hide h3; clear h3; clear hbel))
      obtain ⟨bP, oP, hAP, hbP, hcP⟩ := pr_get H3.out hp0
      have hbP2 : bP < wF.heap.size := hbP.2
      have hbP1 : W1.heap.size ≤ bP := hbP.1
      have HCP := hide (fun (j : Nat) (v : Value) (hv : (prC p)[j]? = some v) => show wF.cell? ⟨bP, oP + j, none⟩ = some v from by have := hcP j v hv; simpa using this)
      subst hAP
      clear hcP
      refine wp_region_planN (fun w' => TwoS wF w.heap.size (w.heap.size + 1) 32 2 (w.heap.size + 1 + 1) 36 2 w') [(0, true), (1, true), (2, true), (3, true), (4, true), (5, true), (6, false), (7, false)] (by kernel_rfl) (by kernel_rfl) (by kernel_rfl) (by kernel_rfl) rfl (fun _ _ _ _ _ h => h) (TwoS.start (base := w.heap.size) R5.out rfl R6.out rfl) (fun hHeld => ?_)
      simp only [planOps, List.filterMap_cons, List.filterMap_nil, List.getElem?_toArray, List.getElem?_cons_succ, List.getElem?_cons_zero, Option.map_some]
      refine wpPlan_take (v := ?_) (by kernel_rfl) (fun wS hSw => ?_) ?_
      rotate_left
      · (try dsimp only at hSw); go_simp; (try with_reducible rfl)
      (try simp only [Act.put, List.setIfInBounds_toArray, List.set_cons_zero, List.set_cons_succ])
      refine wpPlan_take (v := ?_) (by kernel_rfl) (fun wS hSw => ?_) ?_
      rotate_left
      · (try dsimp only at hSw); go_simp; (try with_reducible rfl)
      (try simp only [Act.put, List.setIfInBounds_toArray, List.set_cons_zero, List.set_cons_succ])
      refine wpPlan_take (v := ?_) (by kernel_rfl) (fun wS hSw => ?_) ?_
      rotate_left
      · (try dsimp only at hSw); go_simp; (try with_reducible rfl)
      (try simp only [Act.put, List.setIfInBounds_toArray, List.set_cons_zero, List.set_cons_succ])
      refine wpPlan_take (v := ?_) (by kernel_rfl) (fun wS hSw => ?_) ?_
      rotate_left
      · (try dsimp only at hSw); go_simp; (try with_reducible rfl)
      (try simp only [Act.put, List.setIfInBounds_toArray, List.set_cons_zero, List.set_cons_succ])
      refine wpPlan_take (v := ?_) (by kernel_rfl) (fun wS hSw => ?_) ?_
      rotate_left
      · refine execOp_load (x := .tmp 34) (k := 2) (g := bP) (off := oP) (cs := prC p) ?_ plc_agg plc_size ?_ (fun j v hv => (cell_same (hSw.1 bP hbP2 (by omega) (by omega))).trans (HCP.out j v hv)) rfl <;> rfl
      (try simp only [Act.put, List.setIfInBounds_toArray, List.set_cons_zero, List.set_cons_succ])
      refine wpPlan_take (v := ?_) (by kernel_rfl) (fun wS hSw => ?_) ?_
      rotate_left
      · (try dsimp only at hSw); go_simp; (try with_reducible rfl)
      (try simp only [Act.put, List.setIfInBounds_toArray, List.set_cons_zero, List.set_cons_succ])
      refine wpPlan_call (by kernel_rfl) (fun K hK => ?_)
      have hOld := hide hHeld
      clear hHeld
      obtain ⟨pk, ⟨cu5, p5, l5⟩, p6, pb⟩ := hOld.out
      refine wp_storeC 32 (.tmp 5) (.tmp 32) rfl 2 viw_size (w.heap.size + 1) 0 32 rfl cu5 (viwC 0 (.slice none 0 0)) rfl p5 rfl (by omega) (viwC_one _ _ _ _) ?_
      intro w' hr' hg' hs'
      rw [splice_all _ _ (by rw [l5]; rfl)] at hr'
      refine hK.out _ _ (hOld.out.st5 hg' hr' rfl (by omega) (by omega) (by omega)) (fun hHeld => ?_)
      clear hK K
      have hsO := hOld.out.2.2.2.size
      have HR5 := hide hr'
      clear hr' hg' hs' pk p5 p6 pb hsO
      (try simp only [Act.put])
      refine wpPlan_call (by kernel_rfl) (fun K hK => ?_)
      have hOld := hide hHeld
      clear hHeld
      obtain ⟨pk, p5, ⟨cu6, p6, l6⟩, pb⟩ := hOld.out
      refine wp_storeC 36 (.tmp 6) (.tmp 35) rfl 2 plc_size (w.heap.size + 1 + 1) 0 36 rfl cu6 (prC p) rfl p6 rfl (by omega) (prC_one _) ?_
      intro w' hr' hg' hs'
      rw [splice_all _ _ (by rw [l6]; rfl)] at hr'
      refine hK.out _ _ (hOld.out.st6 hg' hr' rfl (by omega) (by omega) (by omega)) (fun hHeld => ?_)
      clear hK K
      have hsO := hOld.out.2.2.2.size
      have HR6 := hide hr'
      replace HR5 := hide (HR5.out.grown hg' (fun e => by have := Option.some.inj e; omega))
      clear hr' hg' hs' pk p5 p6 pb hsO
      (try simp only [Act.put])
      refine wpPlan_end ?_
      have HSF := hide hHeld
      clear hHeld
      go_wp2_with fail
      exact bodyPost_ret (res_tcc Tryz.results96 rfl rfl rfl viw_agg viw_size plc_agg plc_size HR5.out rfl HR6.out rfl) rfl ⟨none, 0, rfl, RdE.none_ _ _ _ _, HB.out.trans HSF.out.2.2.2⟩
theorem VStepB_e {g : GeoQ} {AU AL : Option Addr} {nU cU nL cL B : Nat} {up : List NodV} {ls : List (List NodV)} {u : Int} {AV : Option Addr} {nV cV BV : Nat} {vl : List (Int × Int)} {nm : List UInt8} {S : StepV} (hS : lowStep ls vl nm = S) (w : World) (hu : RdE nodEn w (Under B) AU nU up) (h : RdE layEn w (Under B) AL nL ls) (hB : B ≤ w.heap.size) (hF : FewL ls) (hup : FewU up) (hv : RdE prEn w (Under BV) AV nV vl) (hBV : BV ≤ w.heap.size) (hnV : nV ≤ 1000) : Calls Tryz.prog 96 #[.agg (vwdC g (.slice AU nU cU) (.slice AL nL cL) u (.slice AV nV cV)).toArray, .string ⟨nm.toArray⟩] w (StepF w.heap.size w S) := by rw [← hS]; exact VStepB_any w hu h hB hF hup hv hBV hnV
set_option maxRecDepth 100000 in
set_option maxHeartbeats 16000000 in
theorem VStepI_any {g : GeoQ} {AU AL : Option Addr} {nU cU nL cL B : Nat} {up : List NodV} {ls : List (List NodV)} {u : Int} {AV : Option Addr} {nV cV BV : Nat} {vl : List (Int × Int)} {nm : List UInt8} (w : World) (hu : RdE nodEn w (Under B) AU nU up) (h : RdE layEn w (Under B) AL nL ls) (hB : B ≤ w.heap.size) (hF : FewL ls) (hup : FewU up) (hv : RdE prEn w (Under BV) AV nV vl) (hBV : BV ≤ w.heap.size) (hnV : nV ≤ 1000) : Calls Tryz.prog 51 #[.agg (vwdC g (.slice AU nU cU) (.slice AL nL cL) u (.slice AV nV cV)).toArray, .string ⟨nm.toArray⟩] w (StepF w.heap.size w (stepV up ls (u, vl) nm)) := by
  obtain ⟨W1, hW1⟩ : ∃ W1, (((w.alloc (.cells (vwdC g (.slice AU nU cU) (.slice AL nL cL) u (.slice AV nV cV)).toArray 95)).alloc (.cells (viwC 0 (.slice none 0 0)).toArray 32)).alloc (.cells (prC (0, 0)).toArray 36)) = W1 := ⟨_, rfl⟩
  obtain ⟨r0, r1, r2, hb1, hs1⟩ := rowA3 w _ _ _ _ _ _ hW1
  have hW1' : (((w.alloc (.cells #[.int .i64 g.a, .int .i64 g.b, .int .i64 g.c, .int .i64 g.d, .slice AU nU cU, .slice AL nL cL, .int .i64 u, .slice AV nV cV] 95)).alloc (.cells #[.int .i64 0, .slice none 0 0] 32)).alloc (.cells #[.int .i64 0, .int .i64 0] 36)) = W1 := hW1
  have R2 := hide r0
  have R5 := hide r1
  have R6 := hide r2
  have HB := hide hb1
  have hsz0 := hb1.size
  have HU := hide (hu.under hb1 hB)
  have HL := hide (h.under hb1 hB)
  have HF := hide hF
  have HFU := hide hup
  have HV := hide (hv.under hb1 hBV)
  obtain ⟨E, hE⟩ : ∃ E, entO (firstB up u nm) = E := ⟨_, rfl⟩
  obtain ⟨N, hN⟩ : ∃ N, nodB up (firstB up u nm) = N := ⟨_, rfl⟩
  have HE := hide hE
  have HN := hide hN
  have q2_4 : W1.cell? ⟨w.heap.size, 4, none⟩ = some (.slice AU nU cU) := R2.out.cell 4
  have q2_6 : W1.cell? ⟨w.heap.size, 6, none⟩ = some (.int .i64 u) := R2.out.cell 6
  unfold stepV
  dsimp only
  unfold vwdC
  cases ho : firstB up u nm with
  | none =>
    rw [ho] at hE hN
    have hk0 : (N.k == 0) = true := by rw [← hN]; rfl
    obtain ⟨S, hS⟩ : ∃ S, lowStep ls vl nm = S := ⟨_, rfl⟩
    have HS := hide hS
    dsimp only
    rw [hS]
    clear r0 r1 r2 hb1 hW1 hu h hF hup hv hE hN ho hS
    go_enter Tryz.func51, Tryz.ntmps51
    go_wp2_with (first | (go_at_call 95; refine (First_m HE.out HN.out (B := B) W1 HU.out (by omega) (by have := HFU.out.1; omega) (entB_len HFU.out.2 u)).mono ?_; rintro e1 wF ⟨A1, n1, c1, C1, m1, d1, rfl, hbel⟩; clear q2_4 q2_6; replace HB := hide (HB.out.trans (hbel.mono HB.out.size)); replace R2 := hide (R2.out.on hbel); replace R5 := hide (R5.out.on hbel); replace R6 := hide (R6.out.on hbel); replace HU := hide (HU.out.under hbel (by omega)); replace HL := hide (HL.out.under hbel (by omega)); replace HV := hide (HV.out.under hbel (by omega)); have hsz2 := hbel.size; have q2_4 : wF.cell? ⟨w.heap.size, 4, none⟩ = some (.slice AU nU cU) := R2.out.cell 4; have q2_6 : wF.cell? ⟨w.heap.size, 6, none⟩ = some (.int .i64 u) := R2.out.cell 6; clear hbel) | (obtain ⟨hz7, hz8, hzb, hzs⟩ := rows2 wF [.int .i64 0, .int .i64 0, .string ⟨#[]⟩] (nodC nod0 (.slice none 0 0) (.slice none 0 0)) 49 71; refine wpList_storeW rfl 49 (.tmp 7) (.tmp 18) rfl 3 entw_size (wF.heap.size) 49 rfl [.int .i64 0, .int .i64 0, .string ⟨#[]⟩] (cellsE E) rfl hz7 rfl rfl (cellsE_one _) ?_; intro wS3 hr3 hg3 hs3; replace hzb := hzb.grown hg3 hzb.size (fun k hk => by have := Option.some.inj hk; omega); replace hz8 := hz8.grown hg3 (fun e => by have := Option.some.inj e; omega); have hz7 := hr3; clear hg3 hs3 hr3) | (refine wpList_storeW rfl 71 (.tmp 8) (.tmp 19) rfl 13 nod_size (wF.heap.size + 1) 71 rfl (nodC nod0 (.slice none 0 0) (.slice none 0 0)) (nodC N (.slice A1 n1 c1) (.slice C1 m1 d1)) rfl hz8 rfl rfl (nodC_one _ _ _ _ _ _ _) ?_; intro wS4 hr4 hg4 hs4; replace hzb := hzb.grown hg4 hzb.size (fun k hk => by have := Option.some.inj hk; omega); replace hz7 := hz7.grown hg4 (fun e => by have := Option.some.inj e; omega); have hz8 := hr4; clear q2_4 q2_6; replace HB := hide (HB.out.trans (hzb.mono HB.out.size)); replace R2 := hide (R2.out.on hzb); replace R5 := hide (R5.out.on hzb); replace R6 := hide (R6.out.on hzb); replace HU := hide (HU.out.under hzb (by omega)); replace HL := hide (HL.out.under hzb (by omega)); replace HV := hide (HV.out.under hzb (by omega)); have hsz5 := hzb.size; have q2_4 : wS4.cell? ⟨w.heap.size, 4, none⟩ = some (.slice AU nU cU) := R2.out.cell 4; have q2_6 : wS4.cell? ⟨w.heap.size, 6, none⟩ = some (.int .i64 u) := R2.out.cell 6; have RE := hide hz7; have hlt3 := hz7.lt; have RN := hide hz8; have hlt4 := hz8.lt; have q8_0 : wS4.cell? ⟨wF.heap.size + 1, 0, none⟩ = some (.int .i64 N.k) := RN.out.cell 0; have q7_1 : wS4.cell? ⟨wF.heap.size, 1, none⟩ = some (.int .i64 E.ino) := RE.out.cell 1; clear hzb hzs hz7 hz8; clear hg4 hs4) | (refine wpList_loadW rfl 95 (.tmp 2) rfl 8 vwd_agg vwd_size (w.heap.size) 95 rfl (vwdC g (.slice AU nU cU) (.slice AL nL cL) u (.slice AV nV cV)) R2.out rfl ?_) | (go_at_call 96; refine (VStepB_e HS.out wS4 HU.out HL.out (by omega) HF.out HFU.out HV.out (by omega) hnV).mono ?_; rintro e6 wB ⟨A3, c3, rfl, h3, hbel⟩; clear q2_4 q2_6 q8_0 q7_1; replace HB := hide (HB.out.trans (hbel.mono HB.out.size)); replace R2 := hide (R2.out.on hbel); replace R5 := hide (R5.out.on hbel); replace R6 := hide (R6.out.on hbel); replace HU := hide (HU.out.under hbel (by omega)); replace HL := hide (HL.out.under hbel (by omega)); replace HV := hide (HV.out.under hbel (by omega)); replace RE := hide (RE.out.on hbel); replace RN := hide (RN.out.on hbel); have hsz7 := hbel.size; have q2_4 : wB.cell? ⟨w.heap.size, 4, none⟩ = some (.slice AU nU cU) := R2.out.cell 4; have q2_6 : wB.cell? ⟨w.heap.size, 6, none⟩ = some (.int .i64 u) := R2.out.cell 6; have q8_0 : wB.cell? ⟨wF.heap.size + 1, 0, none⟩ = some (.int .i64 N.k) := RN.out.cell 0; have q7_1 : wB.cell? ⟨wF.heap.size, 1, none⟩ = some (.int .i64 E.ino) := RE.out.cell 1; have H3 := hide h3; clear h3; clear hbel) | (refine wpList_storeW rfl 32 (.tmp 5) (.tmp 28) rfl 2 viw_size (w.heap.size + 1) 32 rfl (viwC 0 (.slice none 0 0)) (viwC S.2.1.1 (.slice A3 S.2.1.2.length c3)) rfl R5.out rfl rfl (viwC_one _ _ _ _) ?_; intro wS8 hr8 hg8 hs8; clear q2_4 q2_6 q8_0 q7_1; replace HB := hide (HB.out.grown hg8 (by omega) (fun k hk => by have := Option.some.inj hk; omega)); replace R2 := hide (R2.out.grown hg8 (fun e => by have := Option.some.inj e; omega)); replace R6 := hide (R6.out.grown hg8 (fun e => by have := Option.some.inj e; omega)); replace HU := hide (und_grown HU.out hg8 (by omega) (by omega)); replace HL := hide (und_grown HL.out hg8 (by omega) (by omega)); replace HV := hide (und_grown HV.out hg8 (by omega) (by omega)); replace RE := hide (RE.out.grown hg8 (fun e => by have := Option.some.inj e; omega)); replace RN := hide (RN.out.grown hg8 (fun e => by have := Option.some.inj e; omega)); replace H3 := hide (fr_grown H3.out hg8 (by omega)); have hsz9 := hg8.size; replace R5 := hide hr8; have q2_4 : wS8.cell? ⟨w.heap.size, 4, none⟩ = some (.slice AU nU cU) := R2.out.cell 4; have q2_6 : wS8.cell? ⟨w.heap.size, 6, none⟩ = some (.int .i64 u) := R2.out.cell 6; have q8_0 : wS8.cell? ⟨wF.heap.size + 1, 0, none⟩ = some (.int .i64 N.k) := RN.out.cell 0; have q7_1 : wS8.cell? ⟨wF.heap.size, 1, none⟩ = some (.int .i64 E.ino) := RE.out.cell 1; clear hr8 hg8 hs8) | (refine wpList_storeW rfl 36 (.tmp 6) (.tmp 29) rfl 2 plc_size (w.heap.size + 1 + 1) 36 rfl (prC (0, 0)) (prC S.2.2) rfl R6.out rfl rfl (prC_one _) ?_; intro wS10 hr10 hg10 hs10; clear q2_4 q2_6 q8_0 q7_1; replace HB := hide (HB.out.grown hg10 (by omega) (fun k hk => by have := Option.some.inj hk; omega)); replace R2 := hide (R2.out.grown hg10 (fun e => by have := Option.some.inj e; omega)); replace R5 := hide (R5.out.grown hg10 (fun e => by have := Option.some.inj e; omega)); replace HU := hide (und_grown HU.out hg10 (by omega) (by omega)); replace HL := hide (und_grown HL.out hg10 (by omega) (by omega)); replace HV := hide (und_grown HV.out hg10 (by omega) (by omega)); replace RE := hide (RE.out.grown hg10 (fun e => by have := Option.some.inj e; omega)); replace RN := hide (RN.out.grown hg10 (fun e => by have := Option.some.inj e; omega)); replace H3 := hide (fr_grown H3.out hg10 (by omega)); have hsz11 := hg10.size; replace R6 := hide hr10; have q2_4 : wS10.cell? ⟨w.heap.size, 4, none⟩ = some (.slice AU nU cU) := R2.out.cell 4; have q2_6 : wS10.cell? ⟨w.heap.size, 6, none⟩ = some (.int .i64 u) := R2.out.cell 6; have q8_0 : wS10.cell? ⟨wF.heap.size + 1, 0, none⟩ = some (.int .i64 N.k) := RN.out.cell 0; have q7_1 : wS10.cell? ⟨wF.heap.size, 1, none⟩ = some (.int .i64 E.ino) := RE.out.cell 1; clear hr10 hg10 hs10))
    exact bodyPost_ret (res_tcc Tryz.results51 rfl rfl rfl viw_agg viw_size plc_agg plc_size R5.out rfl R6.out rfl) rfl ⟨A3, c3, rfl, fr_low H3.out (by omega), HB.out⟩
  | some e =>
    rw [ho] at hE hN
    have huse := (firstB_use ho).1
    have hEe : e = E := hE
    subst hEe
    have hNe : nodAt up e.ino = N := hN
    rw [hNe] at huse
    have hkr := (show PlainN N from by rw [← hNe]; exact nodAt_plain hup.2 _).2.1
    have hk0 : (N.k == 0) = false := by simpa using huse
    dsimp only
    unfold upStep
    rw [hNe]
    by_cases h1 : N.k = 1
    · rw [if_pos h1]
      have hk1 : (N.k == 1) = true := by simpa using h1
      have hk2 : (N.k == 2) = false := by simp [h1]
      have hk3 : (N.k == 3) = false := by simp [h1]
      obtain ⟨P, hP⟩ : ∃ P, partV up ls vl e.ino nm = P := ⟨_, rfl⟩
      have HP := hide hP
      rw [hP]
      clear r0 r1 r2 hb1 hW1 hu h hF hup hv hE hN ho hNe huse hkr h1 hP
      go_enter Tryz.func51, Tryz.ntmps51
      go_wp2_with (first | (go_at_call 95; refine (First_m HE.out HN.out (B := B) W1 HU.out (by omega) (by have := HFU.out.1; omega) (entB_len HFU.out.2 u)).mono ?_; rintro e1 wF ⟨A1, n1, c1, C1, m1, d1, rfl, hbel⟩; clear q2_4 q2_6; replace HB := hide (HB.out.trans (hbel.mono HB.out.size)); replace R2 := hide (R2.out.on hbel); replace R5 := hide (R5.out.on hbel); replace R6 := hide (R6.out.on hbel); replace HU := hide (HU.out.under hbel (by omega)); replace HL := hide (HL.out.under hbel (by omega)); replace HV := hide (HV.out.under hbel (by omega)); have hsz2 := hbel.size; have q2_4 : wF.cell? ⟨w.heap.size, 4, none⟩ = some (.slice AU nU cU) := R2.out.cell 4; have q2_6 : wF.cell? ⟨w.heap.size, 6, none⟩ = some (.int .i64 u) := R2.out.cell 6; clear hbel) | (obtain ⟨hz7, hz8, hzb, hzs⟩ := rows2 wF [.int .i64 0, .int .i64 0, .string ⟨#[]⟩] (nodC nod0 (.slice none 0 0) (.slice none 0 0)) 49 71; refine wpList_storeW rfl 49 (.tmp 7) (.tmp 18) rfl 3 entw_size (wF.heap.size) 49 rfl [.int .i64 0, .int .i64 0, .string ⟨#[]⟩] (cellsE e) rfl hz7 rfl rfl (cellsE_one _) ?_; intro wS3 hr3 hg3 hs3; replace hzb := hzb.grown hg3 hzb.size (fun k hk => by have := Option.some.inj hk; omega); replace hz8 := hz8.grown hg3 (fun e => by have := Option.some.inj e; omega); have hz7 := hr3; clear hg3 hs3 hr3) | (refine wpList_storeW rfl 71 (.tmp 8) (.tmp 19) rfl 13 nod_size (wF.heap.size + 1) 71 rfl (nodC nod0 (.slice none 0 0) (.slice none 0 0)) (nodC N (.slice A1 n1 c1) (.slice C1 m1 d1)) rfl hz8 rfl rfl (nodC_one _ _ _ _ _ _ _) ?_; intro wS4 hr4 hg4 hs4; replace hzb := hzb.grown hg4 hzb.size (fun k hk => by have := Option.some.inj hk; omega); replace hz7 := hz7.grown hg4 (fun e => by have := Option.some.inj e; omega); have hz8 := hr4; clear q2_4 q2_6; replace HB := hide (HB.out.trans (hzb.mono HB.out.size)); replace R2 := hide (R2.out.on hzb); replace R5 := hide (R5.out.on hzb); replace R6 := hide (R6.out.on hzb); replace HU := hide (HU.out.under hzb (by omega)); replace HL := hide (HL.out.under hzb (by omega)); replace HV := hide (HV.out.under hzb (by omega)); have hsz5 := hzb.size; have q2_4 : wS4.cell? ⟨w.heap.size, 4, none⟩ = some (.slice AU nU cU) := R2.out.cell 4; have q2_6 : wS4.cell? ⟨w.heap.size, 6, none⟩ = some (.int .i64 u) := R2.out.cell 6; have RE := hide hz7; have hlt3 := hz7.lt; have RN := hide hz8; have hlt4 := hz8.lt; have q8_0 : wS4.cell? ⟨wF.heap.size + 1, 0, none⟩ = some (.int .i64 N.k) := RN.out.cell 0; have q7_1 : wS4.cell? ⟨wF.heap.size, 1, none⟩ = some (.int .i64 e.ino) := RE.out.cell 1; clear hzb hzs hz7 hz8; clear hg4 hs4))
      refine wp_region_planN (fun w' => TwoS wS4 w.heap.size (w.heap.size + 1) 32 2 (w.heap.size + 1 + 1) 36 2 w') [(0, true), (1, true), (2, true), (3, true), (5, true), (6, true), (7, true), (4, false), (8, true), (9, false), (10, false)] (by kernel_rfl) (by kernel_rfl) (by kernel_rfl) (by kernel_rfl) rfl (fun _ _ _ _ _ h => h) (TwoS.start (base := w.heap.size) R5.out rfl R6.out rfl) (fun hHeld => ?_)
      simp only [planOps, List.filterMap_cons, List.filterMap_nil, List.getElem?_toArray, List.getElem?_cons_succ, List.getElem?_cons_zero, Option.map_some]
      refine wpPlan_take (v := ?_) (by kernel_rfl) (fun wS hSw => ?_) ?_
      rotate_left
      · refine execOp_load (x := .tmp 2) (k := 8) (g := w.heap.size) (off := 0) (cs := (vwdC g (.slice AU nU cU) (.slice AL nL cL) u (.slice AV nV cV))) ?_ vwd_agg vwd_size ?_ (fun j v hv => by rw [Nat.zero_add]; exact ((hSw.row R2.out (by omega) (by omega)).cell j).trans hv) rfl <;> rfl
      (try simp only [Act.put, List.setIfInBounds_toArray, List.set_cons_zero, List.set_cons_succ])
      refine wpPlan_take (v := ?_) (by kernel_rfl) (fun wS hSw => ?_) ?_
      rotate_left
      · (try dsimp only at hSw); go_simp; (try with_reducible rfl)
      (try simp only [Act.put, List.setIfInBounds_toArray, List.set_cons_zero, List.set_cons_succ])
      refine wpPlan_take (v := ?_) (by kernel_rfl) (fun wS hSw => ?_) ?_
      rotate_left
      · have qx := ((hSw.row RE.out (by omega) (by omega)).cell 1).trans (show (cellsE e)[1]? = some (.int .i64 e.ino) from rfl); go_simp; (try with_reducible rfl)
      (try simp only [Act.put, List.setIfInBounds_toArray, List.set_cons_zero, List.set_cons_succ])
      refine wpPlan_take (v := ?_) (by kernel_rfl) (fun wS hSw => ?_) ?_
      rotate_left
      · (try dsimp only at hSw); go_simp; (try with_reducible rfl)
      (try simp only [Act.put, List.setIfInBounds_toArray, List.set_cons_zero, List.set_cons_succ])
      refine wpPlan_take (v := ?_) (by kernel_rfl) (fun wS hSw => ?_) ?_
      rotate_left
      · (try dsimp only at hSw); go_simp; (try with_reducible rfl)
      (try simp only [Act.put, List.setIfInBounds_toArray, List.set_cons_zero, List.set_cons_succ])
      refine wpPlan_take (v := ?_) (by kernel_rfl) (fun wS hSw => ?_) ?_
      rotate_left
      · have qx := ((hSw.row RE.out (by omega) (by omega)).cell 1).trans (show (cellsE e)[1]? = some (.int .i64 e.ino) from rfl); go_simp; (try with_reducible rfl)
      (try simp only [Act.put, List.setIfInBounds_toArray, List.set_cons_zero, List.set_cons_succ])
      refine wpPlan_take (v := ?_) (by kernel_rfl) (fun wS hSw => ?_) ?_
      rotate_left
      · (try dsimp only at hSw); go_simp; (try with_reducible rfl)
      (try simp only [Act.put, List.setIfInBounds_toArray, List.set_cons_zero, List.set_cons_succ])
      refine wpPlan_call (by kernel_rfl) (fun K hK => ?_)
      have hOld := hide hHeld
      clear hHeld
      go_simp
      go_at_call 72
      refine (VAbove_any HP.out _ (hOld.out.und HU.out (by omega) (by omega) (by omega)) (hOld.out.und HL.out (by omega) (by omega) (by omega)) (by have := hOld.out.2.2.2.size; omega) HF.out HFU.out (hOld.out.und HV.out (by omega) (by omega) (by omega)) (by have := hOld.out.2.2.2.size; omega) hnV).mono ?_
      rintro e w' ⟨A3, c3, rfl, h3, hbel⟩
      have H3 := hide (fr_low h3 (lo' := W1.heap.size) (by have := hOld.out.2.2.2.size; omega))
      clear h3
      refine hK.out _ _ (hOld.out.on hbel (by omega)) (fun hHeld => ?_)
      clear hK K
      (try dsimp only)
      refine wpPlan_take (v := ?_) (by kernel_rfl) (fun wS hSw => ?_) ?_
      rotate_left
      · (try dsimp only at hSw); go_simp; (try with_reducible rfl)
      (try simp only [Act.put, List.setIfInBounds_toArray, List.set_cons_zero, List.set_cons_succ])
      refine wpPlan_call (by kernel_rfl) (fun K hK => ?_)
      have hOld := hide hHeld
      clear hHeld
      obtain ⟨pk, ⟨cu5, p5, l5⟩, p6, pb⟩ := hOld.out
      refine wp_storeC 32 (.tmp 5) (.tmp 45) rfl 2 viw_size (w.heap.size + 1) 0 32 rfl cu5 (viwC e.ino (.slice A3 P.length c3)) rfl p5 rfl (by omega) (viwC_one _ _ _ _) ?_
      intro w' hr' hg' hs'
      rw [splice_all _ _ (by rw [l5]; rfl)] at hr'
      refine hK.out _ _ (hOld.out.st5 hg' hr' rfl (by omega) (by omega) (by omega)) (fun hHeld => ?_)
      clear hK K
      have hsO := hOld.out.2.2.2.size
      replace H3 := hide (fr_grown H3.out hg' (by omega))
      have HR5 := hide hr'
      clear hr' hg' hs' pk p5 p6 pb hsO
      (try simp only [Act.put])
      refine wpPlan_call (by kernel_rfl) (fun K hK => ?_)
      have hOld := hide hHeld
      clear hHeld
      obtain ⟨pk, p5, ⟨cu6, p6, l6⟩, pb⟩ := hOld.out
      refine wp_storeC 36 (.tmp 6) (.tmp 48) rfl 2 plc_size (w.heap.size + 1 + 1) 0 36 rfl cu6 (prC (0, e.ino)) rfl p6 rfl (by omega) (prC_one _) ?_
      intro w' hr' hg' hs'
      rw [splice_all _ _ (by rw [l6]; rfl)] at hr'
      refine hK.out _ _ (hOld.out.st6 hg' hr' rfl (by omega) (by omega) (by omega)) (fun hHeld => ?_)
      clear hK K
      have hsO := hOld.out.2.2.2.size
      replace H3 := hide (fr_grown H3.out hg' (by omega))
      have HR6 := hide hr'
      replace HR5 := hide (HR5.out.grown hg' (fun e => by have := Option.some.inj e; omega))
      clear hr' hg' hs' pk p5 p6 pb hsO
      (try simp only [Act.put])
      refine wpPlan_end ?_
      have HSF := hide hHeld
      clear hHeld
      go_wp2_with fail
      exact bodyPost_ret (res_tcc Tryz.results51 rfl rfl rfl viw_agg viw_size plc_agg plc_size HR5.out rfl HR6.out rfl) rfl ⟨A3, c3, rfl, fr_low H3.out (by omega), HB.out.trans HSF.out.2.2.2⟩
    · rw [if_neg h1]
      have hk1 : (N.k == 1) = false := by simpa using h1
      by_cases h4 : N.k = 4
      · rw [if_pos h4]
        have hk2 : (N.k == 2) = false := by simp [h4]
        have hk3 : (N.k == 3) = false := by simp [h4]
        unfold noStep
        clear r0 r1 r2 hb1 hW1 hu h hF hup hv hE hN ho hNe huse hkr h1 h4
        go_enter Tryz.func51, Tryz.ntmps51
        go_wp2_with (first | (go_at_call 95; refine (First_m HE.out HN.out (B := B) W1 HU.out (by omega) (by have := HFU.out.1; omega) (entB_len HFU.out.2 u)).mono ?_; rintro e1 wF ⟨A1, n1, c1, C1, m1, d1, rfl, hbel⟩; clear q2_4 q2_6; replace HB := hide (HB.out.trans (hbel.mono HB.out.size)); replace R2 := hide (R2.out.on hbel); replace R5 := hide (R5.out.on hbel); replace R6 := hide (R6.out.on hbel); replace HU := hide (HU.out.under hbel (by omega)); replace HL := hide (HL.out.under hbel (by omega)); replace HV := hide (HV.out.under hbel (by omega)); have hsz2 := hbel.size; have q2_4 : wF.cell? ⟨w.heap.size, 4, none⟩ = some (.slice AU nU cU) := R2.out.cell 4; have q2_6 : wF.cell? ⟨w.heap.size, 6, none⟩ = some (.int .i64 u) := R2.out.cell 6; clear hbel) | (obtain ⟨hz7, hz8, hzb, hzs⟩ := rows2 wF [.int .i64 0, .int .i64 0, .string ⟨#[]⟩] (nodC nod0 (.slice none 0 0) (.slice none 0 0)) 49 71; refine wpList_storeW rfl 49 (.tmp 7) (.tmp 18) rfl 3 entw_size (wF.heap.size) 49 rfl [.int .i64 0, .int .i64 0, .string ⟨#[]⟩] (cellsE e) rfl hz7 rfl rfl (cellsE_one _) ?_; intro wS3 hr3 hg3 hs3; replace hzb := hzb.grown hg3 hzb.size (fun k hk => by have := Option.some.inj hk; omega); replace hz8 := hz8.grown hg3 (fun e => by have := Option.some.inj e; omega); have hz7 := hr3; clear hg3 hs3 hr3) | (refine wpList_storeW rfl 71 (.tmp 8) (.tmp 19) rfl 13 nod_size (wF.heap.size + 1) 71 rfl (nodC nod0 (.slice none 0 0) (.slice none 0 0)) (nodC N (.slice A1 n1 c1) (.slice C1 m1 d1)) rfl hz8 rfl rfl (nodC_one _ _ _ _ _ _ _) ?_; intro wS4 hr4 hg4 hs4; replace hzb := hzb.grown hg4 hzb.size (fun k hk => by have := Option.some.inj hk; omega); replace hz7 := hz7.grown hg4 (fun e => by have := Option.some.inj e; omega); have hz8 := hr4; clear q2_4 q2_6; replace HB := hide (HB.out.trans (hzb.mono HB.out.size)); replace R2 := hide (R2.out.on hzb); replace R5 := hide (R5.out.on hzb); replace R6 := hide (R6.out.on hzb); replace HU := hide (HU.out.under hzb (by omega)); replace HL := hide (HL.out.under hzb (by omega)); replace HV := hide (HV.out.under hzb (by omega)); have hsz5 := hzb.size; have q2_4 : wS4.cell? ⟨w.heap.size, 4, none⟩ = some (.slice AU nU cU) := R2.out.cell 4; have q2_6 : wS4.cell? ⟨w.heap.size, 6, none⟩ = some (.int .i64 u) := R2.out.cell 6; have RE := hide hz7; have hlt3 := hz7.lt; have RN := hide hz8; have hlt4 := hz8.lt; have q8_0 : wS4.cell? ⟨wF.heap.size + 1, 0, none⟩ = some (.int .i64 N.k) := RN.out.cell 0; have q7_1 : wS4.cell? ⟨wF.heap.size, 1, none⟩ = some (.int .i64 e.ino) := RE.out.cell 1; clear hzb hzs hz7 hz8; clear hg4 hs4) | (refine wpList_storeW rfl 32 (.tmp 5) (.tmp 49) rfl 2 viw_size (w.heap.size + 1) 32 rfl (viwC 0 (.slice none 0 0)) (viwC 0 (.slice none 0 0)) rfl R5.out rfl rfl (viwC_one _ _ _ _) ?_; intro wS6 hr6 hg6 hs6; clear q2_4 q2_6 q8_0 q7_1; replace HB := hide (HB.out.grown hg6 (by omega) (fun k hk => by have := Option.some.inj hk; omega)); replace R2 := hide (R2.out.grown hg6 (fun e => by have := Option.some.inj e; omega)); replace R6 := hide (R6.out.grown hg6 (fun e => by have := Option.some.inj e; omega)); replace HU := hide (und_grown HU.out hg6 (by omega) (by omega)); replace HL := hide (und_grown HL.out hg6 (by omega) (by omega)); replace HV := hide (und_grown HV.out hg6 (by omega) (by omega)); replace RE := hide (RE.out.grown hg6 (fun e => by have := Option.some.inj e; omega)); replace RN := hide (RN.out.grown hg6 (fun e => by have := Option.some.inj e; omega)); have hsz7 := hg6.size; replace R5 := hide hr6; have q2_4 : wS6.cell? ⟨w.heap.size, 4, none⟩ = some (.slice AU nU cU) := R2.out.cell 4; have q2_6 : wS6.cell? ⟨w.heap.size, 6, none⟩ = some (.int .i64 u) := R2.out.cell 6; have q8_0 : wS6.cell? ⟨wF.heap.size + 1, 0, none⟩ = some (.int .i64 N.k) := RN.out.cell 0; have q7_1 : wS6.cell? ⟨wF.heap.size, 1, none⟩ = some (.int .i64 e.ino) := RE.out.cell 1; clear hr6 hg6 hs6) | (refine wpList_storeW rfl 36 (.tmp 6) (.tmp 50) rfl 2 plc_size (w.heap.size + 1 + 1) 36 rfl (prC (0, 0)) (prC (0, 0)) rfl R6.out rfl rfl (prC_one _) ?_; intro wS8 hr8 hg8 hs8; clear q2_4 q2_6 q8_0 q7_1; replace HB := hide (HB.out.grown hg8 (by omega) (fun k hk => by have := Option.some.inj hk; omega)); replace R2 := hide (R2.out.grown hg8 (fun e => by have := Option.some.inj e; omega)); replace R5 := hide (R5.out.grown hg8 (fun e => by have := Option.some.inj e; omega)); replace HU := hide (und_grown HU.out hg8 (by omega) (by omega)); replace HL := hide (und_grown HL.out hg8 (by omega) (by omega)); replace HV := hide (und_grown HV.out hg8 (by omega) (by omega)); replace RE := hide (RE.out.grown hg8 (fun e => by have := Option.some.inj e; omega)); replace RN := hide (RN.out.grown hg8 (fun e => by have := Option.some.inj e; omega)); have hsz9 := hg8.size; replace R6 := hide hr8; have q2_4 : wS8.cell? ⟨w.heap.size, 4, none⟩ = some (.slice AU nU cU) := R2.out.cell 4; have q2_6 : wS8.cell? ⟨w.heap.size, 6, none⟩ = some (.int .i64 u) := R2.out.cell 6; have q8_0 : wS8.cell? ⟨wF.heap.size + 1, 0, none⟩ = some (.int .i64 N.k) := RN.out.cell 0; have q7_1 : wS8.cell? ⟨wF.heap.size, 1, none⟩ = some (.int .i64 e.ino) := RE.out.cell 1; clear hr8 hg8 hs8))
        exact bodyPost_ret (res_tcc Tryz.results51 rfl rfl rfl viw_agg viw_size plc_agg plc_size R5.out rfl R6.out rfl) rfl ⟨none, 0, rfl, RdE.none_ _ _ _ _, HB.out⟩
      · rw [if_neg h4]
        by_cases h2 : N.k = 2
        · have hk2 : (N.k == 2) = true := by simpa using h2
          clear r0 r1 r2 hb1 hW1 hu h hF hup hv hE hN ho hNe huse hkr h1 h4 h2
          go_enter Tryz.func51, Tryz.ntmps51
          go_wp2_with (first | (go_at_call 95; refine (First_m HE.out HN.out (B := B) W1 HU.out (by omega) (by have := HFU.out.1; omega) (entB_len HFU.out.2 u)).mono ?_; rintro e1 wF ⟨A1, n1, c1, C1, m1, d1, rfl, hbel⟩; clear q2_4 q2_6; replace HB := hide (HB.out.trans (hbel.mono HB.out.size)); replace R2 := hide (R2.out.on hbel); replace R5 := hide (R5.out.on hbel); replace R6 := hide (R6.out.on hbel); replace HU := hide (HU.out.under hbel (by omega)); replace HL := hide (HL.out.under hbel (by omega)); replace HV := hide (HV.out.under hbel (by omega)); have hsz2 := hbel.size; have q2_4 : wF.cell? ⟨w.heap.size, 4, none⟩ = some (.slice AU nU cU) := R2.out.cell 4; have q2_6 : wF.cell? ⟨w.heap.size, 6, none⟩ = some (.int .i64 u) := R2.out.cell 6; clear hbel) | (obtain ⟨hz7, hz8, hzb, hzs⟩ := rows2 wF [.int .i64 0, .int .i64 0, .string ⟨#[]⟩] (nodC nod0 (.slice none 0 0) (.slice none 0 0)) 49 71; refine wpList_storeW rfl 49 (.tmp 7) (.tmp 18) rfl 3 entw_size (wF.heap.size) 49 rfl [.int .i64 0, .int .i64 0, .string ⟨#[]⟩] (cellsE e) rfl hz7 rfl rfl (cellsE_one _) ?_; intro wS3 hr3 hg3 hs3; replace hzb := hzb.grown hg3 hzb.size (fun k hk => by have := Option.some.inj hk; omega); replace hz8 := hz8.grown hg3 (fun e => by have := Option.some.inj e; omega); have hz7 := hr3; clear hg3 hs3 hr3) | (refine wpList_storeW rfl 71 (.tmp 8) (.tmp 19) rfl 13 nod_size (wF.heap.size + 1) 71 rfl (nodC nod0 (.slice none 0 0) (.slice none 0 0)) (nodC N (.slice A1 n1 c1) (.slice C1 m1 d1)) rfl hz8 rfl rfl (nodC_one _ _ _ _ _ _ _) ?_; intro wS4 hr4 hg4 hs4; replace hzb := hzb.grown hg4 hzb.size (fun k hk => by have := Option.some.inj hk; omega); replace hz7 := hz7.grown hg4 (fun e => by have := Option.some.inj e; omega); have hz8 := hr4; clear q2_4 q2_6; replace HB := hide (HB.out.trans (hzb.mono HB.out.size)); replace R2 := hide (R2.out.on hzb); replace R5 := hide (R5.out.on hzb); replace R6 := hide (R6.out.on hzb); replace HU := hide (HU.out.under hzb (by omega)); replace HL := hide (HL.out.under hzb (by omega)); replace HV := hide (HV.out.under hzb (by omega)); have hsz5 := hzb.size; have q2_4 : wS4.cell? ⟨w.heap.size, 4, none⟩ = some (.slice AU nU cU) := R2.out.cell 4; have q2_6 : wS4.cell? ⟨w.heap.size, 6, none⟩ = some (.int .i64 u) := R2.out.cell 6; have RE := hide hz7; have hlt3 := hz7.lt; have RN := hide hz8; have hlt4 := hz8.lt; have q8_0 : wS4.cell? ⟨wF.heap.size + 1, 0, none⟩ = some (.int .i64 N.k) := RN.out.cell 0; have q7_1 : wS4.cell? ⟨wF.heap.size, 1, none⟩ = some (.int .i64 e.ino) := RE.out.cell 1; clear hzb hzs hz7 hz8; clear hg4 hs4))
          refine wp_region_planN (fun w' => TwoS wS4 w.heap.size (w.heap.size + 1) 32 2 (w.heap.size + 1 + 1) 36 2 w') [(0, true), (1, true), (2, true), (3, true), (4, true), (5, true), (6, true), (7, false), (8, false)] (by kernel_rfl) (by kernel_rfl) (by kernel_rfl) (by kernel_rfl) rfl (fun _ _ _ _ _ h => h) (TwoS.start (base := w.heap.size) R5.out rfl R6.out rfl) (fun hHeld => ?_)
          simp only [planOps, List.filterMap_cons, List.filterMap_nil, List.getElem?_toArray, List.getElem?_cons_succ, List.getElem?_cons_zero, Option.map_some]
          refine wpPlan_take (v := ?_) (by kernel_rfl) (fun wS hSw => ?_) ?_
          rotate_left
          · (try dsimp only at hSw); go_simp; (try with_reducible rfl)
          (try simp only [Act.put, List.setIfInBounds_toArray, List.set_cons_zero, List.set_cons_succ])
          refine wpPlan_take (v := ?_) (by kernel_rfl) (fun wS hSw => ?_) ?_
          rotate_left
          · have qx := ((hSw.row RN.out (by omega) (by omega)).cell 0).trans (show (nodC N (.slice A1 n1 c1) (.slice C1 m1 d1))[0]? = some (.int .i64 N.k) from rfl); go_simp; (try with_reducible rfl)
          (try simp only [Act.put, List.setIfInBounds_toArray, List.set_cons_zero, List.set_cons_succ])
          refine wpPlan_take (v := ?_) (by kernel_rfl) (fun wS hSw => ?_) ?_
          rotate_left
          · (try dsimp only at hSw); go_simp; (try with_reducible rfl)
          (try simp only [Act.put, List.setIfInBounds_toArray, List.set_cons_zero, List.set_cons_succ])
          refine wpPlan_take (v := ?_) (by kernel_rfl) (fun wS hSw => ?_) ?_
          rotate_left
          · (try dsimp only at hSw); go_simp; (try with_reducible rfl)
          (try simp only [Act.put, List.setIfInBounds_toArray, List.set_cons_zero, List.set_cons_succ])
          refine wpPlan_take (v := ?_) (by kernel_rfl) (fun wS hSw => ?_) ?_
          rotate_left
          · have qx := ((hSw.row RE.out (by omega) (by omega)).cell 1).trans (show (cellsE e)[1]? = some (.int .i64 e.ino) from rfl); go_simp; (try with_reducible rfl)
          (try simp only [Act.put, List.setIfInBounds_toArray, List.set_cons_zero, List.set_cons_succ])
          refine wpPlan_take (v := ?_) (by kernel_rfl) (fun wS hSw => ?_) ?_
          rotate_left
          · (try dsimp only at hSw); go_simp; (try with_reducible rfl)
          (try simp only [Act.put, List.setIfInBounds_toArray, List.set_cons_zero, List.set_cons_succ])
          refine wpPlan_take (v := ?_) (by kernel_rfl) (fun wS hSw => ?_) ?_
          rotate_left
          · (try dsimp only at hSw); go_simp; (try with_reducible rfl)
          (try simp only [Act.put, List.setIfInBounds_toArray, List.set_cons_zero, List.set_cons_succ])
          refine wpPlan_call (by kernel_rfl) (fun K hK => ?_)
          have hOld := hide hHeld
          clear hHeld
          obtain ⟨pk, ⟨cu5, p5, l5⟩, p6, pb⟩ := hOld.out
          refine wp_storeC 32 (.tmp 5) (.tmp 35) rfl 2 viw_size (w.heap.size + 1) 0 32 rfl cu5 (viwC 0 (.slice none 0 0)) rfl p5 rfl (by omega) (viwC_one _ _ _ _) ?_
          intro w' hr' hg' hs'
          rw [splice_all _ _ (by rw [l5]; rfl)] at hr'
          refine hK.out _ _ (hOld.out.st5 hg' hr' rfl (by omega) (by omega) (by omega)) (fun hHeld => ?_)
          clear hK K
          have hsO := hOld.out.2.2.2.size
          have HR5 := hide hr'
          clear hr' hg' hs' pk p5 p6 pb hsO
          (try simp only [Act.put])
          refine wpPlan_call (by kernel_rfl) (fun K hK => ?_)
          have hOld := hide hHeld
          clear hHeld
          obtain ⟨pk, p5, ⟨cu6, p6, l6⟩, pb⟩ := hOld.out
          refine wp_storeC 36 (.tmp 6) (.tmp 38) rfl 2 plc_size (w.heap.size + 1 + 1) 0 36 rfl cu6 (prC (0, e.ino)) rfl p6 rfl (by omega) (prC_one _) ?_
          intro w' hr' hg' hs'
          rw [splice_all _ _ (by rw [l6]; rfl)] at hr'
          refine hK.out _ _ (hOld.out.st6 hg' hr' rfl (by omega) (by omega) (by omega)) (fun hHeld => ?_)
          clear hK K
          have hsO := hOld.out.2.2.2.size
          have HR6 := hide hr'
          replace HR5 := hide (HR5.out.grown hg' (fun e => by have := Option.some.inj e; omega))
          clear hr' hg' hs' pk p5 p6 pb hsO
          (try simp only [Act.put])
          refine wpPlan_end ?_
          have HSF := hide hHeld
          clear hHeld
          go_wp2_with fail
          exact bodyPost_ret (res_tcc Tryz.results51 rfl rfl rfl viw_agg viw_size plc_agg plc_size HR5.out rfl HR6.out rfl) rfl ⟨none, 0, rfl, RdE.none_ _ _ _ _, HB.out.trans HSF.out.2.2.2⟩
        · have hk2 : (N.k == 2) = false := by simpa using h2
          have hk3 : (N.k == 3) = true := by simp; omega
          clear r0 r1 r2 hb1 hW1 hu h hF hup hv hE hN ho hNe huse hkr h1 h4 h2
          go_enter Tryz.func51, Tryz.ntmps51
          go_wp2_with (first | (go_at_call 95; refine (First_m HE.out HN.out (B := B) W1 HU.out (by omega) (by have := HFU.out.1; omega) (entB_len HFU.out.2 u)).mono ?_; rintro e1 wF ⟨A1, n1, c1, C1, m1, d1, rfl, hbel⟩; clear q2_4 q2_6; replace HB := hide (HB.out.trans (hbel.mono HB.out.size)); replace R2 := hide (R2.out.on hbel); replace R5 := hide (R5.out.on hbel); replace R6 := hide (R6.out.on hbel); replace HU := hide (HU.out.under hbel (by omega)); replace HL := hide (HL.out.under hbel (by omega)); replace HV := hide (HV.out.under hbel (by omega)); have hsz2 := hbel.size; have q2_4 : wF.cell? ⟨w.heap.size, 4, none⟩ = some (.slice AU nU cU) := R2.out.cell 4; have q2_6 : wF.cell? ⟨w.heap.size, 6, none⟩ = some (.int .i64 u) := R2.out.cell 6; clear hbel) | (obtain ⟨hz7, hz8, hzb, hzs⟩ := rows2 wF [.int .i64 0, .int .i64 0, .string ⟨#[]⟩] (nodC nod0 (.slice none 0 0) (.slice none 0 0)) 49 71; refine wpList_storeW rfl 49 (.tmp 7) (.tmp 18) rfl 3 entw_size (wF.heap.size) 49 rfl [.int .i64 0, .int .i64 0, .string ⟨#[]⟩] (cellsE e) rfl hz7 rfl rfl (cellsE_one _) ?_; intro wS3 hr3 hg3 hs3; replace hzb := hzb.grown hg3 hzb.size (fun k hk => by have := Option.some.inj hk; omega); replace hz8 := hz8.grown hg3 (fun e => by have := Option.some.inj e; omega); have hz7 := hr3; clear hg3 hs3 hr3) | (refine wpList_storeW rfl 71 (.tmp 8) (.tmp 19) rfl 13 nod_size (wF.heap.size + 1) 71 rfl (nodC nod0 (.slice none 0 0) (.slice none 0 0)) (nodC N (.slice A1 n1 c1) (.slice C1 m1 d1)) rfl hz8 rfl rfl (nodC_one _ _ _ _ _ _ _) ?_; intro wS4 hr4 hg4 hs4; replace hzb := hzb.grown hg4 hzb.size (fun k hk => by have := Option.some.inj hk; omega); replace hz7 := hz7.grown hg4 (fun e => by have := Option.some.inj e; omega); have hz8 := hr4; clear q2_4 q2_6; replace HB := hide (HB.out.trans (hzb.mono HB.out.size)); replace R2 := hide (R2.out.on hzb); replace R5 := hide (R5.out.on hzb); replace R6 := hide (R6.out.on hzb); replace HU := hide (HU.out.under hzb (by omega)); replace HL := hide (HL.out.under hzb (by omega)); replace HV := hide (HV.out.under hzb (by omega)); have hsz5 := hzb.size; have q2_4 : wS4.cell? ⟨w.heap.size, 4, none⟩ = some (.slice AU nU cU) := R2.out.cell 4; have q2_6 : wS4.cell? ⟨w.heap.size, 6, none⟩ = some (.int .i64 u) := R2.out.cell 6; have RE := hide hz7; have hlt3 := hz7.lt; have RN := hide hz8; have hlt4 := hz8.lt; have q8_0 : wS4.cell? ⟨wF.heap.size + 1, 0, none⟩ = some (.int .i64 N.k) := RN.out.cell 0; have q7_1 : wS4.cell? ⟨wF.heap.size, 1, none⟩ = some (.int .i64 e.ino) := RE.out.cell 1; clear hzb hzs hz7 hz8; clear hg4 hs4))
          refine wp_region_planN (fun w' => TwoS wS4 w.heap.size (w.heap.size + 1) 32 2 (w.heap.size + 1 + 1) 36 2 w') [(0, true), (1, true), (2, true), (3, true), (4, true), (5, true), (6, true), (7, false), (8, false)] (by kernel_rfl) (by kernel_rfl) (by kernel_rfl) (by kernel_rfl) rfl (fun _ _ _ _ _ h => h) (TwoS.start (base := w.heap.size) R5.out rfl R6.out rfl) (fun hHeld => ?_)
          simp only [planOps, List.filterMap_cons, List.filterMap_nil, List.getElem?_toArray, List.getElem?_cons_succ, List.getElem?_cons_zero, Option.map_some]
          refine wpPlan_take (v := ?_) (by kernel_rfl) (fun wS hSw => ?_) ?_
          rotate_left
          · (try dsimp only at hSw); go_simp; (try with_reducible rfl)
          (try simp only [Act.put, List.setIfInBounds_toArray, List.set_cons_zero, List.set_cons_succ])
          refine wpPlan_take (v := ?_) (by kernel_rfl) (fun wS hSw => ?_) ?_
          rotate_left
          · have qx := ((hSw.row RN.out (by omega) (by omega)).cell 0).trans (show (nodC N (.slice A1 n1 c1) (.slice C1 m1 d1))[0]? = some (.int .i64 N.k) from rfl); go_simp; (try with_reducible rfl)
          (try simp only [Act.put, List.setIfInBounds_toArray, List.set_cons_zero, List.set_cons_succ])
          refine wpPlan_take (v := ?_) (by kernel_rfl) (fun wS hSw => ?_) ?_
          rotate_left
          · (try dsimp only at hSw); go_simp; (try with_reducible rfl)
          (try simp only [Act.put, List.setIfInBounds_toArray, List.set_cons_zero, List.set_cons_succ])
          refine wpPlan_take (v := ?_) (by kernel_rfl) (fun wS hSw => ?_) ?_
          rotate_left
          · (try dsimp only at hSw); go_simp; (try with_reducible rfl)
          (try simp only [Act.put, List.setIfInBounds_toArray, List.set_cons_zero, List.set_cons_succ])
          refine wpPlan_take (v := ?_) (by kernel_rfl) (fun wS hSw => ?_) ?_
          rotate_left
          · have qx := ((hSw.row RE.out (by omega) (by omega)).cell 1).trans (show (cellsE e)[1]? = some (.int .i64 e.ino) from rfl); go_simp; (try with_reducible rfl)
          (try simp only [Act.put, List.setIfInBounds_toArray, List.set_cons_zero, List.set_cons_succ])
          refine wpPlan_take (v := ?_) (by kernel_rfl) (fun wS hSw => ?_) ?_
          rotate_left
          · (try dsimp only at hSw); go_simp; (try with_reducible rfl)
          (try simp only [Act.put, List.setIfInBounds_toArray, List.set_cons_zero, List.set_cons_succ])
          refine wpPlan_take (v := ?_) (by kernel_rfl) (fun wS hSw => ?_) ?_
          rotate_left
          · (try dsimp only at hSw); go_simp; (try with_reducible rfl)
          (try simp only [Act.put, List.setIfInBounds_toArray, List.set_cons_zero, List.set_cons_succ])
          refine wpPlan_call (by kernel_rfl) (fun K hK => ?_)
          have hOld := hide hHeld
          clear hHeld
          obtain ⟨pk, ⟨cu5, p5, l5⟩, p6, pb⟩ := hOld.out
          refine wp_storeC 32 (.tmp 5) (.tmp 35) rfl 2 viw_size (w.heap.size + 1) 0 32 rfl cu5 (viwC 0 (.slice none 0 0)) rfl p5 rfl (by omega) (viwC_one _ _ _ _) ?_
          intro w' hr' hg' hs'
          rw [splice_all _ _ (by rw [l5]; rfl)] at hr'
          refine hK.out _ _ (hOld.out.st5 hg' hr' rfl (by omega) (by omega) (by omega)) (fun hHeld => ?_)
          clear hK K
          have hsO := hOld.out.2.2.2.size
          have HR5 := hide hr'
          clear hr' hg' hs' pk p5 p6 pb hsO
          (try simp only [Act.put])
          refine wpPlan_call (by kernel_rfl) (fun K hK => ?_)
          have hOld := hide hHeld
          clear hHeld
          obtain ⟨pk, p5, ⟨cu6, p6, l6⟩, pb⟩ := hOld.out
          refine wp_storeC 36 (.tmp 6) (.tmp 38) rfl 2 plc_size (w.heap.size + 1 + 1) 0 36 rfl cu6 (prC (0, e.ino)) rfl p6 rfl (by omega) (prC_one _) ?_
          intro w' hr' hg' hs'
          rw [splice_all _ _ (by rw [l6]; rfl)] at hr'
          refine hK.out _ _ (hOld.out.st6 hg' hr' rfl (by omega) (by omega) (by omega)) (fun hHeld => ?_)
          clear hK K
          have hsO := hOld.out.2.2.2.size
          have HR6 := hide hr'
          replace HR5 := hide (HR5.out.grown hg' (fun e => by have := Option.some.inj e; omega))
          clear hr' hg' hs' pk p5 p6 pb hsO
          (try simp only [Act.put])
          refine wpPlan_end ?_
          have HSF := hide hHeld
          clear hHeld
          go_wp2_with fail
          exact bodyPost_ret (res_tcc Tryz.results51 rfl rfl rfl viw_agg viw_size plc_agg plc_size HR5.out rfl HR6.out rfl) rfl ⟨none, 0, rfl, RdE.none_ _ _ _ _, HB.out.trans HSF.out.2.2.2⟩
theorem VStepI_e {g : GeoQ} {AU AL : Option Addr} {nU cU nL cL B : Nat} {up : List NodV} {ls : List (List NodV)} {u : Int} {AV : Option Addr} {nV cV BV : Nat} {vl : List (Int × Int)} {nm : List UInt8} {S : StepV} (hS : stepV up ls (u, vl) nm = S) (w : World) (hu : RdE nodEn w (Under B) AU nU up) (h : RdE layEn w (Under B) AL nL ls) (hB : B ≤ w.heap.size) (hF : FewL ls) (hup : FewU up) (hv : RdE prEn w (Under BV) AV nV vl) (hBV : BV ≤ w.heap.size) (hnV : nV ≤ 1000) : Calls Tryz.prog 51 #[.agg (vwdC g (.slice AU nU cU) (.slice AL nL cL) u (.slice AV nV cV)).toArray, .string ⟨nm.toArray⟩] w (StepF w.heap.size w S) := by rw [← hS]; exact VStepI_any w hu h hB hF hup hv hBV hnV
set_option maxRecDepth 100000 in
set_option maxHeartbeats 4000000 in
theorem VStep_any {g : GeoQ} {AU AL : Option Addr} {nU cU nL cL B : Nat} {up : List NodV} {ls : List (List NodV)} {u : Int} {AV : Option Addr} {nV cV BV : Nat} {vl : List (Int × Int)} {nm : List UInt8} {S : StepV} (hS : stepV up ls (u, vl) nm = S) (w : World) (hu : RdE nodEn w (Under B) AU nU up) (h : RdE layEn w (Under B) AL nL ls) (hB : B ≤ w.heap.size) (hF : FewL ls) (hup : FewU up) (hv : RdE prEn w (Under BV) AV nV vl) (hBV : BV ≤ w.heap.size) (hnV : nV ≤ 1000) : Calls Tryz.prog 12 #[.agg (stkC g (.slice AU nU cU) (.slice AL nL cL)).toArray, .agg (viwC u (.slice AV nV cV)).toArray, .string ⟨nm.toArray⟩] w (StepF w.heap.size w S) := by
  obtain ⟨W1, hW1⟩ : ∃ W1, ((((w.alloc (.cells (stkC g (.slice AU nU cU) (.slice AL nL cL)).toArray 29)).alloc (.cells (viwC u (.slice AV nV cV)).toArray 32)).alloc (.cells (viwC 0 (.slice none 0 0)).toArray 32)).alloc (.cells (prC (0, 0)).toArray 36)) = W1 := ⟨_, rfl⟩
  obtain ⟨r0, r1, r2, r3, hb1, hs1⟩ := rowA4 w _ _ _ _ _ _ _ _ hW1
  have hW1' : ((((w.alloc (.cells #[.int .i64 g.a, .int .i64 g.b, .int .i64 g.c, .int .i64 g.d, .slice AU nU cU, .slice AL nL cL] 29)).alloc (.cells #[.int .i64 u, .slice AV nV cV] 32)).alloc (.cells #[.int .i64 0, .slice none 0 0] 32)).alloc (.cells #[.int .i64 0, .int .i64 0] 36)) = W1 := hW1
  have R3 := hide r0
  have R4 := hide r1
  have R7 := hide r2
  have R8 := hide r3
  have HB := hide hb1
  have hsz0 := hb1.size
  have HU := hide (hu.under hb1 hB)
  have HL := hide (h.under hb1 hB)
  have HF := hide hF
  have HFU := hide hup
  have HV := hide (hv.under hb1 hBV)
  have HS := hide hS
  unfold stkC viwC
  clear r0 r1 r2 r3 hb1 hW1 hu h hF hup hv hS
  go_enter Tryz.func12, Tryz.ntmps12
  go_wp2_with (first | (refine wpList_loadW rfl 29 (.tmp 3) rfl 6 stk_agg stk_size (w.heap.size) 29 rfl [.int .i64 g.a, .int .i64 g.b, .int .i64 g.c, .int .i64 g.d, .slice AU nU cU, .slice AL nL cL] R3.out rfl ?_) | (refine wpList_loadW rfl 32 (.tmp 4) rfl 2 viw_agg viw_size (w.heap.size + 1) 32 rfl [.int .i64 u, .slice AV nV cV] R4.out rfl ?_) | (go_at_call 51; refine (VStepI_e (u := u) (cV := cV) HS.out W1 HU.out HL.out (by omega) HF.out HFU.out HV.out (by omega) hnV).mono ?_; rintro e1 wB ⟨A3, c3, rfl, h3, hbel⟩; replace HB := hide (HB.out.trans (hbel.mono HB.out.size)); replace R3 := hide (R3.out.on hbel); replace R4 := hide (R4.out.on hbel); replace R7 := hide (R7.out.on hbel); replace R8 := hide (R8.out.on hbel); replace HU := hide (HU.out.under hbel (by omega)); replace HL := hide (HL.out.under hbel (by omega)); replace HV := hide (HV.out.under hbel (by omega)); have hsz2 := hbel.size; have H3 := hide h3; clear h3; clear hbel) | (refine wpList_storeW rfl 32 (.tmp 7) (.tmp 15) rfl 2 viw_size (w.heap.size + 1 + 1) 32 rfl (viwC 0 (.slice none 0 0)) (viwC S.2.1.1 (.slice A3 S.2.1.2.length c3)) rfl R7.out rfl rfl (viwC_one _ _ _ _) ?_; intro wS3 hr3 hg3 hs3; replace HB := hide (HB.out.grown hg3 (by omega) (fun k hk => by have := Option.some.inj hk; omega)); replace R3 := hide (R3.out.grown hg3 (fun e => by have := Option.some.inj e; omega)); replace R4 := hide (R4.out.grown hg3 (fun e => by have := Option.some.inj e; omega)); replace R8 := hide (R8.out.grown hg3 (fun e => by have := Option.some.inj e; omega)); replace HU := hide (und_grown HU.out hg3 (by omega) (by omega)); replace HL := hide (und_grown HL.out hg3 (by omega) (by omega)); replace HV := hide (und_grown HV.out hg3 (by omega) (by omega)); replace H3 := hide (fr_grown H3.out hg3 (by omega)); have hsz4 := hg3.size; replace R7 := hide hr3; clear hr3 hg3 hs3) | (refine wpList_storeW rfl 36 (.tmp 8) (.tmp 16) rfl 2 plc_size (w.heap.size + 1 + 1 + 1) 36 rfl (prC (0, 0)) (prC S.2.2) rfl R8.out rfl rfl (prC_one _) ?_; intro wS5 hr5 hg5 hs5; replace HB := hide (HB.out.grown hg5 (by omega) (fun k hk => by have := Option.some.inj hk; omega)); replace R3 := hide (R3.out.grown hg5 (fun e => by have := Option.some.inj e; omega)); replace R4 := hide (R4.out.grown hg5 (fun e => by have := Option.some.inj e; omega)); replace R7 := hide (R7.out.grown hg5 (fun e => by have := Option.some.inj e; omega)); replace HU := hide (und_grown HU.out hg5 (by omega) (by omega)); replace HL := hide (und_grown HL.out hg5 (by omega) (by omega)); replace HV := hide (und_grown HV.out hg5 (by omega) (by omega)); replace H3 := hide (fr_grown H3.out hg5 (by omega)); have hsz6 := hg5.size; replace R8 := hide hr5; clear hr5 hg5 hs5))
  exact bodyPost_ret (res_tcc Tryz.results12 rfl rfl rfl viw_agg viw_size plc_agg plc_size R7.out rfl R8.out rfl) rfl ⟨A3, c3, rfl, fr_low H3.out (by omega), HB.out⟩
end Go.Proofs.YtnehkgbdppbhiaaGreat

/- All names of a directory, as it is shown (layer 17). -/
namespace Go.Proofs.YtnehkgbdppbhiaaGreat
open Go.RowKit Go.Shelf Plain

section
variable {gS gL : Nat} {p : List UInt8 → Bool} {B0 : Nat}
set_option maxRecDepth 100000 in
set_option maxHeartbeats 8000000 in
theorem DelSO_any {base : Nat} {A : Option Addr} {n c : Nat} {l : List (List UInt8)} (w : World) (h : Ow st w base 9 A n c l) (hn : n ≤ 100000)
    (hdel : ∀ (W : World) (nm : List UInt8) (r : Bool), p nm = r → Kept (Under B0) w W → w.heap.size ≤ W.heap.size → Calls Tryz.prog 107 #[.string ⟨nm.toArray⟩, .pointer (some ⟨gS, 0, none⟩), .pointer (some ⟨gL, 0, none⟩)] W (BoolB W r)) (hB0 : B0 ≤ base) (hB1 : B0 ≤ w.heap.size) :
    Calls Tryz.prog 65 #[.slice A n c, .func (.func 107) #[] #[.pointer (some ⟨gS, 0, none⟩), .pointer (some ⟨gL, 0, none⟩)]] w (fun e w' => ∃ A c m, e = .returned (.slice A m c) ∧ Ow st w' base 9 A m c (l.filter (fun x => !p x)) ∧ Below B0 w w') := by
  have hl : l.length = n := by have := h.1; simpa using this
  have H := hide h
  have HD := hide hdel
  have HRD := hide h.rd
  clear h hdel
  go_enter Tryz.func65, Tryz.ntmps65
  go_wp2_with fail
  refine (IdxN_any (p := p) (B0 := B0) w HRD.out hn HD.out hB1).mono ?_
  rintro ez w1 ⟨i, rfl, hi, hb1⟩
  have HB1 := hide hb1
  have hs1 := hb1.size
  clear hb1
  rcases hi with ⟨rfl, hall⟩ | ⟨k, x, rfl, hx, hp, hall⟩
  · have HALL := hide hall
    clear hall
    go_wp2_with fail
    go_ret
    refine ⟨A, c, n, rfl, ?_, HB1.out.mono (by omega)⟩
    rw [List.filter_eq_self.2 (fun x hx => by rw [HALL.out x hx]; rfl)]
    exact H.out.below HB1.out
  · have hk := (List.getElem?_eq_some_iff.1 hx).1
    obtain ⟨g, cs, hA, hbg, hrow, hcl, hnc, hct, hcm⟩ : ∃ g cs, A = some ⟨g, 0, none⟩ ∧ base ≤ g ∧ RowL w g 9 cs ∧ cs.length = c ∧ n ≤ c ∧ cs.take n = l.map st ∧ c ≤ maxLen := by
      rcases H.out.2 with ⟨_, h1⟩ | ⟨g, cap, cur, h1, h2, h3, h4, h5, h6, h7⟩
      · omega
      · cases h1
        exact ⟨g, cur.toList, rfl, h2, by simpa [RowL] using h3, by simpa using h6, h4, by simpa using h7, h5⟩
    have hgl := hrow.lt
    have HD0 := hide (show DelN p l n c g k (k + 1) w1 from by
      have e : (l.take k).filter (fun x => !p x) = l.take k := List.filter_eq_self.2 (fun y hy => by rw [hall y hy]; rfl)
      refine DelN.skip (b := k) ⟨cs, hrow.on HB1.out, hcl, hnc, by rw [e, List.length_take]; omega, ?_, fun i y hi hy => ?_⟩ hx hp
      · rw [e]
        have e2 := congrArg (List.take k) hct
        rw [List.take_take, Nat.min_eq_left (by omega), ← List.map_take] at e2
        exact e2
      · have hin := (List.getElem?_eq_some_iff.1 hy).1
        rw [← List.getElem?_take_of_lt (show i < n by omega), hct, List.getElem?_map, hy]
        rfl)
    subst hA
    have hkn : ((k : Int) == -1) = false := by rw [beq_eq_false_iff_ne]; omega
    have HB1K := hide (HB1.out.mono hB1 : Below B0 w w1)
    clear hx hp hall hrow hct hcl
    go_wp2_with fail
    go_loopw [5, 6, 7] (fun iv jv _ wr => ∃ a b : Nat, a < b ∧ b ≤ n ∧ iv = .int .i64 a ∧ jv = .int .i64 b ∧ Hid (DelN p l n c g a b wr) ∧ Below B0 w wr ∧ w.heap.size ≤ wr.heap.size) (fun _ jv _ _ => n - (intOf jv).toNat)
    case atStart => exact ⟨k, k + 1, by omega, by omega, rfl, by go_num, HD0, HB1K.out, hs1⟩
    case round =>
      obtain ⟨a, b, hab, hbn, rfl, rfl, HDA, hbr, hsr⟩ := hrel
      have HBR := hide hbr
      clear hbr
      by_cases hlt : b < n
      · obtain ⟨x, hx⟩ : ∃ x, l[b]? = some x := ⟨_, List.getElem?_eq_getElem (by omega)⟩
        obtain ⟨r, hr⟩ : ∃ r, p x = r := ⟨_, rfl⟩
        have q : wr.cell? ⟨g, b, none⟩ = some (.string ⟨x.toArray⟩) := by
          obtain ⟨cs, h1, h2, h3, h4, h5, h6⟩ := HDA.out
          rw [h1.cell]
          exact h6 b x (Nat.le_refl _) hx
        have HX := hide hx
        have HR := hide hr
        clear hx hr
        go_wp2_with fail
        refine (HD.out wr x r HR.out (Kept.of_below HBR.out (fun b hb => hb)) hsr).mono ?_
        rintro ez w2 ⟨rfl, hb2⟩
        have HD2 := hide (HDA.out.on hb2)
        have HB2 := hide (HBR.out.trans (hb2.mono (by omega)))
        have hs2 := hb2.size
        clear hb2 q
        cases r with
        | true =>
          go_wp2_with fail
          go_roundw
          case rel => exact ⟨a, b + 1, by omega, by omega, rfl, by go_num, hide (HD2.out.skip HX.out HR.out), HB2.out, by omega⟩
          case measure => simp [intOf]; omega
        | false =>
          obtain ⟨ca, qa⟩ : ∃ ca, w2.cell? ⟨g, a, none⟩ = some ca := by
            obtain ⟨cs, h1, h2, h3, h4, h5, h6⟩ := HD2.out
            exact ⟨_, (h1.cell a).trans (List.getElem?_eq_getElem (by omega))⟩
          have fa : w2.frozen? ⟨g, a, none⟩ = false := by
            obtain ⟨cs, h1, -⟩ := HD2.out
            exact h1.frozen a
          go_wp2_with fail
          go_roundw
          case rel => exact ⟨a + 1, b + 1, by omega, by omega, by go_num, by go_num, hide (HD2.out.put HX.out HR.out hab (by omega)), HB2.out.setCell (p := ⟨g, a, none⟩) (by show B0 ≤ g; omega) _, by simp [World.setCell]; omega⟩
          case measure => simp [intOf]; omega
      · obtain rfl : b = n := by omega
        obtain ⟨cs, h1, h2, h3, h4, h5, h6⟩ := HDA.out
        obtain ⟨Z, hZ, hclr⟩ := run_clear_st wr g a (b - a) (c - a) 9 cs (by omega) h1 (by omega)
        have HW := hide (h1.setRow_ (splice cs a Z))
        have HG := hide (grownBy_setRow wr g (splice cs a Z).toArray)
        have ht : (splice cs a Z).take a = (l.filter (fun x => !p x)).map st := by
          rw [take_splice_pre _ _ _ (by rw [hZ]; omega), h5, List.take_of_length_le (by omega)]
        have hla : (l.filter (fun x => !p x)).length = a := by rw [List.take_of_length_le (by omega)] at h4; exact h4
        have HT := hide ht
        have HLA := hide hla
        have HCL2 := hide h2
        have HSP := hide (show (splice cs a Z).length = cs.length from by unfold splice; rw [List.length_append, List.length_append, List.length_take, List.length_drop, hZ]; omega)
        clear h1 h2 h4 h5 h6 hZ ht hla HDA
        go_wp2_with fail
        go_ret
        refine ⟨_, _, a, rfl, ⟨by simp [HLA.out], .inr ⟨g, c, (splice cs a Z).toArray, rfl, hbg, HW.out, by omega, hcm, ?_, by simpa using HT.out⟩⟩, HBR.out.grown HG.out (by omega) (fun k hk => by have := Option.some.inj hk; omega)⟩
        have h2' := HCL2.out
        simp only [List.size_toArray]
        rw [HSP.out]
        omega
set_option maxRecDepth 100000 in
set_option maxHeartbeats 4000000 in
theorem IdxV_any {A : Option Addr} {n c : Nat} {l : List (List UInt8)} (w : World) (h : Rd st w w.heap.size A n l) (hn : n ≤ 100000)
    (hdel : ∀ (W : World) (nm : List UInt8) (r : Bool), p nm = r → Kept (Under B0) w W → w.heap.size ≤ W.heap.size → Calls Tryz.prog 64 #[.string ⟨nm.toArray⟩, .pointer (some ⟨gS, 0, none⟩)] W (BoolB W r)) (hB0 : B0 ≤ w.heap.size) :
    Calls Tryz.prog 108 #[.slice A n c, .func (.func 64) #[] #[.pointer (some ⟨gS, 0, none⟩)]] w (IdxRet w p l) := by
  have H := hide h
  have hl := h.len
  have HD := hide hdel
  clear h hdel
  go_enter Tryz.func108, Tryz.ntmps108
  go_wp2
  go_loopw [8] (fun v8 wr => ∃ j : Nat, j ≤ n ∧ v8 = .int .i64 j ∧ Below w.heap.size w wr ∧ ∀ y ∈ l.take j, p y = false) (fun v8 _ => n - (intOf v8).toNat)
  case atStart => exact ⟨0, by omega, rfl, below_self _, by simp⟩
  case round =>
    obtain ⟨j, hj, rfl, hbr, hall⟩ := hrel
    have HALL := hide hall
    have HBR := hide hbr
    clear hall hbr
    by_cases hlt : j < n
    · obtain ⟨x, hx⟩ : ∃ x, l[j]? = some x := ⟨_, List.getElem?_eq_getElem (by omega)⟩
      obtain ⟨b, o, rfl, hb, hq⟩ := st_cell H.out hx
      have q : wr.cell? ⟨b, o + j, none⟩ = some (.string ⟨x.toArray⟩) := (HBR.out.cell (p := ⟨b, o + j, none⟩) hb).trans hq
      have HX := hide hx
      obtain ⟨r, hr⟩ : ∃ r, p x = r := ⟨_, rfl⟩
      have HR := hide hr
      have hjn : (j : Int) < (n : Int) := by omega
      clear hx hq hr
      go_wp2_with fail
      refine (HD.out wr x r HR.out (Kept.of_below HBR.out (fun b hb => Nat.lt_of_lt_of_le hb hB0)) HBR.out.size).mono ?_
      rintro ez w2 ⟨rfl, hb2⟩
      have HB2 := hide (HBR.out.trans (hb2.mono HBR.out.size))
      clear hb2 q
      cases r with
      | false =>
        go_wp2_with fail
        go_roundw
        case rel => exact ⟨j + 1, by omega, by go_num, HB2.out, fun y hy => by
          rw [List.take_add_one, HX.out, List.mem_append] at hy
          rcases hy with hy | hy
          · exact HALL.out y hy
          · simp at hy; rw [hy]; exact HR.out⟩
        case measure => simp [intOf]; omega
      | true =>
        go_wp2_with fail
        go_ret
        exact ⟨(j : Int), rfl, .inr ⟨j, x, rfl, HX.out, HR.out, HALL.out⟩, HB2.out⟩
    · obtain rfl : j = n := by omega
      go_wp2_with fail
      go_ret
      exact ⟨-1, rfl, .inl ⟨rfl, fun y hy => HALL.out y (by rw [List.take_of_length_le (by omega)]; exact hy)⟩, HBR.out⟩
set_option maxRecDepth 100000 in
set_option maxHeartbeats 8000000 in
theorem DelVO_any {base : Nat} {A : Option Addr} {n c : Nat} {l : List (List UInt8)} (w : World) (h : Ow st w base 9 A n c l) (hn : n ≤ 100000)
    (hdel : ∀ (W : World) (nm : List UInt8) (r : Bool), p nm = r → Kept (Under B0) w W → w.heap.size ≤ W.heap.size → Calls Tryz.prog 64 #[.string ⟨nm.toArray⟩, .pointer (some ⟨gS, 0, none⟩)] W (BoolB W r)) (hB0 : B0 ≤ base) (hB1 : B0 ≤ w.heap.size) :
    Calls Tryz.prog 65 #[.slice A n c, .func (.func 64) #[] #[.pointer (some ⟨gS, 0, none⟩)]] w (fun e w' => ∃ A c m, e = .returned (.slice A m c) ∧ Ow st w' base 9 A m c (l.filter (fun x => !p x)) ∧ Below B0 w w') := by
  have hl : l.length = n := by have := h.1; simpa using this
  have H := hide h
  have HD := hide hdel
  have HRD := hide h.rd
  clear h hdel
  go_enter Tryz.func65, Tryz.ntmps65
  go_wp2_with fail
  refine (IdxV_any (p := p) (B0 := B0) w HRD.out hn HD.out hB1).mono ?_
  rintro ez w1 ⟨i, rfl, hi, hb1⟩
  have HB1 := hide hb1
  have hs1 := hb1.size
  clear hb1
  rcases hi with ⟨rfl, hall⟩ | ⟨k, x, rfl, hx, hp, hall⟩
  · have HALL := hide hall
    clear hall
    go_wp2_with fail
    go_ret
    refine ⟨A, c, n, rfl, ?_, HB1.out.mono (by omega)⟩
    rw [List.filter_eq_self.2 (fun x hx => by rw [HALL.out x hx]; rfl)]
    exact H.out.below HB1.out
  · have hk := (List.getElem?_eq_some_iff.1 hx).1
    obtain ⟨g, cs, hA, hbg, hrow, hcl, hnc, hct, hcm⟩ : ∃ g cs, A = some ⟨g, 0, none⟩ ∧ base ≤ g ∧ RowL w g 9 cs ∧ cs.length = c ∧ n ≤ c ∧ cs.take n = l.map st ∧ c ≤ maxLen := by
      rcases H.out.2 with ⟨_, h1⟩ | ⟨g, cap, cur, h1, h2, h3, h4, h5, h6, h7⟩
      · omega
      · cases h1
        exact ⟨g, cur.toList, rfl, h2, by simpa [RowL] using h3, by simpa using h6, h4, by simpa using h7, h5⟩
    have hgl := hrow.lt
    have HD0 := hide (show DelN p l n c g k (k + 1) w1 from by
      have e : (l.take k).filter (fun x => !p x) = l.take k := List.filter_eq_self.2 (fun y hy => by rw [hall y hy]; rfl)
      refine DelN.skip (b := k) ⟨cs, hrow.on HB1.out, hcl, hnc, by rw [e, List.length_take]; omega, ?_, fun i y hi hy => ?_⟩ hx hp
      · rw [e]
        have e2 := congrArg (List.take k) hct
        rw [List.take_take, Nat.min_eq_left (by omega), ← List.map_take] at e2
        exact e2
      · have hin := (List.getElem?_eq_some_iff.1 hy).1
        rw [← List.getElem?_take_of_lt (show i < n by omega), hct, List.getElem?_map, hy]
        rfl)
    subst hA
    have hkn : ((k : Int) == -1) = false := by rw [beq_eq_false_iff_ne]; omega
    have HB1K := hide (HB1.out.mono hB1 : Below B0 w w1)
    clear hx hp hall hrow hct hcl
    go_wp2_with fail
    go_loopw [5, 6, 7] (fun iv jv _ wr => ∃ a b : Nat, a < b ∧ b ≤ n ∧ iv = .int .i64 a ∧ jv = .int .i64 b ∧ Hid (DelN p l n c g a b wr) ∧ Below B0 w wr ∧ w.heap.size ≤ wr.heap.size) (fun _ jv _ _ => n - (intOf jv).toNat)
    case atStart => exact ⟨k, k + 1, by omega, by omega, rfl, by go_num, HD0, HB1K.out, hs1⟩
    case round =>
      obtain ⟨a, b, hab, hbn, rfl, rfl, HDA, hbr, hsr⟩ := hrel
      have HBR := hide hbr
      clear hbr
      by_cases hlt : b < n
      · obtain ⟨x, hx⟩ : ∃ x, l[b]? = some x := ⟨_, List.getElem?_eq_getElem (by omega)⟩
        obtain ⟨r, hr⟩ : ∃ r, p x = r := ⟨_, rfl⟩
        have q : wr.cell? ⟨g, b, none⟩ = some (.string ⟨x.toArray⟩) := by
          obtain ⟨cs, h1, h2, h3, h4, h5, h6⟩ := HDA.out
          rw [h1.cell]
          exact h6 b x (Nat.le_refl _) hx
        have HX := hide hx
        have HR := hide hr
        clear hx hr
        go_wp2_with fail
        refine (HD.out wr x r HR.out (Kept.of_below HBR.out (fun b hb => hb)) hsr).mono ?_
        rintro ez w2 ⟨rfl, hb2⟩
        have HD2 := hide (HDA.out.on hb2)
        have HB2 := hide (HBR.out.trans (hb2.mono (by omega)))
        have hs2 := hb2.size
        clear hb2 q
        cases r with
        | true =>
          go_wp2_with fail
          go_roundw
          case rel => exact ⟨a, b + 1, by omega, by omega, rfl, by go_num, hide (HD2.out.skip HX.out HR.out), HB2.out, by omega⟩
          case measure => simp [intOf]; omega
        | false =>
          obtain ⟨ca, qa⟩ : ∃ ca, w2.cell? ⟨g, a, none⟩ = some ca := by
            obtain ⟨cs, h1, h2, h3, h4, h5, h6⟩ := HD2.out
            exact ⟨_, (h1.cell a).trans (List.getElem?_eq_getElem (by omega))⟩
          have fa : w2.frozen? ⟨g, a, none⟩ = false := by
            obtain ⟨cs, h1, -⟩ := HD2.out
            exact h1.frozen a
          go_wp2_with fail
          go_roundw
          case rel => exact ⟨a + 1, b + 1, by omega, by omega, by go_num, by go_num, hide (HD2.out.put HX.out HR.out hab (by omega)), HB2.out.setCell (p := ⟨g, a, none⟩) (by show B0 ≤ g; omega) _, by simp [World.setCell]; omega⟩
          case measure => simp [intOf]; omega
      · obtain rfl : b = n := by omega
        obtain ⟨cs, h1, h2, h3, h4, h5, h6⟩ := HDA.out
        obtain ⟨Z, hZ, hclr⟩ := run_clear_st wr g a (b - a) (c - a) 9 cs (by omega) h1 (by omega)
        have HW := hide (h1.setRow_ (splice cs a Z))
        have HG := hide (grownBy_setRow wr g (splice cs a Z).toArray)
        have ht : (splice cs a Z).take a = (l.filter (fun x => !p x)).map st := by
          rw [take_splice_pre _ _ _ (by rw [hZ]; omega), h5, List.take_of_length_le (by omega)]
        have hla : (l.filter (fun x => !p x)).length = a := by rw [List.take_of_length_le (by omega)] at h4; exact h4
        have HT := hide ht
        have HLA := hide hla
        have HCL2 := hide h2
        have HSP := hide (show (splice cs a Z).length = cs.length from by unfold splice; rw [List.length_append, List.length_append, List.length_take, List.length_drop, hZ]; omega)
        clear h1 h2 h4 h5 h6 hZ ht hla HDA
        go_wp2_with fail
        go_ret
        refine ⟨_, _, a, rfl, ⟨by simp [HLA.out], .inr ⟨g, c, (splice cs a Z).toArray, rfl, hbg, HW.out, by omega, hcm, ?_, by simpa using HT.out⟩⟩, HBR.out.grown HG.out (by omega) (fun k hk => by have := Option.some.inj hk; omega)⟩
        have h2' := HCL2.out
        simp only [List.size_toArray]
        rw [HSP.out]
        omega
end
/-- It returns names, in a row of its own. -/
def NamesO (w : World) (L : List (List UInt8)) (e : Ending) (w' : World) : Prop := ∃ A n c, e = .returned (.slice A n c) ∧ Ow st w' w.heap.size 9 A n c L ∧ Below w.heap.size w w'
set_option maxRecDepth 100000 in
set_option maxHeartbeats 8000000 in
theorem Names_o {g : GeoQ} {AU AL AP : Option Addr} {nU cU nL cL n cP : Nat} {ls : List (List NodV)} {l : List (Int × Int)} (w : World) (h : RdE layEn w (Under w.heap.size) AL nL ls) (hp : RdE prEn w (Under w.heap.size) AP n l) (hF : FewL ls) (hn : n ≤ 1000) :
    Calls Tryz.prog 62 #[.agg (stkC g (.slice AU nU cU) (.slice AL nL cL)).toArray, .slice AP n cP] w (NamesO w (namesL ls l)) := by
  obtain ⟨r0, r1, hb2, hs2⟩ := rows2 w (stkC g (.slice AU nU cU) (.slice AL nL cL)) [.slice AP n cP] 29 30
  obtain ⟨W2, hW2⟩ : ∃ W2, (w.alloc (.cells (stkC g (.slice AU nU cU) (.slice AL nL cL)).toArray 29)).alloc (.cells [Value.slice AP n cP].toArray 30) = W2 := ⟨_, rfl⟩
  rw [hW2] at r0 r1 hb2 hs2
  have hW2' : (w.alloc (.cells #[.int .i64 g.a, .int .i64 g.b, .int .i64 g.c, .int .i64 g.d, .slice AU nU cU, .slice AL nL cL] 29)).alloc (.cells #[.slice AP n cP] 30) = W2 := hW2
  have q0 : W2.cell? ⟨w.heap.size + 1, 0, none⟩ = some (.slice AP n cP) := r1.cell 0
  have hm : ls.length ≤ 100 := by have := hF.1; omega
  have HM2 := hide (fun ns (hh : ns ∈ ls) => (show ns.length ≤ 1000 from Nat.le_trans (hF.2 ns hh).1 (by omega)))
  have R0 := hide r0
  have HB2 := hide hb2
  have hsl : w.heap.size + 2 ≤ W2.heap.size := by omega
  have HL := hide (h.under hb2 (Nat.le_refl _))
  have HP := hide (hp.under hb2 (Nat.le_refl _))
  have HPL := hide hp.1
  have HF := hide hF
  have HCX := hide (show CtxN g AU AL AP nU cU nL cL n cP w.heap.size w.heap.size (w.heap.size + 1) ls l W2 from ⟨r0, r1, h.under hb2 (Nat.le_refl _), hp.under hb2 (Nat.le_refl _), by omega⟩)
  have HAL := hide (fun k => (show (allN ls (l.take k)).length ≤ 16 * k from Nat.le_trans (allN_len hF _) (Nat.mul_le_mul_left _ (by rw [List.length_take]; omega))))
  unfold stkC
  clear r0 r1 hb2 hW2 h hp hF hs2
  go_enter Tryz.func62, Tryz.ntmps62
  go_wp2_with fail
  clear hW2' q0
  go_loopw [5, 13] (fun v5 v13 wr => ∃ (j n5 : Nat) (A5 : Option Addr) (c5 : Nat), j ≤ n ∧ v13 = .int .i64 j ∧ v5 = .slice A5 n5 c5 ∧ Ow st wr W2.heap.size 9 A5 n5 c5 (allN ls (l.take j)) ∧ Below W2.heap.size W2 wr) (fun _ v13 _ => n - (intOf v13).toNat)
  case atStart => exact ⟨0, 0, none, 0, by omega, rfl, rfl, World.ownsRow_nil _ _ _ _, below_self _⟩
  case round =>
    rename World => wo
    obtain ⟨j, n5, A5, c5, hj, rfl, rfl, ho, hbr⟩ := hrel
    have hn5 : n5 ≤ 16 * j := by rw [← ho.rd.len]; exact HAL.out j
    have HO := hide ho
    have HBR := hide hbr
    have hbsz := hbr.size
    have R0r := hide (R0.out.on hbr)
    clear ho hbr
    by_cases hlt : j < n
    · obtain ⟨p, hp⟩ : ∃ p, l[j]? = some p := ⟨_, List.getElem?_eq_getElem (by have := HPL.out; omega)⟩
      obtain ⟨bP, oP, rfl, hbP, hcP⟩ := pr_get (HP.out.under HBR.out (by omega)) hp
      have HCP := hide hcP
      have HZP := hide (RowL.new wo 36 (prC (0, 0)))
      have HSU := hide (allN_succ (ls := ls) hp)
      obtain ⟨EL, hEL⟩ : ∃ EL, entL ls p = EL := ⟨_, rfl⟩
      have hel := entL_len HF.out p
      rw [hEL] at hel
      have HEL := hide hEL
      have hjn : (j : Int) < (n : Int) := by omega
      clear hp hcP hEL
      go_wp2_with (first | (refine wpList_loadX rfl 36 (.tmp 15) rfl 2 plc_agg plc_size bP (oP + j * 2) rfl (prC p) HCP.out rfl ?_) | (refine wpList_storeW rfl 36 (.tmp 7) (.tmp 16) rfl 2 plc_size wo.heap.size 36 rfl (prC (0, 0)) (prC p) rfl HZP.out rfl rfl (prC_one _) ?_; intro w6 hr6 hg6 hs6; have hb6 := below_stored' hg6; have R6 := hide hr6; have HB6 := hide hb6; have R06 := hide (R0r.out.on hb6); have hs6l := hb6.size; clear hr6 hg6 hs6 hb6))
      have HQ0 := hide (fun W (hb : Below w6.heap.size w6 W) => show W.cell? ⟨wo.heap.size, 0, none⟩ = some (.int .i64 p.1) from (R6.out.on hb).cell 0)
      have HQ1 := hide (fun W (hb : Below w6.heap.size w6 W) => show W.cell? ⟨wo.heap.size, 1, none⟩ = some (.int .i64 p.2) from (R6.out.on hb).cell 1)
      have hly := layL_len HM2.out p.1
      have hely := ent_lay ls p
      rw [HEL.out] at hely
      obtain ⟨ly, hLY⟩ : ∃ ly, layL ls p.1 = ly := ⟨_, rfl⟩
      rw [hLY] at hly hely
      have HLY := hide hLY
      have HEY := hide hely
      clear hLY hely
      refine wp_region_planN (fun w' => Below w6.heap.size w6 w') [(0, true), (1, true), (2, true), (4, true), (5, true), (8, true), (3, false), (6, false), (7, true)] (by kernel_rfl) (by kernel_rfl) (by kernel_rfl) (by kernel_rfl) rfl (fun _ _ _ _ _ h => h) (below_drew (below_self w6)) (fun hHeld => ?_)
      simp only [planOps, List.filterMap_cons, List.filterMap_nil, List.getElem?_toArray, List.getElem?_cons_succ, List.getElem?_cons_zero, Option.map_some]
      refine wpPlan_take (v := ?_) (by kernel_rfl) (fun wS hSw => ?_) ?_
      rotate_left
      · refine execOp_load (x := .tmp 2) (k := 6) (g := w.heap.size) (off := 0) (cs := stkC g (.slice AU nU cU) (.slice AL nL cL)) ?_ stk_agg stk_size ?_ (fun j v hv => by rw [Nat.zero_add]; exact ((R06.out.on hSw).cell j).trans hv) rfl <;> rfl
      (try simp only [Act.put, List.setIfInBounds_toArray, List.set_cons_zero, List.set_cons_succ])
      refine wpPlan_take (v := ?_) (by kernel_rfl) (fun wS hSw => ?_) ?_
      rotate_left
      · (try dsimp only at hSw); go_simp; (try with_reducible rfl)
      (try simp only [Act.put, List.setIfInBounds_toArray, List.set_cons_zero, List.set_cons_succ])
      refine wpPlan_take (v := ?_) (by kernel_rfl) (fun wS hSw => ?_) ?_
      rotate_left
      · have qx := HQ0.out wS hSw; go_simp; (try with_reducible rfl)
      (try simp only [Act.put, List.setIfInBounds_toArray, List.set_cons_zero, List.set_cons_succ])
      refine wpPlan_take (v := ?_) (by kernel_rfl) (fun wS hSw => ?_) ?_
      rotate_left
      · (try dsimp only at hSw); go_simp; (try with_reducible rfl)
      (try simp only [Act.put, List.setIfInBounds_toArray, List.set_cons_zero, List.set_cons_succ])
      refine wpPlan_take (v := ?_) (by kernel_rfl) (fun wS hSw => ?_) ?_
      rotate_left
      · have qx := HQ1.out wS hSw; go_simp; (try with_reducible rfl)
      (try simp only [Act.put, List.setIfInBounds_toArray, List.set_cons_zero, List.set_cons_succ])
      refine wpPlan_take (v := ?_) (by kernel_rfl) (fun wS hSw => ?_) ?_
      rotate_left
      · (try dsimp only at hSw); go_simp; (try with_reducible rfl)
      (try simp only [Act.put, List.setIfInBounds_toArray, List.set_cons_zero, List.set_cons_succ])
      refine wpPlan_call (by kernel_rfl) (fun K hK => ?_)
      have hOld := hide hHeld
      clear hHeld
      go_simp
      go_at_call 106
      refine (Beneath_e HLY.out (B := w.heap.size) _ (HL.out.under (HBR.out.trans ((HB6.out.trans (hOld.out.mono hs6l)).mono hbsz)) (by omega)) (by have := hOld.out.size; omega) hm).mono ?_
      rintro e w' ⟨A1, n1, c1, rfl, e2, e3, hbel⟩
      have HNS := hide e3
      clear e3
      refine hK.out _ _ (hOld.out.trans (hbel.mono hOld.out.size)) (fun hHeld => ?_)
      clear hK K
      (try simp only [Act.put, List.setIfInBounds_toArray, List.set_cons_zero, List.set_cons_succ])
      refine wpPlan_call (by kernel_rfl) (fun K hK => ?_)
      have hOld := hide hHeld
      clear hHeld
      go_simp
      go_at_call 63
      refine (Entries_e HEY.out (B := w.heap.size) _ HNS.out (by have := hOld.out.size; omega) (by omega)).mono ?_
      rintro e w' ⟨C, m, d, rfl, hmd, hE, hbel⟩
      have HE := hide hE
      clear hE
      refine hK.out _ _ (hOld.out.trans (hbel.mono hOld.out.size)) (fun hHeld => ?_)
      clear hK K
      (try simp only [Act.put, List.setIfInBounds_toArray, List.set_cons_zero, List.set_cons_succ])
      refine wpPlan_take (v := ?_) (by kernel_rfl) (fun wS hSw => ?_) ?_
      rotate_left
      · (try dsimp only at hSw); go_simp; (try with_reducible rfl)
      (try simp only [Act.put, List.setIfInBounds_toArray, List.set_cons_zero, List.set_cons_succ])
      refine wpPlan_end ?_
      have HB7 := hide (HB6.out.trans (hHeld.mono hs6l))
      have hs7l := hHeld.size
      clear hHeld
      (try go_wp2_with fail)
      have HO7 := hide (HO.out.below HB7.out)
      have HBX := hide (HBR.out.trans (HB7.out.mono hbsz))
      have hs7 := HB7.out.size
      have HEM := hide HE.out.1
      have hm16 : m ≤ 16 := by have := HEM.out; omega
      go_loopw [5, 25] (fun v5 v25 wr => ∃ (i n6 : Nat) (A6 : Option Addr) (c6 : Nat), i ≤ m ∧ v25 = .int .i64 i ∧ v5 = .slice A6 n6 c6 ∧ n6 ≤ 16 * j + i ∧ Ow st wr W2.heap.size 9 A6 n6 c6 (allN ls (l.take j) ++ (EL.take i).map EntV.name) ∧ Below W2.heap.size W2 wr ∧ w'.heap.size ≤ wr.heap.size ∧ Below w.heap.size w' wr) (fun _ v25 _ => m - (intOf v25).toNat)
      case atStart => exact ⟨0, n5, A5, c5, by omega, rfl, rfl, by omega, by simpa using HO7.out, HBX.out, Nat.le_refl _, Below.refl _ _⟩
      case round =>
        obtain ⟨i, n6, A6, c6, hi, rfl, rfl, hn6, ho6, hbx, hsx, hbw⟩ := hrel
        have HO6 := hide ho6
        have HBXr := hide hbx
        have hbxs := hbx.size
        have HBW := hide hbw
        clear ho6 hbx hbw
        by_cases hlt2 : i < m
        · obtain ⟨e, he⟩ : ∃ e, EL[i]? = some e := ⟨_, List.getElem?_eq_getElem (by have := HEM.out; omega)⟩
          obtain ⟨bE, oE, rfl, hbE, hcE⟩ := ent_get ((HE.out.mono (fun b hb => HBW.out.block b hb) (fun _ h => h)) : RdE entEn wr (Under w.heap.size) C m EL) he
          have HCE := hide hcE
          have HZE := hide (RowL.new wr 49 [.int .i64 0, .int .i64 0, .string ⟨#[]⟩])
          have HNS := hide (names_snoc he (allN ls (l.take j)))
          have him : (i : Int) < (m : Int) := by omega
          clear he hcE
          go_wp2_with (first | (refine wpList_loadX rfl 49 (.tmp 27) rfl 3 entw_agg entw_size bE (oE + i * 3) rfl (cellsE e) HCE.out rfl ?_) | (refine wpList_storeW rfl 49 (.tmp 9) (.tmp 28) rfl 3 entw_size wr.heap.size 49 rfl [.int .i64 0, .int .i64 0, .string ⟨#[]⟩] (cellsE e) rfl HZE.out rfl rfl (cellsE_one e) ?_; intro w8 hr8 hg8 hs8; have hb8 := below_stored' hg8; have qn : w8.cell? ⟨wr.heap.size, 2, none⟩ = some (.string ⟨e.name.toArray⟩) := hr8.cell 2; have HB8 := hide hb8; have hs8l := hb8.size; clear hr8 hg8 hs8 hb8) | (at_builtin; refine wpList_append_Rd (f := st) _ rfl (.tmp 29) (.tmp 32) 44 rfl W2.heap.size 9 _ 16 Tryz.underlying44 info_st rfl (fun _ => rfl) A6 n6 c6 _ rfl ((HO6.out.below HB8.out).below (below_new (below_self w8) _)) _ _ 1 1 [e.name] rfl (Rd.one _ _ rfl) (n6 + 1) rfl (by omega) (by omega) (by simp; omega) ?_; intro A7 c7 w9 ho9 hb9; have HO9 := hide ho9; have hs9 := hb9.size; have HB9 := hide ((HBXr.out.trans ((HB8.out.mono hbxs).alloc (by omega) _)).trans hb9); have HB9w := hide ((HBW.out.trans ((HB8.out.mono (by omega)).alloc (by omega) _)).trans (hb9.mono (by omega))); clear ho9 hb9))
          have hs9' : w8.heap.size ≤ w9.heap.size := by simp at hs9; omega
          go_roundw
          case rel => exact ⟨i + 1, n6 + 1, A7, c7, by omega, by go_num, rfl, by omega, by rw [HNS.out]; exact HO9.out, HB9.out, by omega, HB9w.out⟩
          case measure => simp [intOf]; omega
        · obtain rfl : i = m := by omega
          go_wp2_with fail
          go_roundw
          case rel => exact ⟨j + 1, n6, A6, c6, by omega, by go_num, rfl, by rw [HSU.out, HEL.out]; have := HO6.out; rwa [List.take_of_length_le (l := EL) (i := i) (by have := HEM.out; omega)] at this, HBXr.out⟩
          case measure => simp [intOf]; omega
    · obtain rfl : j = n := by omega
      have ho := HO.out
      rw [List.take_of_length_le (by have := HPL.out; omega)] at ho
      have HOF := hide ho
      have hll := HPL.out
      clear ho hll
      go_wp2_with fail
      refine (NSort_any wo HOF.out.rd (by omega)).mono ?_
      rintro ez w3 ⟨A3, c3, rfl, ho3, hb3⟩
      have HO3 := hide ho3
      have HB3 := hide (HBR.out.trans (hb3.mono hbsz))
      have hs3 := hb3.size
      have hsl3 := sortS_length (allN ls l)
      have hl0 := HOF.out.rd.len
      have hsb : (sortS (allN ls l)).length ≤ 100000 := by omega
      clear hb3 ho3 hsl3 hl0
      go_wp2_with fail
      refine (DelSO_any (p := hidS ls l) (B0 := W2.heap.size) (base := wo.heap.size) w3 HO3.out hsb (fun W nm r hr hk hs => HidN_any hr W (HCX.out.kept (B0 := W2.heap.size) (fun b hb => (hk b hb).trans (HB3.out.block b hb)) (by omega) (by omega) (by omega) (by omega)) HF.out hn) hbsz (by omega)).mono ?_
      rintro ez w4 ⟨A4, c4, n4, rfl, hr4, hb4⟩
      have HR4 := hide hr4
      have HB4 := hide (HB2.out.trans ((HB3.out.trans hb4).mono (by omega)))
      clear hr4 hb4
      go_wp2_with fail
      go_ret
      exact ⟨A4, n4, c4, rfl, HR4.out.rebase (by omega), HB4.out⟩
/-- What the closure reads: the directory's box. -/
def CtxV (g : GeoQ) (AU AL AV : Option Addr) (nU cU nL cL nV cV B gS : Nat) (u : Int) (up : List NodV) (ls : List (List NodV)) (vl : List (Int × Int)) (W : World) : Prop := RowL W gS 95 (vwdC g (.slice AU nU cU) (.slice AL nL cL) u (.slice AV nV cV)) ∧ RdE nodEn W (Under B) AU nU up ∧ RdE layEn W (Under B) AL nL ls ∧ RdE prEn W (Under B) AV nV vl ∧ B ≤ W.heap.size
theorem CtxV.kept {g : GeoQ} {AU AL AV : Option Addr} {nU cU nL cL nV cV B B0 gS : Nat} {u : Int} {up : List NodV} {ls : List (List NodV)} {vl : List (Int × Int)} {W W' : World} (h : CtxV g AU AL AV nU cU nL cL nV cV B gS u up ls vl W) (hk : Kept (Under B0) W W') (hS : gS < B0) (hB : B ≤ B0) (hs : W.heap.size ≤ W'.heap.size) : CtxV g AU AL AV nU cU nL cL nV cV B gS u up ls vl W' :=
  ⟨(hk gS hS).trans h.1, h.2.1.mono (fun b hb => hk b (Nat.lt_of_lt_of_le hb hB)) (fun _ h => h), h.2.2.1.mono (fun b hb => hk b (Nat.lt_of_lt_of_le hb hB)) (fun _ h => h), h.2.2.2.1.mono (fun b hb => hk b (Nat.lt_of_lt_of_le hb hB)) (fun _ h => h), Nat.le_trans h.2.2.2.2 hs⟩
set_option maxRecDepth 100000 in
set_option maxHeartbeats 4000000 in
theorem HidV_any {g : GeoQ} {AU AL AV : Option Addr} {nU cU nL cL nV cV B gS : Nat} {u : Int} {up : List NodV} {ls : List (List NodV)} {vl : List (Int × Int)} {nm : List UInt8} {r : Bool} (hr : hidV up ls (u, vl) nm = r) (W : World) (h : CtxV g AU AL AV nU cU nL cL nV cV B gS u up ls vl W) (hF : FewL ls) (hup : FewU up) (hnV : nV ≤ 1000) :
    Calls Tryz.prog 64 #[.string ⟨nm.toArray⟩, .pointer (some ⟨gS, 0, none⟩)] W (BoolB W r) := by
  obtain ⟨h1, h2, h3, h4, hB⟩ := h
  have hBV := hB
  have R1 := hide h1
  have HU := hide h2
  have HL := hide h3
  have HV := hide h4
  have HF := hide hF
  have HFU := hide hup
  obtain ⟨S, hS⟩ : ∃ S, stepV up ls (u, vl) nm = S := ⟨_, rfl⟩
  have hb : (S.1 == 0) = r := by
    rw [← hr, ← hS]
    unfold hidV
    rw [Bool.eq_iff_iff]
    simp
  have HS := hide hS
  clear hr hS h1 h2 h3 h4 hF hup
  go_enter Tryz.func64, Tryz.ntmps64
  go_wp2_with (first | (refine wpList_loadW rfl 95 (.tmp 1) rfl 8 vwd_agg vwd_size (gS) 95 rfl (vwdC g (.slice AU nU cU) (.slice AL nL cL) u (.slice AV nV cV)) R1.out rfl ?_) | (go_at_call 51; refine (VStepI_e (B := B) (BV := B) HS.out W HU.out HL.out hB HF.out HFU.out HV.out hBV hnV).mono ?_; rintro e1 wB ⟨A3, c3, rfl, -, hbel⟩; have HB := hide hbel; replace R1 := hide (R1.out.on hbel); have hsz2 := hbel.size; clear hbel) | (obtain ⟨hz5, hz6, hzb, hzs⟩ := rows2 wB (viwC 0 (.slice none 0 0)) (prC (0, 0)) 32 36; refine wpList_storeW rfl 32 (.tmp 5) (.tmp 12) rfl 2 viw_size (wB.heap.size) 32 rfl (viwC 0 (.slice none 0 0)) (viwC S.2.1.1 (.slice A3 S.2.1.2.length c3)) rfl hz5 rfl rfl (viwC_one _ _ _ _) ?_; intro wS3 hr3 hg3 hs3; replace hzb := hzb.grown hg3 hzb.size (fun k hk => by have := Option.some.inj hk; omega); replace hz6 := hz6.grown hg3 (fun e => by have := Option.some.inj e; omega); have hz5 := hr3; clear hg3 hs3 hr3) | (refine wpList_storeW rfl 36 (.tmp 6) (.tmp 13) rfl 2 plc_size (wB.heap.size + 1) 36 rfl (prC (0, 0)) (prC S.2.2) rfl hz6 rfl rfl (prC_one _) ?_; intro wS4 hr4 hg4 hs4; replace hzb := hzb.grown hg4 hzb.size (fun k hk => by have := Option.some.inj hk; omega); replace hz5 := hz5.grown hg4 (fun e => by have := Option.some.inj e; omega); have hz6 := hr4; replace HB := hide (HB.out.trans (hzb.mono HB.out.size)); replace R1 := hide (R1.out.on hzb); have hsz5 := hzb.size; have RV := hide hz5; have hlt3 := hz5.lt; have RP := hide hz6; have hlt4 := hz6.lt; clear hzb hzs hz5 hz6; clear hg4 hs4))
  go_ret
  exact BoolB.of HB.out
set_option maxRecDepth 100000 in
set_option maxHeartbeats 16000000 in
theorem VNames_any {g : GeoQ} {AU AL : Option Addr} {nU cU nL cL B : Nat} {up : List NodV} {ls : List (List NodV)} {u : Int} {AV : Option Addr} {nV cV BV : Nat} {vl : List (Int × Int)} (w : World) (hu : RdE nodEn w (Under B) AU nU up) (h : RdE layEn w (Under B) AL nL ls) (hB : B ≤ w.heap.size) (hF : FewL ls) (hup : FewU up) (hv : RdE prEn w (Under BV) AV nV vl) (hBV : BV ≤ w.heap.size) (hnV : nV ≤ 1000) : Calls Tryz.prog 21 #[.agg (stkC g (.slice AU nU cU) (.slice AL nL cL)).toArray, .agg (viwC u (.slice AV nV cV)).toArray] w (NamesO w (namesV up ls (u, vl))) := by
  obtain ⟨W1, hW1⟩ : ∃ W1, ((w.alloc (.cells (stkC g (.slice AU nU cU) (.slice AL nL cL)).toArray 29)).alloc (.cells (viwC u (.slice AV nV cV)).toArray 32)) = W1 := ⟨_, rfl⟩
  obtain ⟨r0, r1, hb1, hs1⟩ := rowA2 w _ _ _ _ hW1
  have hW1' : ((w.alloc (.cells #[.int .i64 g.a, .int .i64 g.b, .int .i64 g.c, .int .i64 g.d, .slice AU nU cU, .slice AL nL cL] 29)).alloc (.cells #[.int .i64 u, .slice AV nV cV] 32)) = W1 := hW1
  have R2 := hide r0
  have R3 := hide r1
  have HB := hide hb1
  have hsz0 := hb1.size
  have HU := hide (hu.under hb1 hB)
  have HL := hide (h.under hb1 hB)
  have HF := hide hF
  have HFU := hide hup
  have HV := hide (hv.under hb1 hBV)
  obtain ⟨EL, hEL⟩ : ∃ EL, entB up u = EL := ⟨_, rfl⟩
  have HEL := hide hEL
  have hel : EL.length ≤ 16 := by rw [← hEL]; exact entB_len hup.2 u
  have hnl : (namesL ls vl).length ≤ 16000 := by have h1 : (namesL ls vl).length ≤ 16 * vl.length := Nat.le_trans (List.length_filter_le _ _) (Nat.le_trans (sortS_length _) (allN_len hF vl)); have h2 := hv.1; omega
  have HAV := hide (show allV up ls (u, vl) = namesL ls vl ++ EL.map EntV.name from by unfold allV; rw [← hEL])
  have q3_1 : W1.cell? ⟨w.heap.size + 1, 1, none⟩ = some (.slice AV nV cV) := R3.out.cell 1
  have q2_4 : W1.cell? ⟨w.heap.size, 4, none⟩ = some (.slice AU nU cU) := R2.out.cell 4
  have q3_0 : W1.cell? ⟨w.heap.size + 1, 0, none⟩ = some (.int .i64 u) := R3.out.cell 0
  unfold stkC viwC
  clear r0 r1 hb1 hW1 hu h hF hup hv hEL
  go_enter Tryz.func21, Tryz.ntmps21
  go_wp2_with (first | (refine wpList_loadW rfl 29 (.tmp 2) rfl 6 stk_agg stk_size (w.heap.size) 29 rfl (stkC g (.slice AU nU cU) (.slice AL nL cL)) R2.out rfl ?_) | (go_at_call 62; refine (Names_o W1 (und_up HL.out (by omega)) (und_up HV.out (by omega)) HF.out hnV).mono ?_; rintro e1 wN ⟨A5, n5, c5, rfl, h5, hbel⟩; clear q3_1 q2_4 q3_0; replace HB := hide (HB.out.trans (hbel.mono HB.out.size)); replace R2 := hide (R2.out.on hbel); replace R3 := hide (R3.out.on hbel); replace HU := hide (HU.out.under hbel (by omega)); replace HL := hide (HL.out.under hbel (by omega)); replace HV := hide (HV.out.under hbel (by omega)); have hsz2 := hbel.size; have q3_1 : wN.cell? ⟨w.heap.size + 1, 1, none⟩ = some (.slice AV nV cV) := R3.out.cell 1; have q2_4 : wN.cell? ⟨w.heap.size, 4, none⟩ = some (.slice AU nU cU) := R2.out.cell 4; have q3_0 : wN.cell? ⟨w.heap.size + 1, 0, none⟩ = some (.int .i64 u) := R3.out.cell 0; have HO5 := hide h5; clear h5; clear hbel) | (go_at_call 63; refine (Entries_e HEL.out (B := B) wN HU.out (by omega) (by have := HFU.out.1; omega)).mono ?_; rintro e3 wC ⟨C1, m, d, rfl, hmd, hE, hbel⟩; clear q3_1 q2_4 q3_0; replace HB := hide (HB.out.trans (hbel.mono HB.out.size)); replace R2 := hide (R2.out.on hbel); replace R3 := hide (R3.out.on hbel); replace HU := hide (HU.out.under hbel (by omega)); replace HL := hide (HL.out.under hbel (by omega)); replace HV := hide (HV.out.under hbel (by omega)); replace HO5 := hide (HO5.out.below hbel); have hsz4 := hbel.size; have q3_1 : wC.cell? ⟨w.heap.size + 1, 1, none⟩ = some (.slice AV nV cV) := R3.out.cell 1; have q2_4 : wC.cell? ⟨w.heap.size, 4, none⟩ = some (.slice AU nU cU) := R2.out.cell 4; have q3_0 : wC.cell? ⟨w.heap.size + 1, 0, none⟩ = some (.int .i64 u) := R3.out.cell 0; have HE := hide hE; clear hE; clear hbel))
  have hn5 : n5 ≤ 16000 := by rw [← HO5.out.rd.len]; exact hnl
  have HEM := hide HE.out.1
  have hm16 : m ≤ 16 := by have := HEM.out; omega
  have hWc : W1.heap.size ≤ wC.heap.size := by omega
  have hW1w : w.heap.size ≤ W1.heap.size := hsz0
  clear hW1' q3_1 q2_4 q3_0 hnl
  go_loopw [5, 20] (fun v5 v20 wr => ∃ (i n6 : Nat) (A6 : Option Addr) (c6 : Nat), i ≤ m ∧ v20 = .int .i64 i ∧ v5 = .slice A6 n6 c6 ∧ n6 ≤ n5 + i ∧ Ow st wr W1.heap.size 9 A6 n6 c6 (namesL ls vl ++ (EL.take i).map EntV.name) ∧ Below W1.heap.size wC wr) (fun _ v20 _ => m - (intOf v20).toNat)
  case atStart => exact ⟨0, n5, A5, c5, by omega, rfl, rfl, by omega, by simpa using HO5.out, Below.refl _ _⟩
  case round =>
    obtain ⟨i, n6, A6, c6, hi, rfl, rfl, hn6, ho6, hbr⟩ := hrel
    have HO6 := hide ho6
    have hbsz := hbr.size
    have HBR := hide hbr
    clear ho6 hbr
    by_cases hlt2 : i < m
    · obtain ⟨e, he⟩ : ∃ e, EL[i]? = some e := ⟨_, List.getElem?_eq_getElem (by have := HEM.out; omega)⟩
      obtain ⟨bE, oE, rfl, hbE, hcE⟩ := ent_get ((HE.out.mono (fun b hb => HBR.out.block b (Nat.lt_of_lt_of_le hb (by omega))) (fun _ h => h)) : RdE entEn wr (Under B) C1 m EL) he
      have HCE := hide hcE
      have HZE := hide (RowL.new wr 49 [.int .i64 0, .int .i64 0, .string ⟨#[]⟩])
      have HNS := hide (names_snoc he (namesL ls vl))
      have him : (i : Int) < (m : Int) := by omega
      clear he hcE
      go_wp2_with (first | (refine wpList_loadX rfl 49 (.tmp 22) rfl 3 entw_agg entw_size bE (oE + i * 3) rfl (cellsE e) HCE.out rfl ?_) | (refine wpList_storeW rfl 49 (.tmp 7) (.tmp 23) rfl 3 entw_size wr.heap.size 49 rfl [.int .i64 0, .int .i64 0, .string ⟨#[]⟩] (cellsE e) rfl HZE.out rfl rfl (cellsE_one e) ?_; intro w8 hr8 hg8 hs8; have hb8 := below_stored' hg8; have qn : w8.cell? ⟨wr.heap.size, 2, none⟩ = some (.string ⟨e.name.toArray⟩) := hr8.cell 2; have HB8 := hide hb8; have hs8l := hb8.size; clear hr8 hg8 hs8 hb8) | (at_builtin; refine wpList_append_Rd (f := st) _ rfl (.tmp 24) (.tmp 27) 44 rfl W1.heap.size 9 _ 16 Tryz.underlying44 info_st rfl (fun _ => rfl) A6 n6 c6 _ rfl ((HO6.out.below HB8.out).below (below_new (below_self w8) _)) _ _ 1 1 [e.name] rfl (Rd.one _ _ rfl) (n6 + 1) rfl (by omega) (by omega) (by simp; omega) ?_; intro A7 c7 w9 ho9 hb9; have HO9 := hide ho9; have hs9 := hb9.size; have HB9 := hide ((HBR.out.trans ((HB8.out.mono (by omega)).alloc (by omega) _)).trans hb9); clear ho9 hb9))
      go_roundw
      case rel => exact ⟨i + 1, n6 + 1, A7, c7, by omega, by go_num, rfl, by omega, by rw [HNS.out]; exact HO9.out, HB9.out⟩
      case measure => simp [intOf]; omega
    · obtain rfl : m = i := by omega
      have ho : Ow st wr W1.heap.size 9 A6 n6 c6 (allV up ls (u, vl)) := by
        have := HO6.out
        rw [List.take_of_length_le (l := EL) (by have := HEM.out; omega)] at this
        rw [HAV.out]; exact this
      have HO := hide ho
      have hna : (allV up ls (u, vl)).length ≤ 20000 := by rw [ho.rd.len]; omega
      have hk1 : ∀ b, b < W1.heap.size → wr.heap[b]? = wC.heap[b]? := fun b hb => HBR.out.block b hb
      replace HB := hide (HB.out.trans (HBR.out.mono hW1w))
      replace R2 := hide (show RowL wr w.heap.size _ _ from (hk1 _ (by omega)).trans R2.out)
      replace R3 := hide (show RowL wr (w.heap.size + 1) _ _ from (hk1 _ (by omega)).trans R3.out)
      replace HU := hide (HU.out.mono (fun b hb => hk1 b (Nat.lt_of_lt_of_le hb (by omega))) (fun _ h => h) : RdE nodEn wr (Under B) AU nU up)
      replace HL := hide (HL.out.mono (fun b hb => hk1 b (Nat.lt_of_lt_of_le hb (by omega))) (fun _ h => h) : RdE layEn wr (Under B) AL nL ls)
      replace HV := hide (HV.out.mono (fun b hb => hk1 b (Nat.lt_of_lt_of_le hb (by omega))) (fun _ h => h) : RdE prEn wr (Under BV) AV nV vl)
      clear ho hk1 HE
      go_wp2_with (first | (refine wpList_loadW rfl 29 (.tmp 2) rfl 6 stk_agg stk_size (w.heap.size) 29 rfl [.int .i64 g.a, .int .i64 g.b, .int .i64 g.c, .int .i64 g.d, .slice AU nU cU, .slice AL nL cL] R2.out rfl ?_) | (refine wpList_loadW rfl 32 (.tmp 3) rfl 2 viw_agg viw_size (w.heap.size + 1) 32 rfl [.int .i64 u, .slice AV nV cV] R3.out rfl ?_) | (refine wpList_storeW rfl 95 (.tmp 8) (.tmp 32) rfl 8 vwd_size (wr.heap.size) 95 rfl (vwdC ⟨0, 0, 0, 0⟩ (.slice none 0 0) (.slice none 0 0) 0 (.slice none 0 0)) (vwdC g (.slice AU nU cU) (.slice AL nL cL) u (.slice AV nV cV)) rfl (RowL.new wr 95 (vwdC ⟨0, 0, 0, 0⟩ (.slice none 0 0) (.slice none 0 0) 0 (.slice none 0 0))) rfl rfl (vwdC_one _ _ _ _ _ _ _ _ _ _ _) ?_; intro wS51 hr51 hg51 hs51; have hzb := below_stored' hg51; replace HB := hide (HB.out.trans (hzb.mono HB.out.size)); replace R2 := hide (R2.out.on hzb); replace R3 := hide (R3.out.on hzb); replace HU := hide (HU.out.under hzb (by omega)); replace HL := hide (HL.out.under hzb (by omega)); replace HV := hide (HV.out.under hzb (by omega)); replace HO := hide (HO.out.below hzb); have hsz52 := hzb.size; have RD := hide hr51; have hlt51 := hr51.lt; clear hzb hr51; clear hg51 hs51))
      have HD := hide (show CtxV g AU AL AV nU cU nL cL nV cV w.heap.size (wr.heap.size) u up ls vl wS51 from ⟨RD.out, HU.out.mono (fun _ _ => rfl) (fun b hb => Nat.lt_of_lt_of_le hb hB), HL.out.mono (fun _ _ => rfl) (fun b hb => Nat.lt_of_lt_of_le hb hB), HV.out.mono (fun _ _ => rfl) (fun b hb => Nat.lt_of_lt_of_le hb hBV), by omega⟩)
      refine (NSort_any wS51 HO.out.rd (by rw [← HO.out.rd.len]; omega)).mono ?_
      rintro ez w3 ⟨A3, c3, rfl, ho3, hb3⟩
      have HO3 := hide ho3
      have HB3 := hide hb3
      have hs3 := hb3.size
      have hsb : (sortS (allV up ls (u, vl))).length ≤ 100000 := Nat.le_trans (sortS_length _) (by omega)
      have hgd := RD.out.lt
      clear hb3 ho3
      go_wp2_with fail
      refine (DelVO_any (p := hidV up ls (u, vl)) (B0 := wS51.heap.size) (base := wS51.heap.size) w3 HO3.out hsb (fun W nm r hr hk hs => HidV_any hr W (HD.out.kept (B0 := wS51.heap.size) (fun b hb => (hk b hb).trans (HB3.out.block b hb)) hgd (by omega) (by omega)) HF.out HFU.out hnV) (Nat.le_refl _) (by omega)).mono ?_
      rintro ez w4 ⟨A4, c4, n4, rfl, hr4, hb4⟩
      have HR4 := hide hr4
      have HB4 := hide (HB.out.trans ((HB3.out.trans hb4).mono (by omega)))
      clear hr4 hb4
      go_wp2_with fail
      go_ret
      exact ⟨A4, n4, c4, rfl, HR4.out.rebase (by omega), HB4.out⟩
end Go.Proofs.YtnehkgbdppbhiaaGreat

/- plain.Base, and the law's awake (layer 16). -/
namespace Go.Proofs.YtnehkgbdppbhiaaGreat
open Go.RowKit Go.Shelf Plain

/-- Base's nodes. -/
def ndD : NodV := { nod0 with k := 1, n := 2 }
def ndA : NodV := { nod0 with k := 1, n := 2, ents := [⟨0, 2, [97]⟩] }
def ndF : NodV := { nod0 with k := 2, n := 1, g := 3, data := [120] }
def upB : List NodV := [ndD, ndD, ndD, nod0, nod0]
def lyB : List NodV := [ndA, ndF, nod0, nod0, nod0]
def lsB : List (List NodV) := [lyB]
def gB : GeoQ := ⟨1, 5, 6, 5⟩
theorem ba_roots : rootsL lsB 0 = [(1, 1)] := by decide +kernel
theorem ba_find : findL lsB [97] [(1, 1)] [] = (2, [(1, 2)]) := by decide +kernel
theorem ba_look : lookL lsB [(1, 1)] [[97]] = none := by decide +kernel
theorem ba_names : namesL lsB [(1, 1)] = [[97]] := by decide +kernel
theorem ba_few : FewL lsB := by
  refine ⟨by decide, fun ns hns => ?_⟩
  rw [List.mem_singleton.1 hns]
  refine ⟨by decide, fun x hx => ?_⟩
  simp only [lyB, List.mem_cons, List.not_mem_nil, or_false] at hx
  rcases hx with rfl | rfl | rfl | rfl | rfl
  · refine ⟨fun i e hi he => ?_, by decide, by decide, by decide, by decide, by decide, fun e he => ?_⟩
    · obtain rfl : i = 0 := by have : i < 1 := hi; omega
      cases he
      exact ⟨by decide, by decide, fun p h => absurd h (by omega)⟩
    · rw [List.mem_singleton.1 he]
      decide
  · exact ⟨fun i e hi he => absurd hi (by simp [ndF, nod0]), by decide, by decide, by decide, by decide, by decide, fun e he => by simp [ndF, nod0] at he⟩
  · exact plain0
  · exact plain0
  · exact plain0
/-- It returns a stack. -/
def StkRet (w : World) (g : GeoQ) (up : List NodV) (ls : List (List NodV)) (e : Ending) (w' : World) : Prop := ∃ AU nU cU AL nL cL, e = .returned (.agg (stkC g (.slice AU nU cU) (.slice AL nL cL)).toArray) ∧ RdE nodEn w' (Under w'.heap.size) AU nU up ∧ RdE layEn w' (Under w'.heap.size) AL nL ls ∧ Below w.heap.size w w'
def AggRet (w : World) (cs : List Value) (e : Ending) (w' : World) : Prop := e = .returned (.agg cs.toArray) ∧ Below w.heap.size w w'
set_option maxRecDepth 100000 in
set_option maxHeartbeats 1600000 in
theorem Dir_any {C : Option Addr} {m d : Nat} (w : World) : Calls Tryz.prog 94 #[.slice C m d] w (AggRet w (nodC ndD (.slice none 0 0) (.slice C m d))) := by
  have hz := RowL.new w 71 (nodC nod0 (.slice none 0 0) (.slice none 0 0))
  have hb := below_new (below_self w) (.cells (nodC nod0 (.slice none 0 0) (.slice none 0 0)).toArray 71)
  have HZ := hide hz
  have HB := hide hb
  clear hz hb
  go_enter Tryz.func94, Tryz.ntmps94
  go_wp2_with (refine wpList_storeW rfl 71 (.tmp 2) (.tmp 4) rfl 13 nod_size w.heap.size 71 rfl (nodC nod0 (.slice none 0 0) (.slice none 0 0)) (nodC ndD (.slice none 0 0) (.slice C m d)) rfl HZ.out rfl rfl (nodC_one _ _ _ _ _ _ _) ?_; intro w9 hr9 hg9 hs9; have HR9 := hide hr9; have HB9 := hide (HB.out.grown hg9 HB.out.size (fun k hk => by have := Option.some.inj hk; omega)); clear hr9 hg9 hs9)
  exact bodyPost_ret (res_cell Tryz.results94 rfl nod_agg nod_size HR9.out rfl) rfl ⟨rfl, HB9.out⟩
set_option maxRecDepth 100000 in
theorem lit_nods {c0 c1 c2 c3 c4 : List Value} (h0 : c0.length = 13) (h1 : c1.length = 13) (h2 : c2.length = 13) (h3 : c3.length = 13) (h4 : c4.length = 13) (W : World) : (Instr.buildSlice 24 5 #[(0, .agg c0.toArray), (1, .agg c1.toArray), (2, .agg c2.toArray), (3, .agg c3.toArray), (4, .agg c4.toArray)]).run Tryz.prog W = .ok (.slice (some ⟨W.heap.size, 0, none⟩) 5 5) (W.alloc (.cells (c0 ++ (c1 ++ (c2 ++ (c3 ++ c4)))).toArray 71)) := by
  obtain ⟨it, hi, hz, hsz, -⟩ := info_parts nodw_info
  refine run_buildSlice W _ 71 5 _ _ it _ Tryz.underlying24 hi hz (by omega) (by omega) ?_
  rw [hsz]
  have := Great.fill_whole (s := 13) (by omega) [.agg c0.toArray, .agg c1.toArray, .agg c2.toArray, .agg c3.toArray, .agg c4.toArray] ((Array.range (5 * 13)).map ((Value.agg nodZ.toArray).cells[· % (Value.agg nodZ.toArray).cells.size]!)) (by intro v hv; simp only [List.mem_cons, List.not_mem_nil, or_false] at hv; rcases hv with rfl | rfl | rfl | rfl | rfl <;> simp [Value.cells, h0, h1, h2, h3, h4]) (by simp)
  simpa [Value.cells] using this
/-- A literal of five, as the walk meets it. -/
theorem wpList_lit5 {P : Program} {w w' : World} {ops : Array Oper} {rest : List Oper} {o : Oper} {a : Act} {Q : Exit → Act → World → Prop} (hgd : o.guard = none) (t : Nat) (x0 x1 x2 x3 x4 : Operand) (ho : o.op = .buildSlice t 5 #[(0, x0), (1, x1), (2, x2), (3, x3), (4, x4)]) (v0 v1 v2 v3 v4 v : Value) (h0 : a.eval x0 = v0) (h1 : a.eval x1 = v1) (h2 : a.eval x2 = v2) (h3 : a.eval x3 = v3) (h4 : a.eval x4 = v4) (hr : (Instr.buildSlice t 5 #[(0, v0), (1, v1), (2, v2), (3, v3), (4, v4)]).run P w = .ok v w') (hK : wpList P ops Q rest (a.put o.dst v) w') : wpList P ops Q (o :: rest) a w := by
  refine wpList_plain hgd fun K hK' => ?_
  unfold Oper.wp execOp
  simp only [ho, List.map_toArray, List.map_cons, List.map_nil, h0, h1, h2, h3, h4, Sem.run_bind, Sem.run_pure, Result.andThen_ok, hr]
  exact hK' _ _ hK
/-- A row of five nodes, read. -/
theorem nods_row {W : World} {D : Nat → Prop} {g : Nat} {c0 c1 c2 c3 c4 : List Value} {x0 x1 x2 x3 x4 : NodV} (h : RowL W g 71 (c0 ++ (c1 ++ (c2 ++ (c3 ++ c4))))) (hD : D g) (h0 : NodR W D c0 x0) (h1 : NodR W D c1 x1) (h2 : NodR W D c2 x2) (h3 : NodR W D c3 x3) (h4 : NodR W D c4 x4) : RdE nodEn W D (some ⟨g, 0, none⟩) 5 [x0, x1, x2, x3, x4] := by
  have hcs : CellsE nodEn W D [c0, c1, c2, c3, c4] [x0, x1, x2, x3, x4] := by
    refine ⟨rfl, fun i cs x hc hx => ?_⟩
    have hi : i < 5 := (List.getElem?_eq_some_iff.1 hx).1
    obtain rfl | rfl | rfl | rfl | rfl : i = 0 ∨ i = 1 ∨ i = 2 ∨ i = 3 ∨ i = 4 := by omega
    all_goals (cases hc; cases hx; assumption)
  refine ⟨rfl, fun _ => ⟨g, 0, rfl, hD, fun i x hx => ?_⟩⟩
  have hi : i < 5 := (List.getElem?_eq_some_iff.1 hx).1
  have hc : [c0, c1, c2, c3, c4][i]? = some ([c0, c1, c2, c3, c4][i]'hi) := List.getElem?_eq_getElem (l := [c0, c1, c2, c3, c4]) hi
  have hR := hcs.2 i _ x hc hx
  refine ⟨_, hR, fun j v hv => ?_⟩
  have hj : j < 13 := by have := (List.getElem?_eq_some_iff.1 hv).1; have h13 := nodEn.len hR; rw [h13] at this; exact this
  rw [Nat.zero_add, h.cell]
  have := flat_get hcs.lens hc hj
  rw [show [c0, c1, c2, c3, c4].flatten = c0 ++ (c1 ++ (c2 ++ (c3 ++ c4))) from by simp] at this
  exact this.trans hv
theorem nod0R (W : World) (D : Nat → Prop) : NodR W D (nodC nod0 (.slice none 0 0) (.slice none 0 0)) nod0 := ⟨none, 0, 0, none, 0, 0, rfl, Nat.le_refl _, RdE.none_ _ _ _ _, Nat.le_refl _, RdE.none_ _ _ _ _⟩
theorem ndDR (W : World) (D : Nat → Prop) : NodR W D (nodC ndD (.slice none 0 0) (.slice none 0 0)) ndD := ⟨none, 0, 0, none, 0, 0, rfl, Nat.le_refl _, RdE.none_ _ _ _ _, Nat.le_refl _, RdE.none_ _ _ _ _⟩
theorem lay_row {W : World} {D : Nat → Prop} {g t n c : Nat} {A : Option Addr} {ns : List NodV} (h : RowL W g t [.slice A n c]) (hD : D g) (hc : n ≤ c) (hr : RdE nodEn W D A n ns) : RdE layEn W D (some ⟨g, 0, none⟩) 1 [ns] := by
  refine ⟨rfl, fun _ => ⟨g, 0, rfl, hD, fun i x hx => ?_⟩⟩
  have hi : i = 0 := by have := (List.getElem?_eq_some_iff.1 hx).1; simpa using this
  subst hi
  cases hx
  refine ⟨[.slice A n c], ⟨A, n, c, rfl, hc, hr⟩, fun j v hv => ?_⟩
  rw [Nat.zero_mul, Nat.zero_add, Nat.zero_add]
  exact (h.cell j).trans hv
/-- Blocks from base on. -/
def Fr (base : Nat) (W : World) (b : Nat) : Prop := base ≤ b ∧ b < W.heap.size
theorem RdE.onF {α : Type} {E : Enc α} {W W' : World} {base n : Nat} {A : Option Addr} {l : List α} (h : RdE E W (Fr base W) A n l) (hb : Below W.heap.size W W') : RdE E W' (Fr base W') A n l := h.mono (fun b hb' => hb.block b hb'.2) (fun _ hb' => ⟨hb'.1, Nat.lt_of_lt_of_le hb'.2 hb.size⟩)
theorem RdE.grF {α : Type} {E : Enc α} {W W' : World} {base n g : Nat} {A : Option Addr} {l : List α} (h : RdE E W (Fr base W) A n l) (hg : W.grownBy W' (some g)) (hgb : g < base) : RdE E W' (Fr base W') A n l := h.mono (fun b hb' => hg.block b hb'.2 (fun e => by have := Option.some.inj e; have := hb'.1; omega)) (fun _ hb' => ⟨hb'.1, Nat.lt_of_lt_of_le hb'.2 hg.size⟩)
theorem RdE.unF {α : Type} {E : Enc α} {W : World} {base n : Nat} {A : Option Addr} {l : List α} (h : RdE E W (Fr base W) A n l) : RdE E W (Under W.heap.size) A n l := h.mono (fun _ _ => rfl) (fun _ hb => hb.2)
/-- A literal of five nodes, its world left open. -/
theorem wpList_lit5N {w : World} {ops : Array Oper} {rest : List Oper} {o : Oper} {a : Act} {Q : Exit → Act → World → Prop} (hgd : o.guard = none) (x0 x1 x2 x3 x4 : Operand) (ho : o.op = .buildSlice 24 5 #[(0, x0), (1, x1), (2, x2), (3, x3), (4, x4)]) {c0 c1 c2 c3 c4 : List Value} (h0 : a.eval x0 = .agg c0.toArray) (h1 : a.eval x1 = .agg c1.toArray) (h2 : a.eval x2 = .agg c2.toArray) (h3 : a.eval x3 = .agg c3.toArray) (h4 : a.eval x4 = .agg c4.toArray) (k0 : c0.length = 13) (k1 : c1.length = 13) (k2 : c2.length = 13) (k3 : c3.length = 13) (k4 : c4.length = 13)
    (hK : ∀ w', RowL w' w.heap.size 71 (c0 ++ (c1 ++ (c2 ++ (c3 ++ c4)))) → Below w.heap.size w w' → wpList Tryz.prog ops Q rest (a.put o.dst (.slice (some ⟨w.heap.size, 0, none⟩) 5 5)) w') : wpList Tryz.prog ops Q (o :: rest) a w :=
  wpList_lit5 hgd 24 x0 x1 x2 x3 x4 ho _ _ _ _ _ _ h0 h1 h2 h3 h4 (lit_nods k0 k1 k2 k3 k4 w) (hK _ (RowL.new w 71 _) (below_new (below_self w) _))
theorem byte_row {W : World} {D : Nat → Prop} {g t : Nat} {l : List UInt8} (h : RowL W g t (bvs l)) (hD : D g) : RdE Enc.byte W D (some ⟨g, 0, none⟩) l.length l :=
  RdE.of_bs (B := W.heap.size) ⟨rfl, fun _ => ⟨g, 0, rfl, h.lt, fun i x hx => by rw [Nat.zero_add, h.cell]; exact bvs_get hx⟩⟩ (fun _ a ha => by cases ha; exact hD)
set_option maxRecDepth 100000 in
set_option maxHeartbeats 1000000 in
theorem Base_any (w : World) : Calls Tryz.prog 93 #[] w (StkRet w gB upB lsB) := by
  obtain ⟨r0, r1, hb2, hs2⟩ := rows2 w (stkC ⟨0, 0, 0, 0⟩ (.slice none 0 0) (.slice none 0 0)) (stkC ⟨0, 0, 0, 0⟩ (.slice none 0 0) (.slice none 0 0)) 29 29
  have R0 := hide r0
  have R1 := hide r1
  have HB2 := hide hb2
  clear r0 r1 hb2 hs2
  go_enter Tryz.func93, Tryz.ntmps93
  go_wp2_with (refine wpList_storeW rfl 29 (.tmp 1) (.tmp 3) rfl 6 stk_size (w.heap.size + 1) 29 rfl (stkC ⟨0, 0, 0, 0⟩ (.slice none 0 0) (.slice none 0 0)) (stkC gB (.slice none 0 0) (.slice none 0 0)) rfl R1.out rfl rfl (by simp [stkC, Value.oneCell']) ?_; intro w3 hr3 hg3 hs3; have R3 := hide hr3; have R03 := hide (R0.out.grown hg3 (fun e => by have := Option.some.inj e; omega)); have HB3 := hide (HB2.out.grown hg3 HB2.out.size (fun k hk => by have := Option.some.inj hk; omega)); have hl3 := hr3.lt; have HE3 := hide (RowL.new w3 49 (flatE [⟨0, 2, [97]⟩])); have hbe := below_new (below_self w3) (.cells (flatE [⟨0, 2, [97]⟩]).toArray 49); have HBE := hide hbe; clear hr3 hg3 hs3 hbe)
  refine (Dir_any _).mono ?_
  rintro ez w4 ⟨rfl, hb4⟩
  have HE4 := hide (HE3.out.on hb4)
  have HB4 := hide ((HB3.out.trans (HBE.out.mono HB3.out.size)).trans (hb4.mono (Nat.le_trans HB3.out.size HBE.out.size)))
  have hbe4 := HBE.out.trans (hb4.mono HBE.out.size)
  have HR34 := hide (R3.out.on hbe4)
  have HR04 := hide (R03.out.on hbe4)
  have q5 : w4.cell? ⟨w.heap.size + 1, 5, none⟩ = some (.slice none 0 0) := HR34.out.cell 5
  have f5 : w4.frozen? ⟨w.heap.size + 1, 5, none⟩ = false := HR34.out.frozen 5
  have hl4 : w.heap.size + 1 < w4.heap.size := HR34.out.lt
  have hl34 := HE4.out.lt
  clear hb4 hbe4
  have HRU := hide (RowL.new w4 5 [.int .u8 120])
  have HBU := hide (below_new (below_self w4) (.cells #[.int .u8 120] 5))
  go_wp2_with (first | (refine wpList_lit5N (w := w4.alloc (.cells #[.int .u8 120] 5)) rfl (.tmp 6) (.tmp 8) (.tmp 9) (.tmp 10) (.tmp 11) rfl (c0 := nodC ndD (.slice none 0 0) (.slice (some ⟨w3.heap.size, 0, none⟩) 1 1)) (c1 := nodC ndF (.slice (some ⟨w4.heap.size, 0, none⟩) 1 1) (.slice none 0 0)) (c2 := nodC nod0 (.slice none 0 0) (.slice none 0 0)) (c3 := nodC nod0 (.slice none 0 0) (.slice none 0 0)) (c4 := nodC nod0 (.slice none 0 0) (.slice none 0 0)) rfl rfl rfl rfl rfl rfl rfl rfl rfl rfl ?_; intro w6 hr6 hb6; simp only [World.size_alloc] at hr6; have HR6 := hide hr6; have HB6 := hide (HBU.out.trans (hb6.mono HBU.out.size)); have HRU6 := hide (HRU.out.on hb6); have q56 : w6.cell? ⟨w.heap.size + 1, 5, none⟩ = some (.slice none 0 0) := (HB6.out.cell (p := ⟨w.heap.size + 1, 5, none⟩) hl4).trans q5; have f56 : w6.frozen? ⟨w.heap.size + 1, 5, none⟩ = false := (HB6.out.frozen (p := ⟨w.heap.size + 1, 5, none⟩) hl4).trans f5; have hl6 : w.heap.size + 1 < w6.heap.size := Nat.lt_of_lt_of_le hl4 HB6.out.size; clear hr6 hb6) | fail)
  have hw2 : w.heap.size + 2 ≤ w3.heap.size := by have := R3.out.lt; omega
  have hs34 : w3.heap.size < w4.heap.size := hl34
  have hs46 := HB6.out.size
  have hr6l := HR6.out.lt
  have hg7 := grown_cell w6 (w.heap.size + 1) 5 (.slice (some ⟨w6.heap.size, 0, none⟩) 1 1)
  have n6 : RdE nodEn w6 (Fr (w.heap.size + 2) w6) (some ⟨w4.heap.size + 1, 0, none⟩) 5 lyB := nods_row HR6.out ⟨by omega, hr6l⟩ ⟨none, 0, 0, _, 1, 1, rfl, Nat.le_refl _, RdE.none_ _ _ _ _, Nat.le_refl _, ent_row (HE4.out.on HB6.out) ⟨by omega, by omega⟩⟩ ⟨_, 1, 1, none, 0, 0, rfl, Nat.le_refl _, byte_row (l := [120]) HRU6.out ⟨by omega, by omega⟩, Nat.le_refl _, RdE.none_ _ _ _ _⟩ (nod0R _ _) (nod0R _ _) (nod0R _ _)
  have n7 := n6.grF hg7 (by omega)
  have x7 : RowL (w6.setCell ⟨w.heap.size + 1, 5, none⟩ (.slice (some ⟨w6.heap.size, 0, none⟩) 1 1)) (w.heap.size + 1) 29 (stkC gB (.slice none 0 0) (.slice (some ⟨w6.heap.size, 0, none⟩) 1 1)) := (HR34.out.on HB6.out).set_ 5 _
  have y7 := (HR04.out.on HB6.out).grown hg7 (fun e => by have := Option.some.inj e; omega)
  have hs7 : (w6.setCell ⟨w.heap.size + 1, 5, none⟩ (.slice (some ⟨w6.heap.size, 0, none⟩) 1 1)).heap.size = w6.heap.size := by simp [World.setCell]
  have hb7 : Below w.heap.size w (w6.setCell ⟨w.heap.size + 1, 5, none⟩ (.slice (some ⟨w6.heap.size, 0, none⟩) 1 1)) := (HB4.out.trans (HB6.out.mono (by omega))).setCell (p := ⟨w.heap.size + 1, 5, none⟩) (by show w.heap.size ≤ w.heap.size + 1; omega) _
  clear q5 f5 hl4 hg7 n6
  refine (Dir_any _).mono ?_
  rintro ez w9 ⟨rfl, hb9⟩
  generalize w6.setCell ⟨w.heap.size + 1, 5, none⟩ (.slice (some ⟨w6.heap.size, 0, none⟩) 1 1) = w7 at *
  have r8 := RowL.new w7 26 [Value.slice (some ⟨w4.heap.size + 1, 0, none⟩) 5 5]
  have b8 := below_new (below_self w7) (.cells [Value.slice (some ⟨w4.heap.size + 1, 0, none⟩) 5 5].toArray 26)
  have l8 : RdE layEn (w7.alloc (.cells [Value.slice (some ⟨w4.heap.size + 1, 0, none⟩) 5 5].toArray 26)) (Fr (w.heap.size + 2) (w7.alloc (.cells [Value.slice (some ⟨w4.heap.size + 1, 0, none⟩) 5 5].toArray 26))) (some ⟨w6.heap.size, 0, none⟩) 1 lsB := lay_row (by rw [← hs7]; exact r8) ⟨by omega, by simp; omega⟩ (Nat.le_refl _) (n7.onF b8)
  have X9 := hide ((x7.on b8).on hb9)
  have Y9 := hide ((y7.on b8).on hb9)
  have L9 := hide (l8.onF hb9)
  have B9 := hide ((hb7.trans (b8.mono hb7.size)).trans (hb9.mono (Nat.le_trans hb7.size b8.size)))
  clear r8 b8 l8 x7 y7 n7 hb7 hb9 hs7
  go_wp2_with fail
  refine (Dir_any _).mono ?_
  rintro ez w10 ⟨rfl, hb10⟩
  have HB10 := hide hb10
  clear hb10
  go_wp2_with fail
  refine (Dir_any _).mono ?_
  rintro ez w11 ⟨rfl, hb11⟩
  have HB11 := hide (HB10.out.trans (hb11.mono HB10.out.size))
  clear hb11
  go_wp2_with (first | (refine wpList_lit5N (w := w11) rfl (.tmp 16) (.tmp 17) (.tmp 18) (.tmp 19) (.tmp 20) rfl (c0 := nodC ndD (.slice none 0 0) (.slice none 0 0)) (c1 := nodC ndD (.slice none 0 0) (.slice none 0 0)) (c2 := nodC ndD (.slice none 0 0) (.slice none 0 0)) (c3 := nodC nod0 (.slice none 0 0) (.slice none 0 0)) (c4 := nodC nod0 (.slice none 0 0) (.slice none 0 0)) rfl rfl rfl rfl rfl rfl rfl rfl rfl rfl ?_; intro w12 hr12 hb12; have HR12 := hide hr12; have HB12 := hide (HB11.out.trans (hb12.mono HB11.out.size)); have hl12 := hr12.lt; clear hr12 hb12) | (refine wpList_storeC rfl 26 (.tmp 23) (.tmp 22) rfl 1 lay_size (w.heap.size + 1) 4 29 rfl (stkC gB (.slice none 0 0) (.slice (some ⟨w6.heap.size, 0, none⟩) 1 1)) [.slice (some ⟨w11.heap.size, 0, none⟩) 5 5] rfl (X9.out.on HB12.out) rfl (by simp [stkC]) (by simp [Value.oneCell']) ?_; intro w13 hr13 hg13 hs13; have HX13 := hide (show RowL w13 (w.heap.size + 1) 29 (stkC gB (.slice (some ⟨w11.heap.size, 0, none⟩) 5 5) (.slice (some ⟨w6.heap.size, 0, none⟩) 1 1)) from hr13); have HG13 := hide hg13; clear hr13 hg13) | (refine wpList_loadW rfl 29 (.tmp 1) rfl 6 stk_agg stk_size (w.heap.size + 1) 29 rfl (stkC gB (.slice (some ⟨w11.heap.size, 0, none⟩) 5 5) (.slice (some ⟨w6.heap.size, 0, none⟩) 1 1)) HX13.out rfl ?_) | (refine wpList_storeW rfl 29 (.tmp 0) (.tmp 24) rfl 6 stk_size w.heap.size 29 rfl (stkC ⟨0, 0, 0, 0⟩ (.slice none 0 0) (.slice none 0 0)) (stkC gB (.slice (some ⟨w11.heap.size, 0, none⟩) 5 5) (.slice (some ⟨w6.heap.size, 0, none⟩) 1 1)) rfl ((Y9.out.on HB12.out).grown HG13.out (fun e => by have := Option.some.inj e; omega)) rfl rfl (by simp [stkC, Value.oneCell']) ?_; intro w14 hr14 hg14 hs14; have HR14 := hide hr14; have HG14 := hide hg14; clear hr14 hg14) | fail)
  have hx9 := X9.out.lt
  have hs9 := B9.out.size
  have hs12 := HB12.out.size
  have hs11 := HB11.out.size
  have u12 : RdE nodEn w12 (Fr (w.heap.size + 2) w12) (some ⟨w11.heap.size, 0, none⟩) 5 upB := nods_row HR12.out ⟨by omega, hl12⟩ (ndDR _ _) (ndDR _ _) (ndDR _ _) (nod0R _ _) (nod0R _ _)
  have l12 := L9.out.onF HB12.out
  exact bodyPost_ret (res_cell Tryz.results93 rfl stk_agg stk_size HR14.out rfl) rfl ⟨_, 5, 5, _, 1, 1, rfl, ((u12.grF HG13.out (by omega)).grF HG14.out (by omega)).unF, ((l12.grF HG13.out (by omega)).grF HG14.out (by omega)).unF, ((B9.out.trans (HB12.out.mono hs9)).grown HG13.out (by omega) (fun k hk => by have := Option.some.inj hk; omega)).grown HG14.out (by have := HG13.out.size; omega) (fun k hk => by have := Option.some.inj hk; omega)⟩
end Go.Proofs.YtnehkgbdppbhiaaGreat

/- view.Root (layer 17). Written by gen_ViwB.py. -/
namespace Go.Proofs.YtnehkgbdppbhiaaGreat
open Go.RowKit Go.Shelf Plain

set_option maxRecDepth 100000 in
theorem plcs_size : ∀ w, (Go.sizeOf 30).run Tryz.prog w = .ok 1 w := fun w => by kernel_rfl
set_option maxRecDepth 100000 in
set_option maxHeartbeats 4000000 in
theorem VRoot_any {g : GeoQ} {AU AL : Option Addr} {nU cU nL cL B : Nat} {up : List NodV} {ls : List (List NodV)} (w : World) (hu : RdE nodEn w (Under B) AU nU up) (h : RdE layEn w (Under B) AL nL ls) (hB : B ≤ w.heap.size) (hF : FewL ls) (hup : FewU up) : Calls Tryz.prog 15 #[.agg (stkC g (.slice AU nU cU) (.slice AL nL cL)).toArray] w (ViewF w.heap.size w (rootV up ls)) := by
  obtain ⟨W1, hW1⟩ : ∃ W1, (((w.alloc (.cells (stkC g (.slice AU nU cU) (.slice AL nL cL)).toArray 29)).alloc (.cells (viwC 0 (.slice none 0 0)).toArray 32)).alloc (.cells (viwC 0 (.slice none 0 0)).toArray 32)) = W1 := ⟨_, rfl⟩
  obtain ⟨r0, r1, r2, hb1, hs1⟩ := rowA3 w _ _ _ _ _ _ hW1
  have hW1' : (((w.alloc (.cells #[.int .i64 g.a, .int .i64 g.b, .int .i64 g.c, .int .i64 g.d, .slice AU nU cU, .slice AL nL cL] 29)).alloc (.cells #[.int .i64 0, .slice none 0 0] 32)).alloc (.cells #[.int .i64 0, .slice none 0 0] 32)) = W1 := hW1
  have R1 := hide r0
  have R2 := hide r1
  have R3 := hide r2
  have HB := hide hb1
  have hsz0 := hb1.size
  have HU := hide (hu.under hb1 hB)
  have HL := hide (h.under hb1 hB)
  have HF := hide hF
  have HFU := hide hup
  obtain ⟨x, hx⟩ : ∃ x, nodAt up 1 = x := ⟨_, rfl⟩
  have HX := hide hx
  obtain ⟨V, hV⟩ : ∃ V, rootV up ls = V := ⟨_, rfl⟩
  rw [hV]
  have hatt : 0 ≤ x.att.h ∧ x.att.h ≤ 31 := by rw [← hx]; exact (nodAt_plain hup.2 1).2.2.1
  obtain ⟨bo, hbo⟩ : ∃ bo, opqD x = bo := ⟨_, rfl⟩
  have HOP := hide hbo
  have q1_4 : W1.cell? ⟨w.heap.size, 4, none⟩ = some (.slice AU nU cU) := R1.out.cell 4
  unfold rootV at hV
  rw [hx, hbo] at hV
  unfold stkC
  by_cases hk : x.k = 1
  · rw [if_pos hk] at hV
    have hk1 : (x.k == 1) = true := by simpa using hk
    have hk2 : (x.k != 1) = false := by simpa using hk
    cases bo
    · have HV := hide (show V = (1, rootsL ls 0) from by simpa using hV.symm)
      clear r0 r1 r2 hb1 hW1 hu h hup hF hV hx hbo hk
      go_enter Tryz.func15, Tryz.ntmps15
      go_wp2_with (first | (go_at_call 55; refine (Of_e HX.out W1 HU.out (by omega) (by have := HFU.out.1; omega)).mono ?_; rintro e1 wN ⟨A1, n1, c1, C1, m1, d1, rfl, -, -, -, -, hbel⟩; clear q1_4; replace HB := hide (HB.out.trans (hbel.mono HB.out.size)); replace R1 := hide (R1.out.on hbel); replace R2 := hide (R2.out.on hbel); replace R3 := hide (R3.out.on hbel); replace HU := hide (HU.out.under hbel (by omega)); replace HL := hide (HL.out.under hbel (by omega)); have hsz2 := hbel.size; have q1_4 : wN.cell? ⟨w.heap.size, 4, none⟩ = some (.slice AU nU cU) := R1.out.cell 4; clear hbel) | (refine wpList_storeW rfl 71 (.tmp 4) (.tmp 7) rfl 13 nod_size (wN.heap.size) 71 rfl (nodC nod0 (.slice none 0 0) (.slice none 0 0)) (nodC x (.slice A1 n1 c1) (.slice C1 m1 d1)) rfl (RowL.new wN 71 (nodC nod0 (.slice none 0 0) (.slice none 0 0))) rfl rfl (nodC_one _ _ _ _ _ _ _) ?_; intro wS3 hr3 hg3 hs3; have hzb := below_stored' hg3; clear q1_4; replace HB := hide (HB.out.trans (hzb.mono HB.out.size)); replace R1 := hide (R1.out.on hzb); replace R2 := hide (R2.out.on hzb); replace R3 := hide (R3.out.on hzb); replace HU := hide (HU.out.under hzb (by omega)); replace HL := hide (HL.out.under hzb (by omega)); have hsz4 := hzb.size; have q1_4 : wS3.cell? ⟨w.heap.size, 4, none⟩ = some (.slice AU nU cU) := R1.out.cell 4; have RN := hide hr3; have hlt3 := hr3.lt; have q4_0 : wS3.cell? ⟨wN.heap.size, 0, none⟩ = some (.int .i64 x.k) := RN.out.cell 0; clear hzb hr3; clear hg3 hs3) | (refine wpList_storeV rfl 3 (.tmp 11) (Operand.const (Value.int IntKind.i64 1)) rfl int_size (w.heap.size + 1 + 1) 0 32 rfl (.int .i64 1) rfl rfl rfl (viwC 0 (.slice none 0 0)) R3.out (by decide) ?_; intro wS5 hr5 hg5 hs5; replace hr5 : RowL wS5 (w.heap.size + 1 + 1) 32 [.int .i64 1, .slice none 0 0] := hr5; clear q1_4 q4_0; replace HB := hide (HB.out.grown hg5 (by omega) (fun k hk => by have := Option.some.inj hk; omega)); replace R1 := hide (R1.out.grown hg5 (fun e => by have := Option.some.inj e; omega)); replace R2 := hide (R2.out.grown hg5 (fun e => by have := Option.some.inj e; omega)); replace HU := hide (und_grown HU.out hg5 (by omega) (by omega)); replace HL := hide (und_grown HL.out hg5 (by omega) (by omega)); replace RN := hide (RN.out.grown hg5 (fun e => by have := Option.some.inj e; omega)); have hsz6 := hg5.size; replace R3 := hide hr5; have q1_4 : wS5.cell? ⟨w.heap.size, 4, none⟩ = some (.slice AU nU cU) := R1.out.cell 4; have q4_0 : wS5.cell? ⟨wN.heap.size, 0, none⟩ = some (.int .i64 x.k) := RN.out.cell 0; clear hr5 hg5 hs5) | (refine wpList_loadW rfl 71 (.tmp 4) rfl 13 nod_agg nod_size (wN.heap.size) 71 rfl (nodC x (.slice A1 n1 c1) (.slice C1 m1 d1)) RN.out rfl ?_) | (go_at_call 31; refine (VOpq_b HOP.out hatt.1 hatt.2 wS5).mono ?_; rintro e7 wO ⟨rfl, hbel⟩; clear q1_4 q4_0; replace HB := hide (HB.out.trans (hbel.mono HB.out.size)); replace R1 := hide (R1.out.on hbel); replace R2 := hide (R2.out.on hbel); replace R3 := hide (R3.out.on hbel); replace HU := hide (HU.out.under hbel (by omega)); replace HL := hide (HL.out.under hbel (by omega)); replace RN := hide (RN.out.on hbel); have hsz8 := hbel.size; have q1_4 : wO.cell? ⟨w.heap.size, 4, none⟩ = some (.slice AU nU cU) := R1.out.cell 4; have q4_0 : wO.cell? ⟨wN.heap.size, 0, none⟩ = some (.int .i64 x.k) := RN.out.cell 0; clear hbel) | (refine wpList_loadW rfl 29 (.tmp 1) rfl 6 stk_agg stk_size (w.heap.size) 29 rfl (stkC g (.slice AU nU cU) (.slice AL nL cL)) R1.out rfl ?_) | (go_at_call 56; refine (Roots_f wO (und_up HL.out (by omega)) HF.out).mono ?_; rintro e9 wR ⟨A6, c6, rfl, h6, hbel⟩; clear q1_4 q4_0; replace HB := hide (HB.out.trans (hbel.mono HB.out.size)); replace R1 := hide (R1.out.on hbel); replace R2 := hide (R2.out.on hbel); replace R3 := hide (R3.out.on hbel); replace HU := hide (HU.out.under hbel (by omega)); replace HL := hide (HL.out.under hbel (by omega)); replace RN := hide (RN.out.on hbel); have hsz10 := hbel.size; have q1_4 : wR.cell? ⟨w.heap.size, 4, none⟩ = some (.slice AU nU cU) := R1.out.cell 4; have q4_0 : wR.cell? ⟨wN.heap.size, 0, none⟩ = some (.int .i64 x.k) := RN.out.cell 0; have H6 := hide h6; clear h6; clear hbel) | (refine wpList_storeV rfl 30 (.tmp 17) (.tmp 16) rfl plcs_size (w.heap.size + 1 + 1) 1 32 rfl (.slice A6 (rootsL ls 0).length c6) rfl rfl rfl [.int .i64 1, .slice none 0 0] R3.out (by decide) ?_; intro wS11 hr11 hg11 hs11; replace hr11 : RowL wS11 (w.heap.size + 1 + 1) 32 [.int .i64 1, .slice A6 (rootsL ls 0).length c6] := hr11; clear q1_4 q4_0; replace HB := hide (HB.out.grown hg11 (by omega) (fun k hk => by have := Option.some.inj hk; omega)); replace R1 := hide (R1.out.grown hg11 (fun e => by have := Option.some.inj e; omega)); replace R2 := hide (R2.out.grown hg11 (fun e => by have := Option.some.inj e; omega)); replace HU := hide (und_grown HU.out hg11 (by omega) (by omega)); replace HL := hide (und_grown HL.out hg11 (by omega) (by omega)); replace RN := hide (RN.out.grown hg11 (fun e => by have := Option.some.inj e; omega)); replace H6 := hide (fr_grown H6.out hg11 (by omega)); have hsz12 := hg11.size; replace R3 := hide hr11; have q1_4 : wS11.cell? ⟨w.heap.size, 4, none⟩ = some (.slice AU nU cU) := R1.out.cell 4; have q4_0 : wS11.cell? ⟨wN.heap.size, 0, none⟩ = some (.int .i64 x.k) := RN.out.cell 0; clear hr11 hg11 hs11) | (refine wpList_loadW rfl 32 (.tmp 3) rfl 2 viw_agg viw_size (w.heap.size + 1 + 1) 32 rfl [.int .i64 1, .slice A6 (rootsL ls 0).length c6] R3.out rfl ?_) | (refine wpList_storeW rfl 32 (.tmp 2) (.tmp 18) rfl 2 viw_size (w.heap.size + 1) 32 rfl (viwC 0 (.slice none 0 0)) (viwC 1 (.slice A6 (rootsL ls 0).length c6)) rfl R2.out rfl rfl (viwC_one _ _ _ _) ?_; intro wS13 hr13 hg13 hs13; clear q1_4 q4_0; replace HB := hide (HB.out.grown hg13 (by omega) (fun k hk => by have := Option.some.inj hk; omega)); replace R1 := hide (R1.out.grown hg13 (fun e => by have := Option.some.inj e; omega)); replace R3 := hide (R3.out.grown hg13 (fun e => by have := Option.some.inj e; omega)); replace HU := hide (und_grown HU.out hg13 (by omega) (by omega)); replace HL := hide (und_grown HL.out hg13 (by omega) (by omega)); replace RN := hide (RN.out.grown hg13 (fun e => by have := Option.some.inj e; omega)); replace H6 := hide (fr_grown H6.out hg13 (by omega)); have hsz14 := hg13.size; replace R2 := hide hr13; have q1_4 : wS13.cell? ⟨w.heap.size, 4, none⟩ = some (.slice AU nU cU) := R1.out.cell 4; have q4_0 : wS13.cell? ⟨wN.heap.size, 0, none⟩ = some (.int .i64 x.k) := RN.out.cell 0; clear hr13 hg13 hs13))
      exact bodyPost_ret (res_cell Tryz.results15 rfl viw_agg viw_size R2.out rfl) rfl ⟨A6, c6, by rw [HV.out], by rw [HV.out]; exact fr_low H6.out (by omega), HB.out⟩
    · have HV := hide (show V = (1, []) from by simpa using hV.symm)
      clear r0 r1 r2 hb1 hW1 hu h hup hF hV hx hbo hk
      go_enter Tryz.func15, Tryz.ntmps15
      go_wp2_with (first | (go_at_call 55; refine (Of_e HX.out W1 HU.out (by omega) (by have := HFU.out.1; omega)).mono ?_; rintro e1 wN ⟨A1, n1, c1, C1, m1, d1, rfl, -, -, -, -, hbel⟩; clear q1_4; replace HB := hide (HB.out.trans (hbel.mono HB.out.size)); replace R1 := hide (R1.out.on hbel); replace R2 := hide (R2.out.on hbel); replace R3 := hide (R3.out.on hbel); replace HU := hide (HU.out.under hbel (by omega)); replace HL := hide (HL.out.under hbel (by omega)); have hsz2 := hbel.size; have q1_4 : wN.cell? ⟨w.heap.size, 4, none⟩ = some (.slice AU nU cU) := R1.out.cell 4; clear hbel) | (refine wpList_storeW rfl 71 (.tmp 4) (.tmp 7) rfl 13 nod_size (wN.heap.size) 71 rfl (nodC nod0 (.slice none 0 0) (.slice none 0 0)) (nodC x (.slice A1 n1 c1) (.slice C1 m1 d1)) rfl (RowL.new wN 71 (nodC nod0 (.slice none 0 0) (.slice none 0 0))) rfl rfl (nodC_one _ _ _ _ _ _ _) ?_; intro wS3 hr3 hg3 hs3; have hzb := below_stored' hg3; clear q1_4; replace HB := hide (HB.out.trans (hzb.mono HB.out.size)); replace R1 := hide (R1.out.on hzb); replace R2 := hide (R2.out.on hzb); replace R3 := hide (R3.out.on hzb); replace HU := hide (HU.out.under hzb (by omega)); replace HL := hide (HL.out.under hzb (by omega)); have hsz4 := hzb.size; have q1_4 : wS3.cell? ⟨w.heap.size, 4, none⟩ = some (.slice AU nU cU) := R1.out.cell 4; have RN := hide hr3; have hlt3 := hr3.lt; have q4_0 : wS3.cell? ⟨wN.heap.size, 0, none⟩ = some (.int .i64 x.k) := RN.out.cell 0; clear hzb hr3; clear hg3 hs3) | (refine wpList_storeV rfl 3 (.tmp 11) (Operand.const (Value.int IntKind.i64 1)) rfl int_size (w.heap.size + 1 + 1) 0 32 rfl (.int .i64 1) rfl rfl rfl (viwC 0 (.slice none 0 0)) R3.out (by decide) ?_; intro wS5 hr5 hg5 hs5; replace hr5 : RowL wS5 (w.heap.size + 1 + 1) 32 [.int .i64 1, .slice none 0 0] := hr5; clear q1_4 q4_0; replace HB := hide (HB.out.grown hg5 (by omega) (fun k hk => by have := Option.some.inj hk; omega)); replace R1 := hide (R1.out.grown hg5 (fun e => by have := Option.some.inj e; omega)); replace R2 := hide (R2.out.grown hg5 (fun e => by have := Option.some.inj e; omega)); replace HU := hide (und_grown HU.out hg5 (by omega) (by omega)); replace HL := hide (und_grown HL.out hg5 (by omega) (by omega)); replace RN := hide (RN.out.grown hg5 (fun e => by have := Option.some.inj e; omega)); have hsz6 := hg5.size; replace R3 := hide hr5; have q1_4 : wS5.cell? ⟨w.heap.size, 4, none⟩ = some (.slice AU nU cU) := R1.out.cell 4; have q4_0 : wS5.cell? ⟨wN.heap.size, 0, none⟩ = some (.int .i64 x.k) := RN.out.cell 0; clear hr5 hg5 hs5) | (refine wpList_loadW rfl 71 (.tmp 4) rfl 13 nod_agg nod_size (wN.heap.size) 71 rfl (nodC x (.slice A1 n1 c1) (.slice C1 m1 d1)) RN.out rfl ?_) | (go_at_call 31; refine (VOpq_b HOP.out hatt.1 hatt.2 wS5).mono ?_; rintro e7 wO ⟨rfl, hbel⟩; clear q1_4 q4_0; replace HB := hide (HB.out.trans (hbel.mono HB.out.size)); replace R1 := hide (R1.out.on hbel); replace R2 := hide (R2.out.on hbel); replace R3 := hide (R3.out.on hbel); replace HU := hide (HU.out.under hbel (by omega)); replace HL := hide (HL.out.under hbel (by omega)); replace RN := hide (RN.out.on hbel); have hsz8 := hbel.size; have q1_4 : wO.cell? ⟨w.heap.size, 4, none⟩ = some (.slice AU nU cU) := R1.out.cell 4; have q4_0 : wO.cell? ⟨wN.heap.size, 0, none⟩ = some (.int .i64 x.k) := RN.out.cell 0; clear hbel) | (refine wpList_loadW rfl 32 (.tmp 3) rfl 2 viw_agg viw_size (w.heap.size + 1 + 1) 32 rfl [.int .i64 1, .slice none 0 0] R3.out rfl ?_) | (refine wpList_storeW rfl 32 (.tmp 2) (.tmp 18) rfl 2 viw_size (w.heap.size + 1) 32 rfl (viwC 0 (.slice none 0 0)) (viwC 1 (.slice none 0 0)) rfl R2.out rfl rfl (viwC_one _ _ _ _) ?_; intro wS9 hr9 hg9 hs9; clear q1_4 q4_0; replace HB := hide (HB.out.grown hg9 (by omega) (fun k hk => by have := Option.some.inj hk; omega)); replace R1 := hide (R1.out.grown hg9 (fun e => by have := Option.some.inj e; omega)); replace R3 := hide (R3.out.grown hg9 (fun e => by have := Option.some.inj e; omega)); replace HU := hide (und_grown HU.out hg9 (by omega) (by omega)); replace HL := hide (und_grown HL.out hg9 (by omega) (by omega)); replace RN := hide (RN.out.grown hg9 (fun e => by have := Option.some.inj e; omega)); have hsz10 := hg9.size; replace R2 := hide hr9; have q1_4 : wS9.cell? ⟨w.heap.size, 4, none⟩ = some (.slice AU nU cU) := R1.out.cell 4; have q4_0 : wS9.cell? ⟨wN.heap.size, 0, none⟩ = some (.int .i64 x.k) := RN.out.cell 0; clear hr9 hg9 hs9))
      exact bodyPost_ret (res_cell Tryz.results15 rfl viw_agg viw_size R2.out rfl) rfl ⟨none, 0, by rw [HV.out]; rfl, by rw [HV.out]; exact RdE.none_ _ _ _ _, HB.out⟩
  · rw [if_neg hk] at hV
    have hk1 : (x.k == 1) = false := by simpa using hk
    have hk2 : (x.k != 1) = true := by simpa using hk
    have hbf : bo = false := by rw [← hbo]; unfold opqD; simp [hk]
    subst hbf
    have HV := hide (show V = (0, rootsL ls 0) from by simpa using hV.symm)
    clear r0 r1 r2 hb1 hW1 hu h hup hF hV hx hbo hk
    go_enter Tryz.func15, Tryz.ntmps15
    go_wp2_with (first | (go_at_call 55; refine (Of_e HX.out W1 HU.out (by omega) (by have := HFU.out.1; omega)).mono ?_; rintro e1 wN ⟨A1, n1, c1, C1, m1, d1, rfl, -, -, -, -, hbel⟩; clear q1_4; replace HB := hide (HB.out.trans (hbel.mono HB.out.size)); replace R1 := hide (R1.out.on hbel); replace R2 := hide (R2.out.on hbel); replace R3 := hide (R3.out.on hbel); replace HU := hide (HU.out.under hbel (by omega)); replace HL := hide (HL.out.under hbel (by omega)); have hsz2 := hbel.size; have q1_4 : wN.cell? ⟨w.heap.size, 4, none⟩ = some (.slice AU nU cU) := R1.out.cell 4; clear hbel) | (refine wpList_storeW rfl 71 (.tmp 4) (.tmp 7) rfl 13 nod_size (wN.heap.size) 71 rfl (nodC nod0 (.slice none 0 0) (.slice none 0 0)) (nodC x (.slice A1 n1 c1) (.slice C1 m1 d1)) rfl (RowL.new wN 71 (nodC nod0 (.slice none 0 0) (.slice none 0 0))) rfl rfl (nodC_one _ _ _ _ _ _ _) ?_; intro wS3 hr3 hg3 hs3; have hzb := below_stored' hg3; clear q1_4; replace HB := hide (HB.out.trans (hzb.mono HB.out.size)); replace R1 := hide (R1.out.on hzb); replace R2 := hide (R2.out.on hzb); replace R3 := hide (R3.out.on hzb); replace HU := hide (HU.out.under hzb (by omega)); replace HL := hide (HL.out.under hzb (by omega)); have hsz4 := hzb.size; have q1_4 : wS3.cell? ⟨w.heap.size, 4, none⟩ = some (.slice AU nU cU) := R1.out.cell 4; have RN := hide hr3; have hlt3 := hr3.lt; have q4_0 : wS3.cell? ⟨wN.heap.size, 0, none⟩ = some (.int .i64 x.k) := RN.out.cell 0; clear hzb hr3; clear hg3 hs3) | (refine wpList_loadW rfl 71 (.tmp 4) rfl 13 nod_agg nod_size (wN.heap.size) 71 rfl (nodC x (.slice A1 n1 c1) (.slice C1 m1 d1)) RN.out rfl ?_) | (go_at_call 31; refine (VOpq_b HOP.out hatt.1 hatt.2 wS3).mono ?_; rintro e5 wO ⟨rfl, hbel⟩; clear q1_4 q4_0; replace HB := hide (HB.out.trans (hbel.mono HB.out.size)); replace R1 := hide (R1.out.on hbel); replace R2 := hide (R2.out.on hbel); replace R3 := hide (R3.out.on hbel); replace HU := hide (HU.out.under hbel (by omega)); replace HL := hide (HL.out.under hbel (by omega)); replace RN := hide (RN.out.on hbel); have hsz6 := hbel.size; have q1_4 : wO.cell? ⟨w.heap.size, 4, none⟩ = some (.slice AU nU cU) := R1.out.cell 4; have q4_0 : wO.cell? ⟨wN.heap.size, 0, none⟩ = some (.int .i64 x.k) := RN.out.cell 0; clear hbel) | (refine wpList_loadW rfl 29 (.tmp 1) rfl 6 stk_agg stk_size (w.heap.size) 29 rfl (stkC g (.slice AU nU cU) (.slice AL nL cL)) R1.out rfl ?_) | (go_at_call 56; refine (Roots_f wO (und_up HL.out (by omega)) HF.out).mono ?_; rintro e7 wR ⟨A6, c6, rfl, h6, hbel⟩; clear q1_4 q4_0; replace HB := hide (HB.out.trans (hbel.mono HB.out.size)); replace R1 := hide (R1.out.on hbel); replace R2 := hide (R2.out.on hbel); replace R3 := hide (R3.out.on hbel); replace HU := hide (HU.out.under hbel (by omega)); replace HL := hide (HL.out.under hbel (by omega)); replace RN := hide (RN.out.on hbel); have hsz8 := hbel.size; have q1_4 : wR.cell? ⟨w.heap.size, 4, none⟩ = some (.slice AU nU cU) := R1.out.cell 4; have q4_0 : wR.cell? ⟨wN.heap.size, 0, none⟩ = some (.int .i64 x.k) := RN.out.cell 0; have H6 := hide h6; clear h6; clear hbel) | (refine wpList_storeV rfl 30 (.tmp 17) (.tmp 16) rfl plcs_size (w.heap.size + 1 + 1) 1 32 rfl (.slice A6 (rootsL ls 0).length c6) rfl rfl rfl (viwC 0 (.slice none 0 0)) R3.out (by decide) ?_; intro wS9 hr9 hg9 hs9; replace hr9 : RowL wS9 (w.heap.size + 1 + 1) 32 [.int .i64 0, .slice A6 (rootsL ls 0).length c6] := hr9; clear q1_4 q4_0; replace HB := hide (HB.out.grown hg9 (by omega) (fun k hk => by have := Option.some.inj hk; omega)); replace R1 := hide (R1.out.grown hg9 (fun e => by have := Option.some.inj e; omega)); replace R2 := hide (R2.out.grown hg9 (fun e => by have := Option.some.inj e; omega)); replace HU := hide (und_grown HU.out hg9 (by omega) (by omega)); replace HL := hide (und_grown HL.out hg9 (by omega) (by omega)); replace RN := hide (RN.out.grown hg9 (fun e => by have := Option.some.inj e; omega)); replace H6 := hide (fr_grown H6.out hg9 (by omega)); have hsz10 := hg9.size; replace R3 := hide hr9; have q1_4 : wS9.cell? ⟨w.heap.size, 4, none⟩ = some (.slice AU nU cU) := R1.out.cell 4; have q4_0 : wS9.cell? ⟨wN.heap.size, 0, none⟩ = some (.int .i64 x.k) := RN.out.cell 0; clear hr9 hg9 hs9) | (refine wpList_loadW rfl 32 (.tmp 3) rfl 2 viw_agg viw_size (w.heap.size + 1 + 1) 32 rfl [.int .i64 0, .slice A6 (rootsL ls 0).length c6] R3.out rfl ?_) | (refine wpList_storeW rfl 32 (.tmp 2) (.tmp 18) rfl 2 viw_size (w.heap.size + 1) 32 rfl (viwC 0 (.slice none 0 0)) (viwC 0 (.slice A6 (rootsL ls 0).length c6)) rfl R2.out rfl rfl (viwC_one _ _ _ _) ?_; intro wS11 hr11 hg11 hs11; clear q1_4 q4_0; replace HB := hide (HB.out.grown hg11 (by omega) (fun k hk => by have := Option.some.inj hk; omega)); replace R1 := hide (R1.out.grown hg11 (fun e => by have := Option.some.inj e; omega)); replace R3 := hide (R3.out.grown hg11 (fun e => by have := Option.some.inj e; omega)); replace HU := hide (und_grown HU.out hg11 (by omega) (by omega)); replace HL := hide (und_grown HL.out hg11 (by omega) (by omega)); replace RN := hide (RN.out.grown hg11 (fun e => by have := Option.some.inj e; omega)); replace H6 := hide (fr_grown H6.out hg11 (by omega)); have hsz12 := hg11.size; replace R2 := hide hr11; have q1_4 : wS11.cell? ⟨w.heap.size, 4, none⟩ = some (.slice AU nU cU) := R1.out.cell 4; have q4_0 : wS11.cell? ⟨wN.heap.size, 0, none⟩ = some (.int .i64 x.k) := RN.out.cell 0; clear hr11 hg11 hs11))
    exact bodyPost_ret (res_cell Tryz.results15 rfl viw_agg viw_size R2.out rfl) rfl ⟨A6, c6, by rw [HV.out], by rw [HV.out]; exact fr_low H6.out (by omega), HB.out⟩
theorem VRoot_e {g : GeoQ} {AU AL : Option Addr} {nU cU nL cL B : Nat} {up : List NodV} {ls : List (List NodV)} {V : ViewV} (hV : rootV up ls = V) (w : World) (hu : RdE nodEn w (Under B) AU nU up) (h : RdE layEn w (Under B) AL nL ls) (hB : B ≤ w.heap.size) (hF : FewL ls) (hup : FewU up) : Calls Tryz.prog 15 #[.agg (stkC g (.slice AU nU cU) (.slice AL nL cL)).toArray] w (ViewF w.heap.size w V) := by rw [← hV]; exact VRoot_any w hu h hB hF hup
end Go.Proofs.YtnehkgbdppbhiaaGreat

/- Rows of views; view.Tree of a stack whose upper layer has one directory (layer 17). -/
namespace Go.Proofs.YtnehkgbdppbhiaaGreat
open Go.RowKit Go.Shelf Plain

/-- A view, its lower part somewhere. -/
def viewEn : Enc ViewV where
  k := 2
  R := fun w D cs v => ∃ A c, cs = viwC v.1 (.slice A v.2.length c) ∧ RdE prEn w D A v.2.length v.2
  len := fun ⟨_, _, h, _⟩ => by rw [h]; rfl
  one := fun ⟨_, _, h, _⟩ v hv => by rw [h] at hv; exact viwC_one _ _ _ _ v hv
  mono := fun ⟨A, c, h, hr⟩ hk hD => ⟨A, c, h, hr.mono hk hD⟩
def zviw : Value := .agg #[.int .i64 0, .slice none 0 0]
set_option maxRecDepth 100000 in
theorem viw_info : (Tryz.prog.info? 32).map (fun i => (i.zero, i.size, i.bytes)) = some (some zviw, 2, 32) := by kernel_rfl
theorem lit_viw (u : Int) (A : Option Addr) (n c : Nat) (W : World) : (Instr.buildSlice 56 1 #[(0, .agg (viwC u (.slice A n c)).toArray)]).run Tryz.prog W = .ok (.slice (some ⟨W.heap.size, 0, none⟩) 1 1) (W.alloc (.cells (viwC u (.slice A n c)).toArray 32)) := by
  obtain ⟨it, hi, hz, hsz, -⟩ := info_parts viw_info
  refine run_buildSlice W _ 32 1 _ _ it zviw Tryz.underlying56 hi hz (by omega) (by omega) ?_
  rw [hsz]
  have := Great.fill_whole (s := 2) (by omega) [.agg (viwC u (.slice A n c)).toArray] ((Array.range (1 * 2)).map (zviw.cells[· % zviw.cells.size]!)) (by intro v hv; rw [List.mem_singleton] at hv; subst hv; simp [Value.cells, viwC]) (by simp)
  simpa [Value.cells] using this
theorem viw_lit1 (W : World) (v : ViewV) {A : Option Addr} {c lo : Nat} (h : RdE prEn W (fun b => lo ≤ b ∧ b < W.heap.size) A v.2.length v.2) (hlo : lo ≤ W.heap.size) : RdE viewEn (W.alloc (.cells (viwC v.1 (.slice A v.2.length c)).toArray 32)) (fun b => lo ≤ b ∧ b < (W.alloc (.cells (viwC v.1 (.slice A v.2.length c)).toArray 32)).heap.size) (some ⟨W.heap.size, 0, none⟩) 1 [v] := by
  refine ⟨rfl, fun _ => ⟨_, _, rfl, ⟨hlo, by simp⟩, fun i y hy => ⟨viwC v.1 (.slice A v.2.length c), ?_, fun j x hx => ?_⟩⟩⟩
  · have hi : i = 0 := by have := (List.getElem?_eq_some_iff.1 hy).1; simpa using this
    subst hi
    obtain rfl : v = y := by simpa using hy
    exact ⟨A, c, rfl, fr_on h (below_new (below_self W) _)⟩
  · have hi : i = 0 := by have := (List.getElem?_eq_some_iff.1 hy).1; simpa using this
    subst hi
    rw [Nat.zero_mul, Nat.zero_add, Nat.zero_add, (RowL.new W 32 (viwC v.1 (.slice A v.2.length c))).cell]
    exact hx
/-- It returns one way, and one view. -/
def TreeF1 (w : World) (e : Ending) (w' : World) : Prop := ∃ A c A' c', e = .returned (.tuple #[.slice A 1 c, .slice A' 1 c']) ∧ Below w.heap.size w w'
set_option maxRecDepth 100000 in
set_option maxHeartbeats 1200000 in
theorem VTree1_any {g : GeoQ} {AU AL : Option Addr} {nU cU nL cL B : Nat} {up : List NodV} {ls : List (List NodV)} {y : WayV} (hw : (walkW up [1]).1 = [y]) (w : World) (hu : RdE nodEn w (Under B) AU nU up) (h : RdE layEn w (Under B) AL nL ls) (hB : B ≤ w.heap.size) (hF : FewL ls) (hup : FewU up) : Calls Tryz.prog 26 #[.agg (stkC g (.slice AU nU cU) (.slice AL nL cL)).toArray] w (TreeF1 w) := by
  obtain ⟨W1, hW1⟩ : ∃ W1, (w.alloc (.cells (stkC g (.slice AU nU cU) (.slice AL nL cL)).toArray 29)) = W1 := ⟨_, rfl⟩
  obtain ⟨r0, hb1, hs1⟩ := rowA1 w _ _ hW1
  have hW1' : (w.alloc (.cells #[.int .i64 g.a, .int .i64 g.b, .int .i64 g.c, .int .i64 g.d, .slice AU nU cU, .slice AL nL cL] 29)) = W1 := hW1
  have R1 := hide r0
  have HB := hide hb1
  have hsz0 := hb1.size
  have HU := hide (hu.under hb1 hB)
  have HL := hide (h.under hb1 hB)
  have HF := hide hF
  have HFU := hide hup
  have HW := hide hw
  obtain ⟨V, hV⟩ : ∃ V, rootV up ls = V := ⟨_, rfl⟩
  have HV := hide hV
  have HINT := hide (show RdE Enc.int (W1.alloc (.cells #[.int .i64 1] 3)) (Under (W1.alloc (.cells #[.int .i64 1] 3)).heap.size) (some ⟨w.heap.size + 1, 0, none⟩) 1 [1] from by rw [← hs1]; exact int_one W1)
  have q1_4 : W1.cell? ⟨w.heap.size, 4, none⟩ = some (.slice AU nU cU) := R1.out.cell 4
  unfold stkC
  clear r0 hb1 hW1 hu h hF hup hw hV
  go_enter Tryz.func26, Tryz.ntmps26
  go_wp2_with (first | (go_at_call 30; refine (Dirs_any _ (und_up (HU.out.under (below_new (below_self W1) _) (by omega)) (by simp; omega)) HINT.out (plain_many HFU.out.1 HFU.out.2).1 (by omega)).mono ?_; rintro e1 wD ⟨A4, n4, c4, rfl, hc4, h4, hbel0⟩; have hbel : Below W1.heap.size W1 wD := (below_new (below_self W1) (.cells #[.int .i64 1] 3)).trans (hbel0.mono (by simp)); rw [HW.out] at h4; replace h4 := fr_low h4 (lo' := W1.heap.size) (by simp); clear q1_4; replace HB := hide (HB.out.trans (hbel.mono HB.out.size)); replace R1 := hide (R1.out.on hbel); replace HU := hide (HU.out.under hbel (by omega)); replace HL := hide (HL.out.under hbel (by omega)); have hsz1 := hbel.size; have q1_4 : wD.cell? ⟨w.heap.size, 4, none⟩ = some (.slice AU nU cU) := R1.out.cell 4; have H4 := hide h4; clear h4 hbel hbel0))
  have hn4a : n4 ≤ 1 := by rw [← H4.out.1]; exact Nat.le_refl _
  have hn4b : 1 ≤ n4 := by rw [← H4.out.1]; exact Nat.le_refl _
  have hWD : W1.heap.size ≤ wD.heap.size := by omega
  clear hW1' q1_4
  go_loopw [5, 14] (fun v5 v14 wr => ∃ j : Nat, j ≤ 1 ∧ v14 = .int .i64 j ∧ (j = 0 → v5 = .slice none 0 0) ∧ (j = 1 → ∃ A c, v5 = .slice A 1 c) ∧ Below wD.heap.size wD wr) (fun _ v14 _ => n4 - (intOf v14).toNat)
  case atStart => exact ⟨0, by omega, rfl, fun _ => rfl, fun h => by omega, below_self _⟩
  case round =>
    obtain ⟨j, hj, rfl, h0, h1, hbr⟩ := hrel
    have hbsz := hbr.size
    replace HB := hide (HB.out.trans (hbr.mono HB.out.size))
    replace R1 := hide (R1.out.on hbr)
    replace HU := hide (HU.out.under hbr (by omega))
    replace HL := hide (HL.out.under hbr (by omega))
    replace H4 := hide (fr_on H4.out hbr)
    have hsz2 := hbr.size
    have HBR := hide hbr
    clear hbr
    by_cases hlt : j = 0
    · subst hlt
      obtain rfl := h0 rfl
      have hj0 : (0 : Int) < (n4 : Int) := by omega
      clear h0 h1
      obtain ⟨bW, oW, rfl, hbW, hcW⟩ := way_get H4.out (j := 0) (y := y) rfl
      have HCW := hide hcW
      clear hcW
      go_wp2_with (first | (refine wpList_loadX rfl 61 (.tmp 17) rfl 3 way_agg way_size bW (oW + 0 * 3) rfl (wayC y) HCW.out rfl ?_) | (refine wpList_storeW rfl 61 (.tmp 7) (.tmp 18) rfl 3 way_size (wr.heap.size) 61 rfl [.int .i64 0, .int .i64 0, .string ⟨#[]⟩] (wayC y) rfl (RowL.new wr 61 [.int .i64 0, .int .i64 0, .string ⟨#[]⟩]) rfl rfl (wayC_one _) ?_; intro wS61 hr61 hg61 hs61; have hzb := below_stored' hg61; have HBx := hide hzb; replace HB := hide (HB.out.trans (hzb.mono HB.out.size)); replace R1 := hide (R1.out.on hzb); replace HU := hide (HU.out.under hzb (by omega)); replace HL := hide (HL.out.under hzb (by omega)); replace H4 := hide (fr_on H4.out hzb); have hsz62 := hzb.size; have RW := hide hr61; have hlt61 := hr61.lt; have q7_1 : wS61.cell? ⟨wr.heap.size, 1, none⟩ = some (.int .i64 y.up) := RW.out.cell 1; have q7_0 : wS61.cell? ⟨wr.heap.size, 0, none⟩ = some (.int .i64 y.ino) := RW.out.cell 0; have q7_2 : wS61.cell? ⟨wr.heap.size, 2, none⟩ = some (.string ⟨y.name.toArray⟩) := RW.out.cell 2; clear hzb hr61; clear hg61 hs61) | (refine wpList_loadW rfl 29 (.tmp 1) rfl 6 stk_agg stk_size (w.heap.size) 29 rfl (stkC g (.slice AU nU cU) (.slice AL nL cL)) R1.out rfl ?_) | (go_at_call 15; refine (VRoot_e HV.out wS61 HU.out HL.out (by omega) HF.out HFU.out).mono ?_; rintro e63 wR ⟨A6, c6, rfl, h6, hbel⟩; have HBX := hide (HBx.out.trans (hbel.mono HBx.out.size)); clear q7_1 q7_0 q7_2; replace HB := hide (HB.out.trans (hbel.mono HB.out.size)); replace R1 := hide (R1.out.on hbel); replace HU := hide (HU.out.under hbel (by omega)); replace HL := hide (HL.out.under hbel (by omega)); replace H4 := hide (fr_on H4.out hbel); replace RW := hide (RW.out.on hbel); have hsz64 := hbel.size; have q7_1 : wR.cell? ⟨wr.heap.size, 1, none⟩ = some (.int .i64 y.up) := RW.out.cell 1; have q7_0 : wR.cell? ⟨wr.heap.size, 0, none⟩ = some (.int .i64 y.ino) := RW.out.cell 0; have q7_2 : wR.cell? ⟨wr.heap.size, 2, none⟩ = some (.string ⟨y.name.toArray⟩) := RW.out.cell 2; have H6 := hide h6; clear h6; simp only [viwC]; have hlit : (Instr.buildSlice 56 1 #[(0, .agg #[.int .i64 V.1, .slice A6 V.2.length c6])]).run Tryz.prog wR = .ok (.slice (some ⟨wR.heap.size, 0, none⟩) 1 1) (wR.alloc (.cells #[.int .i64 V.1, .slice A6 V.2.length c6] 32)) := lit_viw V.1 A6 V.2.length c6 wR; clear hbel) | (at_builtin; refine wpList_append_OwE (E := viewEn) _ rfl (.tmp 21) (.tmp 24) 56 rfl wS61.heap.size 32 zviw 32 Tryz.underlying56 viw_info rfl (by decide) none 0 0 [] rfl (OwE.nil_ _ _ _ _) (fun b => wS61.heap.size ≤ b ∧ b < (wR.alloc (.cells (viwC V.1 (.slice A6 V.2.length c6)).toArray 32)).heap.size) (some ⟨wR.heap.size, 0, none⟩) 1 1 [V] rfl (viw_lit1 wR V H6.out (by omega)) (fun b hb => ⟨⟨hb.2, fun _ _ _ _ => rfl⟩, fun a ha => by cases ha⟩) 1 rfl (by omega) (by omega) (by simp; omega) ?_; intro A7 c7 w7 ho7 hb7; have HB7 := hide ((HBR.out.trans (HBX.out.mono (by omega))).trans ((((Below.refl wS61.heap.size wR).alloc (by omega) _).trans hb7).mono (by omega))); clear ho7 hb7))
      go_roundw
      case rel => exact ⟨1, by omega, rfl, fun h => by omega, fun _ => ⟨_, _, rfl⟩, HB7.out⟩
      case measure => simp [intOf]; omega
    · have hj1 : j = 1 := by omega
      obtain ⟨A8, c8, rfl⟩ := h1 hj1
      have hj2 : ¬ (j : Int) < (n4 : Int) := by omega
      go_wp2_with fail
      go_ret2
      obtain rfl : n4 = 1 := by omega
      exact ⟨A4, c4, A8, c8, rfl, HB.out⟩
end Go.Proofs.YtnehkgbdppbhiaaGreat

/- The stack with which many statements begin, with a whiteout (plain.Idle). -/
namespace Go.Proofs.YtnehkgbdppbhiaaGreat
open Go.RowKit Go.Shelf Plain

def upC : List Value := nodC ndD (.slice none 0 0) (.slice none 0 0) ++ (nodC ndD (.slice none 0 0) (.slice none 0 0) ++ (nodC ndD (.slice none 0 0) (.slice none 0 0) ++ (nodC nod0 (.slice none 0 0) (.slice none 0 0) ++ nodC nod0 (.slice none 0 0) (.slice none 0 0))))
/-- It returns the stack, its upper nodes in a block of their own behind the lower ones. -/
def BaseRet (w : World) (e : Ending) (w' : World) : Prop := ∃ g0 AL nL cL, e = .returned (.agg (stkC gB (.slice (some ⟨g0, 0, none⟩) 5 5) (.slice AL nL cL)).toArray) ∧ RowL w' g0 71 upC ∧ RdE layEn w' (fun b => w.heap.size ≤ b ∧ b < g0) AL nL lsB ∧ w.heap.size ≤ g0 ∧ Below w.heap.size w w'
set_option maxRecDepth 100000 in
set_option maxHeartbeats 1000000 in
theorem Base_o (w : World) : Calls Tryz.prog 93 #[] w (BaseRet w) := by
  obtain ⟨r0, r1, hb2, hs2⟩ := rows2 w (stkC ⟨0, 0, 0, 0⟩ (.slice none 0 0) (.slice none 0 0)) (stkC ⟨0, 0, 0, 0⟩ (.slice none 0 0) (.slice none 0 0)) 29 29
  have R0 := hide r0
  have R1 := hide r1
  have HB2 := hide hb2
  clear r0 r1 hb2 hs2
  go_enter Tryz.func93, Tryz.ntmps93
  go_wp2_with (refine wpList_storeW rfl 29 (.tmp 1) (.tmp 3) rfl 6 stk_size (w.heap.size + 1) 29 rfl (stkC ⟨0, 0, 0, 0⟩ (.slice none 0 0) (.slice none 0 0)) (stkC gB (.slice none 0 0) (.slice none 0 0)) rfl R1.out rfl rfl (by simp [stkC, Value.oneCell']) ?_; intro w3 hr3 hg3 hs3; have R3 := hide hr3; have R03 := hide (R0.out.grown hg3 (fun e => by have := Option.some.inj e; omega)); have HB3 := hide (HB2.out.grown hg3 HB2.out.size (fun k hk => by have := Option.some.inj hk; omega)); have hl3 := hr3.lt; have HE3 := hide (RowL.new w3 49 (flatE [⟨0, 2, [97]⟩])); have hbe := below_new (below_self w3) (.cells (flatE [⟨0, 2, [97]⟩]).toArray 49); have HBE := hide hbe; clear hr3 hg3 hs3 hbe)
  refine (Dir_any _).mono ?_
  rintro ez w4 ⟨rfl, hb4⟩
  have HE4 := hide (HE3.out.on hb4)
  have HB4 := hide ((HB3.out.trans (HBE.out.mono HB3.out.size)).trans (hb4.mono (Nat.le_trans HB3.out.size HBE.out.size)))
  have hbe4 := HBE.out.trans (hb4.mono HBE.out.size)
  have HR34 := hide (R3.out.on hbe4)
  have HR04 := hide (R03.out.on hbe4)
  have q5 : w4.cell? ⟨w.heap.size + 1, 5, none⟩ = some (.slice none 0 0) := HR34.out.cell 5
  have f5 : w4.frozen? ⟨w.heap.size + 1, 5, none⟩ = false := HR34.out.frozen 5
  have hl4 : w.heap.size + 1 < w4.heap.size := HR34.out.lt
  have hl34 := HE4.out.lt
  clear hb4 hbe4
  have HRU := hide (RowL.new w4 5 [.int .u8 120])
  have HBU := hide (below_new (below_self w4) (.cells #[.int .u8 120] 5))
  go_wp2_with (first | (refine wpList_lit5N (w := w4.alloc (.cells #[.int .u8 120] 5)) rfl (.tmp 6) (.tmp 8) (.tmp 9) (.tmp 10) (.tmp 11) rfl (c0 := nodC ndD (.slice none 0 0) (.slice (some ⟨w3.heap.size, 0, none⟩) 1 1)) (c1 := nodC ndF (.slice (some ⟨w4.heap.size, 0, none⟩) 1 1) (.slice none 0 0)) (c2 := nodC nod0 (.slice none 0 0) (.slice none 0 0)) (c3 := nodC nod0 (.slice none 0 0) (.slice none 0 0)) (c4 := nodC nod0 (.slice none 0 0) (.slice none 0 0)) rfl rfl rfl rfl rfl rfl rfl rfl rfl rfl ?_; intro w6 hr6 hb6; simp only [World.size_alloc] at hr6; have HR6 := hide hr6; have HB6 := hide (HBU.out.trans (hb6.mono HBU.out.size)); have HRU6 := hide (HRU.out.on hb6); have q56 : w6.cell? ⟨w.heap.size + 1, 5, none⟩ = some (.slice none 0 0) := (HB6.out.cell (p := ⟨w.heap.size + 1, 5, none⟩) hl4).trans q5; have f56 : w6.frozen? ⟨w.heap.size + 1, 5, none⟩ = false := (HB6.out.frozen (p := ⟨w.heap.size + 1, 5, none⟩) hl4).trans f5; have hl6 : w.heap.size + 1 < w6.heap.size := Nat.lt_of_lt_of_le hl4 HB6.out.size; clear hr6 hb6) | fail)
  have hw2 : w.heap.size + 2 ≤ w3.heap.size := by have := R3.out.lt; omega
  have hs34 : w3.heap.size < w4.heap.size := hl34
  have hs46 := HB6.out.size
  have hr6l := HR6.out.lt
  have hg7 := grown_cell w6 (w.heap.size + 1) 5 (.slice (some ⟨w6.heap.size, 0, none⟩) 1 1)
  have n6 : RdE nodEn w6 (Fr (w.heap.size + 2) w6) (some ⟨w4.heap.size + 1, 0, none⟩) 5 lyB := nods_row HR6.out ⟨by omega, hr6l⟩ ⟨none, 0, 0, _, 1, 1, rfl, Nat.le_refl _, RdE.none_ _ _ _ _, Nat.le_refl _, ent_row (HE4.out.on HB6.out) ⟨by omega, by omega⟩⟩ ⟨_, 1, 1, none, 0, 0, rfl, Nat.le_refl _, byte_row (l := [120]) HRU6.out ⟨by omega, by omega⟩, Nat.le_refl _, RdE.none_ _ _ _ _⟩ (nod0R _ _) (nod0R _ _) (nod0R _ _)
  have n7 := n6.grF hg7 (by omega)
  have x7 : RowL (w6.setCell ⟨w.heap.size + 1, 5, none⟩ (.slice (some ⟨w6.heap.size, 0, none⟩) 1 1)) (w.heap.size + 1) 29 (stkC gB (.slice none 0 0) (.slice (some ⟨w6.heap.size, 0, none⟩) 1 1)) := (HR34.out.on HB6.out).set_ 5 _
  have y7 := (HR04.out.on HB6.out).grown hg7 (fun e => by have := Option.some.inj e; omega)
  have hs7 : (w6.setCell ⟨w.heap.size + 1, 5, none⟩ (.slice (some ⟨w6.heap.size, 0, none⟩) 1 1)).heap.size = w6.heap.size := by simp [World.setCell]
  have hb7 : Below w.heap.size w (w6.setCell ⟨w.heap.size + 1, 5, none⟩ (.slice (some ⟨w6.heap.size, 0, none⟩) 1 1)) := (HB4.out.trans (HB6.out.mono (by omega))).setCell (p := ⟨w.heap.size + 1, 5, none⟩) (by show w.heap.size ≤ w.heap.size + 1; omega) _
  clear q5 f5 hl4 hg7 n6
  refine (Dir_any _).mono ?_
  rintro ez w9 ⟨rfl, hb9⟩
  generalize w6.setCell ⟨w.heap.size + 1, 5, none⟩ (.slice (some ⟨w6.heap.size, 0, none⟩) 1 1) = w7 at *
  have r8 := RowL.new w7 26 [Value.slice (some ⟨w4.heap.size + 1, 0, none⟩) 5 5]
  have b8 := below_new (below_self w7) (.cells [Value.slice (some ⟨w4.heap.size + 1, 0, none⟩) 5 5].toArray 26)
  have l8 : RdE layEn (w7.alloc (.cells [Value.slice (some ⟨w4.heap.size + 1, 0, none⟩) 5 5].toArray 26)) (Fr (w.heap.size + 2) (w7.alloc (.cells [Value.slice (some ⟨w4.heap.size + 1, 0, none⟩) 5 5].toArray 26))) (some ⟨w6.heap.size, 0, none⟩) 1 lsB := lay_row (by rw [← hs7]; exact r8) ⟨by omega, by simp; omega⟩ (Nat.le_refl _) (n7.onF b8)
  have X9 := hide ((x7.on b8).on hb9)
  have Y9 := hide ((y7.on b8).on hb9)
  have L9 := hide (l8.onF hb9)
  have B9 := hide ((hb7.trans (b8.mono hb7.size)).trans (hb9.mono (Nat.le_trans hb7.size b8.size)))
  clear r8 b8 l8 x7 y7 n7 hb7 hb9 hs7
  go_wp2_with fail
  refine (Dir_any _).mono ?_
  rintro ez w10 ⟨rfl, hb10⟩
  have HB10 := hide hb10
  clear hb10
  go_wp2_with fail
  refine (Dir_any _).mono ?_
  rintro ez w11 ⟨rfl, hb11⟩
  have HB11 := hide (HB10.out.trans (hb11.mono HB10.out.size))
  clear hb11
  go_wp2_with (first | (refine wpList_lit5N (w := w11) rfl (.tmp 16) (.tmp 17) (.tmp 18) (.tmp 19) (.tmp 20) rfl (c0 := nodC ndD (.slice none 0 0) (.slice none 0 0)) (c1 := nodC ndD (.slice none 0 0) (.slice none 0 0)) (c2 := nodC ndD (.slice none 0 0) (.slice none 0 0)) (c3 := nodC nod0 (.slice none 0 0) (.slice none 0 0)) (c4 := nodC nod0 (.slice none 0 0) (.slice none 0 0)) rfl rfl rfl rfl rfl rfl rfl rfl rfl rfl ?_; intro w12 hr12 hb12; have HR12 := hide hr12; have HB12 := hide (HB11.out.trans (hb12.mono HB11.out.size)); have hl12 := hr12.lt; clear hr12 hb12) | (refine wpList_storeC rfl 26 (.tmp 23) (.tmp 22) rfl 1 lay_size (w.heap.size + 1) 4 29 rfl (stkC gB (.slice none 0 0) (.slice (some ⟨w6.heap.size, 0, none⟩) 1 1)) [.slice (some ⟨w11.heap.size, 0, none⟩) 5 5] rfl (X9.out.on HB12.out) rfl (by simp [stkC]) (by simp [Value.oneCell']) ?_; intro w13 hr13 hg13 hs13; have HX13 := hide (show RowL w13 (w.heap.size + 1) 29 (stkC gB (.slice (some ⟨w11.heap.size, 0, none⟩) 5 5) (.slice (some ⟨w6.heap.size, 0, none⟩) 1 1)) from hr13); have HG13 := hide hg13; clear hr13 hg13) | (refine wpList_loadW rfl 29 (.tmp 1) rfl 6 stk_agg stk_size (w.heap.size + 1) 29 rfl (stkC gB (.slice (some ⟨w11.heap.size, 0, none⟩) 5 5) (.slice (some ⟨w6.heap.size, 0, none⟩) 1 1)) HX13.out rfl ?_) | (refine wpList_storeW rfl 29 (.tmp 0) (.tmp 24) rfl 6 stk_size w.heap.size 29 rfl (stkC ⟨0, 0, 0, 0⟩ (.slice none 0 0) (.slice none 0 0)) (stkC gB (.slice (some ⟨w11.heap.size, 0, none⟩) 5 5) (.slice (some ⟨w6.heap.size, 0, none⟩) 1 1)) rfl ((Y9.out.on HB12.out).grown HG13.out (fun e => by have := Option.some.inj e; omega)) rfl rfl (by simp [stkC, Value.oneCell']) ?_; intro w14 hr14 hg14 hs14; have HR14 := hide hr14; have HG14 := hide hg14; clear hr14 hg14) | fail)
  have hx9 := X9.out.lt
  have hs9 := B9.out.size
  have hs12 := HB12.out.size
  have hs11 := HB11.out.size
  have l12 : RdE layEn w12 (fun b => w.heap.size + 2 ≤ b ∧ b < w9.heap.size) _ 1 lsB := L9.out.mono (fun b hb => HB12.out.block b hb.2) (fun _ h => h)
  have l13 := l12.mono (w' := w13) (D' := fun b => w.heap.size + 2 ≤ b ∧ b < w9.heap.size) (fun b hb => HG13.out.block b (by have := hb.2; omega) (fun e => by have := Option.some.inj e; have := hb.1; omega)) (fun _ h => h)
  have hs13 := HG13.out.size
  have l14 := l13.mono (w' := w14) (D' := fun b => w.heap.size ≤ b ∧ b < w11.heap.size) (fun b hb => HG14.out.block b (by have := hb.2; omega) (fun e => by have := Option.some.inj e; have := hb.1; omega)) (fun _ h => ⟨by have := h.1; omega, by have := h.2; omega⟩)
  exact bodyPost_ret (res_cell Tryz.results93 rfl stk_agg stk_size HR14.out rfl) rfl ⟨w11.heap.size, _, 1, 1, rfl, (HR12.out.grown HG13.out (fun e => by have := Option.some.inj e; omega)).grown HG14.out (fun e => by have := Option.some.inj e; omega), l14, by omega, ((B9.out.trans (HB12.out.mono hs9)).grown HG13.out (by omega) (fun k hk => by have := Option.some.inj hk; omega)).grown HG14.out (by have := HG13.out.size; omega) (fun k hk => by have := Option.some.inj hk; omega)⟩
theorem btw_on {α : Type} {E : Enc α} {w w' : World} {lo hi : Nat} {A : Option Addr} {n : Nat} {l : List α} (h : RdE E w (fun b => lo ≤ b ∧ b < hi) A n l) (hb : Below w.heap.size w w') (hh : hi ≤ w.heap.size) : RdE E w' (fun b => lo ≤ b ∧ b < hi) A n l := h.mono (Kept.of_below hb fun _ h => Nat.lt_of_lt_of_le h.2 hh) fun _ h => h
theorem btw_grown {α : Type} {E : Enc α} {w w' : World} {lo hi g : Nat} {A : Option Addr} {n : Nat} {l : List α} (h : RdE E w (fun b => lo ≤ b ∧ b < hi) A n l) (hg : w.grownBy w' (some g)) (hh : hi ≤ w.heap.size) (hne : g < lo ∨ hi ≤ g) : RdE E w' (fun b => lo ≤ b ∧ b < hi) A n l := h.mono (fun b hb => hg.block b (Nat.lt_of_lt_of_le hb.2 hh) (fun e => by have := Option.some.inj e; have h1 := hb.1; have h2 := hb.2; omega)) fun _ h => h
theorem stkC_one (g : GeoQ) (A B : Option Addr) (n c m d : Nat) : ∀ v ∈ stkC g (.slice A n c) (.slice B m d), v.oneCell' = true := by simp [stkC, Value.oneCell']
end Go.Proofs.YtnehkgbdppbhiaaGreat

/- plain.Idle. Written by gen_ViwI.py. -/
namespace Go.Proofs.YtnehkgbdppbhiaaGreat
open Go.RowKit Go.Shelf Plain

def ndZ : NodV := { ndD with ents := [⟨1, 4, [122]⟩] }
def ndW : NodV := { nod0 with k := 4, n := 1 }
def upI : List NodV := [ndZ, ndD, ndD, ndW, nod0]
def upC1 (E : Value) : List Value := nodC ndD (.slice none 0 0) E ++ (nodC ndD (.slice none 0 0) (.slice none 0 0) ++ (nodC ndD (.slice none 0 0) (.slice none 0 0) ++ (nodC nod0 (.slice none 0 0) (.slice none 0 0) ++ nodC nod0 (.slice none 0 0) (.slice none 0 0))))
def upC2 (E : Value) : List Value := nodC ndD (.slice none 0 0) E ++ (nodC ndD (.slice none 0 0) (.slice none 0 0) ++ (nodC ndD (.slice none 0 0) (.slice none 0 0) ++ (nodC ndW (.slice none 0 0) (.slice none 0 0) ++ nodC nod0 (.slice none 0 0) (.slice none 0 0))))
theorem up_one (E : Value) : splice upC 0 (nodC ndD (.slice none 0 0) E) = upC1 E := rfl
theorem up_two (E : Value) : splice (upC1 E) 39 (nodC ndW (.slice none 0 0) (.slice none 0 0)) = upC2 E := rfl
set_option maxRecDepth 100000 in
set_option maxHeartbeats 1600000 in
theorem Idle_any (w : World) : Calls Tryz.prog 50 #[] w (StkRet w gB upI lsB) := by
  obtain ⟨W1, hW1⟩ : ∃ W1, (w.alloc (.cells (stkC ⟨0, 0, 0, 0⟩ (.slice none 0 0) (.slice none 0 0)).toArray 29)) = W1 := ⟨_, rfl⟩
  obtain ⟨r0, hb1, hs1⟩ := rowA1 w _ _ hW1
  have hW1' : (w.alloc (.cells #[.int .i64 0, .int .i64 0, .int .i64 0, .int .i64 0, .slice none 0 0, .slice none 0 0] 29)) = W1 := hW1
  have R0 := hide r0
  have HB := hide hb1
  have hsz0 := hb1.size
  clear r0 hb1 hW1
  go_enter Tryz.func50, Tryz.ntmps50
  go_wp2_with (first | (go_at_call 93; refine (Base_o W1).mono ?_; rintro e1 wB ⟨g0, AL, nL, cL, rfl, hrow, hlay, hg0, hbel⟩; have hg0l := hrow.lt; replace HB := hide (HB.out.trans (hbel.mono HB.out.size)); replace R0 := hide (R0.out.on hbel); have hsz2 := hbel.size; have HG := hide hrow; clear hrow; have HLY := hide hlay; clear hlay; clear hbel) | (refine wpList_storeW rfl 29 (.tmp 1) (.tmp 2) rfl 6 stk_size (wB.heap.size) 29 rfl (stkC ⟨0, 0, 0, 0⟩ (.slice none 0 0) (.slice none 0 0)) (stkC gB (.slice (some ⟨g0, 0, none⟩) 5 5) (.slice AL nL cL)) rfl (RowL.new wB 29 (stkC ⟨0, 0, 0, 0⟩ (.slice none 0 0) (.slice none 0 0))) rfl rfl (stkC_one _ _ _ _ _ _ _) ?_; intro wS3 hr3 hg3 hs3; have hzb := below_stored' hg3; replace HB := hide (HB.out.trans (hzb.mono HB.out.size)); replace R0 := hide (R0.out.on hzb); replace HG := hide (HG.out.on hzb); replace HLY := hide (btw_on HLY.out hzb (by omega)); have hsz4 := hzb.size; have RS := hide hr3; have hlt3 := hr3.lt; have q1_4 : wS3.cell? ⟨wB.heap.size, 4, none⟩ = some (.slice (some ⟨g0, 0, none⟩) 5 5) := RS.out.cell 4; clear hzb hr3; clear hg3 hs3))
  refine wp_region_planL (fun w' => Below wS3.heap.size wS3 w') [(0, true), (1, true), (2, true), (3, true), (4, false), (5, false), (6, true)] 7 (by kernel_rfl) (by kernel_rfl) (by kernel_rfl) (by kernel_rfl) (by kernel_rfl) rfl (fun _ _ _ _ _ h => h) (below_drew (below_self wS3)) (fun hHeld => ?_)
  simp only [planOps, List.filterMap_cons, List.filterMap_nil, List.getElem?_toArray, List.getElem?_cons_succ, List.getElem?_cons_zero, Option.map_some]
  refine wpPlan_take (v := ?_) (by kernel_rfl) (fun wS hSw => ?_) ?_
  rotate_left
  · (try dsimp only at hSw); go_simp; (try with_reducible rfl)
  (try simp only [Act.put, List.setIfInBounds_toArray, List.set_cons_zero, List.set_cons_succ])
  refine wpPlan_take (v := ?_) (by kernel_rfl) (fun wS hSw => ?_) ?_
  rotate_left
  · (try dsimp only at hSw); go_simp; (try with_reducible rfl)
  (try simp only [Act.put, List.setIfInBounds_toArray, List.set_cons_zero, List.set_cons_succ])
  refine wpPlan_take (v := ?_) (by kernel_rfl) (fun wS hSw => ?_) ?_
  rotate_left
  · have qx := ((RS.out.on hSw).cell 4).trans (show (stkC gB (.slice (some ⟨g0, 0, none⟩) 5 5) (.slice AL nL cL))[4]? = some (.slice (some ⟨g0, 0, none⟩) 5 5) from rfl); go_simp; (try with_reducible rfl)
  (try simp only [Act.put, List.setIfInBounds_toArray, List.set_cons_zero, List.set_cons_succ])
  refine wpPlan_take (v := ?_) (by kernel_rfl) (fun wS hSw => ?_) ?_
  rotate_left
  · (try dsimp only at hSw); go_simp; (try with_reducible rfl)
  (try simp only [Act.put, List.setIfInBounds_toArray, List.set_cons_zero, List.set_cons_succ])
  refine wpPlan_call (by kernel_rfl) (fun K hK => ?_)
  have hOld := hide hHeld
  clear hHeld
  have HE0 := hide (RowL.new wS3.drew 49 (cellsE ⟨1, 4, [122]⟩))
  unfold Oper.wp execOp
  go_simp
  refine hK.out _ _ (hOld.out.alloc hOld.out.size _) (fun hHeld => ?_)
  clear hK K
  (try simp only [Act.put, List.setIfInBounds_toArray, List.set_cons_zero, List.set_cons_succ])
  refine wpPlan_call (by kernel_rfl) (fun K hK => ?_)
  have hOld := hide hHeld
  clear hHeld
  go_simp
  go_at_call 94
  refine (Dir_any _).mono ?_
  rintro e w' ⟨rfl, hbel⟩
  have HE1 := hide (HE0.out.on hbel)
  clear HE0
  refine hK.out _ _ (hOld.out.trans (hbel.mono hOld.out.size)) (fun hHeld => ?_)
  clear hK K
  (try simp only [Act.put, List.setIfInBounds_toArray, List.set_cons_zero, List.set_cons_succ])
  refine wpPlan_take (v := ?_) (by kernel_rfl) (fun wS hSw => ?_) ?_
  rotate_left
  · (try dsimp only at hSw); go_simp; (try with_reducible rfl)
  (try simp only [Act.put, List.setIfInBounds_toArray, List.set_cons_zero, List.set_cons_succ])
  refine wpPlan_end ?_
  refine postL_go rfl (by kernel_rfl) ?_
  have hsx := hHeld.size
  refine wp_storeC 71 (.tmp 9) (.tmp 8) rfl 13 nod_size g0 0 71 rfl upC (nodC ndD (.slice none 0 0) (.slice (some ⟨wS3.heap.size, 0, none⟩) 1 1)) rfl (HG.out.on hHeld) rfl (by decide) (nodC_one _ _ _ _ _ _ _) ?_
  intro w5 hr5 hg5 hs5
  rw [up_one] at hr5
  have HG5 := hide hr5
  have HB5 := hide ((HB.out.trans (hHeld.mono HB.out.size)).grown hg5 (by omega) (fun k hk => by have := Option.some.inj hk; omega))
  have R05 := hide ((R0.out.on hHeld).grown hg5 (fun e => by have := Option.some.inj e; omega))
  have RS5 := hide ((RS.out.on hHeld).grown hg5 (fun e => by have := Option.some.inj e; omega))
  have HE5 := hide (HE1.out.grown hg5 (fun e => by have := Option.some.inj e; have : (wS3.drew).heap.size = wS3.heap.size := rfl; omega))
  have HL5 := hide (btw_grown (btw_on HLY.out hHeld (by omega)) hg5 (by omega) (by omega))
  have hs5l := hg5.size
  clear hr5 hg5 hs5 hHeld HG R0 RS HE1 HLY HB
  have q4 : w5.cell? ⟨wB.heap.size, 4, none⟩ = some (.slice (some ⟨g0, 0, none⟩) 5 5) := RS5.out.cell 4
  (try simp only [Act.put])
  go_wp2_with (first | (refine wpList_storeC rfl 71 (.tmp 14) (.tmp 13) rfl 13 nod_size g0 39 71 rfl (upC1 (.slice (some ⟨wS3.heap.size, 0, none⟩) 1 1)) (nodC ndW (.slice none 0 0) (.slice none 0 0)) rfl HG5.out rfl (show 39 + 13 ≤ 65 from (by decide)) (nodC_one _ _ _ _ _ _ _) ?_; intro w6 hr6 hg6 hs6; rw [up_two] at hr6; have HG6 := hide hr6; have HB6 := hide (HB5.out.grown hg6 HB5.out.size (fun k hk => by have := Option.some.inj hk; omega)); have R06 := hide (R05.out.grown hg6 (fun e => by have := Option.some.inj e; omega)); have RS6 := hide (RS5.out.grown hg6 (fun e => by have := Option.some.inj e; omega)); have HE6 := hide (HE5.out.grown hg6 (fun e => by have := Option.some.inj e; have : (wS3.drew).heap.size = wS3.heap.size := rfl; omega)); have HL6 := hide (btw_grown HL5.out hg6 (by omega) (by omega)); have hs6l := hg6.size; clear hr6 hg6 hs6) | (refine wpList_loadW rfl 29 (.tmp 1) rfl 6 stk_agg stk_size (wB.heap.size) 29 rfl (stkC gB (.slice (some ⟨g0, 0, none⟩) 5 5) (.slice AL nL cL)) RS6.out rfl ?_) | (refine wpList_storeW rfl 29 (.tmp 0) (.tmp 15) rfl 6 stk_size w.heap.size 29 rfl (stkC ⟨0, 0, 0, 0⟩ (.slice none 0 0) (.slice none 0 0)) (stkC gB (.slice (some ⟨g0, 0, none⟩) 5 5) (.slice AL nL cL)) rfl R06.out rfl rfl (stkC_one _ _ _ _ _ _ _) ?_; intro w7 hr7 hg7 hs7; have HR7 := hide hr7; have HG7 := hide (HG6.out.grown hg7 (fun e => by have := Option.some.inj e; omega)); have HB7 := hide (HB6.out.grown hg7 HB6.out.size (fun k hk => by have := Option.some.inj hk; omega)); have HE7 := hide (HE6.out.grown hg7 (fun e => by have := Option.some.inj e; have : (wS3.drew).heap.size = wS3.heap.size := rfl; omega)); have HL7 := hide ((btw_grown HL6.out hg7 (by omega) (by omega)).mono (fun _ _ => rfl) (fun b hb => (show b < w7.heap.size from by have h2 := hb.2; have h3 := hg7.size; omega)) : RdE layEn w7 (Under w7.heap.size) AL nL lsB); clear hr7 hg7 hs7))
  have u7 : RdE nodEn w7 (Under w7.heap.size) (some ⟨g0, 0, none⟩) 5 upI := nods_row HG7.out HG7.out.lt ⟨none, 0, 0, _, 1, 1, rfl, Nat.le_refl _, RdE.none_ _ _ _ _, Nat.le_refl _, ent_row (l := [⟨1, 4, [122]⟩]) HE7.out HE7.out.lt⟩ (ndDR _ _) (ndDR _ _) ⟨none, 0, 0, none, 0, 0, rfl, Nat.le_refl _, RdE.none_ _ _ _ _, Nat.le_refl _, RdE.none_ _ _ _ _⟩ (nod0R _ _)
  exact bodyPost_ret (res_cell Tryz.results50 rfl stk_agg stk_size HR7.out rfl) rfl ⟨_, 5, 5, AL, nL, cL, rfl, u7, HL7.out, HB7.out⟩
end Go.Proofs.YtnehkgbdppbhiaaGreat

/- The law's awake (layer 16). -/
namespace Go.Proofs.YtnehkgbdppbhiaaGreat
open Go.RowKit Go.Shelf Plain

theorem EqS_b {A B : Option Addr} {n m c d : Nat} {l k : List (List UInt8)} {W1 W2 : Nat} {b : Bool} (h : (l == k) = b) (w : World) (ha : Rd st w W1 A n l) (hb : Rd st w W2 B m k) (hn : n ≤ 140737488355328) :
    Calls Tryz.prog 20 #[.slice A n c, .slice B m d] w (BRt w b) := by rw [← h]; exact EqualS_any w ha hb hn
def OnePlc (w : World) (x : Int × Int) (e : Ending) (w' : World) : Prop := ∃ A c, e = .returned (.slice A 1 c) ∧ RdE prEn w' (Under w'.heap.size) A 1 [x] ∧ Below w.heap.size w w'
def OneFind (w : World) (k : Int) (x : Int × Int) (e : Ending) (w' : World) : Prop := ∃ A c, e = .returned (.tuple #[.int .i64 k, .slice A 1 c]) ∧ RdE prEn w' (Under w'.heap.size) A 1 [x] ∧ Below w.heap.size w w'
def NoLook (w : World) (e : Ending) (w' : World) : Prop := ∃ A n c, e = .returned (.tuple #[.slice A n c, .bool false]) ∧ Below w.heap.size w w'
def OneName (w : World) (x : List UInt8) (e : Ending) (w' : World) : Prop := ∃ A n c, e = .returned (.slice A n c) ∧ Rd st w' w'.heap.size A n [x] ∧ Below w.heap.size w w'
section
variable {AU AL AP AN : Option Addr} {nU cU nL cL cP cN : Nat}
theorem RootsB (w : World) (h : RdE layEn w (Under w.heap.size) AL nL lsB) : Calls Tryz.prog 56 #[.agg (stkC gB (.slice AU nU cU) (.slice AL nL cL)).toArray] w (OnePlc w (1, 1)) :=
  (Roots_any w h ba_few).mono fun e w' ⟨A, c, h1, h2, h3⟩ => by
    rw [ba_roots] at h1 h2
    exact ⟨A, c, h1, h2, h3⟩
theorem FindB (w : World) (h : RdE layEn w (Under w.heap.size) AL nL lsB) (hp : RdE prEn w (Under w.heap.size) AP 1 [(1, 1)]) : Calls Tryz.prog 25 #[.agg (stkC gB (.slice AU nU cU) (.slice AL nL cL)).toArray, .slice AP 1 cP, .string ⟨#[97]⟩] w (OneFind w 2 (1, 2)) :=
  (Find_any (nm := [97]) w h hp (Nat.le_refl _) ba_few (by omega)).mono fun e w' ⟨A, c, h1, h2, h3, h4⟩ => by
    rw [ba_find] at h1 h3
    exact ⟨A, c, h1, h3.mono (fun _ _ => rfl) (fun b hb => hb.2), h4⟩
theorem LookB (w : World) (h : RdE layEn w (Under w.heap.size) AL nL lsB) (hp : RdE prEn w (Under w.heap.size) AP 1 [(1, 1)]) (hs : Rd st w w.heap.size AN 1 [[97]]) : Calls Tryz.prog 103 #[.agg (stkC gB (.slice AU nU cU) (.slice AL nL cL)).toArray, .slice AP 1 cP, .slice AN 1 cN] w (NoLook w) :=
  (Look_any w h hp hs (Nat.le_refl _) ba_few (by omega) (by omega)).mono fun e w' ⟨A, n, c, h1, h2, h3⟩ => by
    rw [ba_look] at h1
    exact ⟨A, n, c, h1, h3⟩
theorem NamesB (w : World) (h : RdE layEn w (Under w.heap.size) AL nL lsB) (hp : RdE prEn w (Under w.heap.size) AP 1 [(1, 1)]) : Calls Tryz.prog 62 #[.agg (stkC gB (.slice AU nU cU) (.slice AL nL cL)).toArray, .slice AP 1 cP] w (OneName w [97]) :=
  (Names_any w h hp ba_few (by omega)).mono fun e w' ⟨A, n, c, h1, h2, h3⟩ => by
    rw [ba_names] at h2
    exact ⟨A, n, c, h1, h2, h3⟩
end
end Go.Proofs.YtnehkgbdppbhiaaGreat

/- The law's awake (layer 17). -/
namespace Go.Proofs.YtnehkgbdppbhiaaGreat
open Go.RowKit Go.Shelf Plain

theorem aw_root : rootV upI lsB = (1, [(1, 1)]) := by decide +kernel
theorem aw_a : stepV upI lsB (1, [(1, 1)]) [97] = (2, (0, []), (1, 2)) := by decide +kernel
theorem aw_z : stepV upI lsB (1, [(1, 1)]) [122] = (0, (0, []), (0, 0)) := by decide +kernel
theorem aw_walk17 : (walkW upI [1]).1 = [⟨1, -1, []⟩] := by decide +kernel
theorem aw_names17 : namesV upI lsB (1, [(1, 1)]) = [[97]] := by decide +kernel
theorem aw_few : FewU upI := by
  refine ⟨by decide, fun x hx => ?_⟩
  simp only [upI, List.mem_cons, List.not_mem_nil, or_false] at hx
  rcases hx with rfl | rfl | rfl | rfl | rfl
  · refine ⟨fun i e hi he => ?_, by decide, by decide, by decide, by decide, by decide, fun e he => ?_⟩
    · obtain rfl : i = 0 := by have : i < 1 := hi; omega
      cases he
      exact ⟨by decide, by decide, fun p h => absurd h (by omega)⟩
    · rw [List.mem_singleton.1 he]
      decide
  · exact ⟨fun i e hi he => absurd hi (by simp [ndD, nod0]), by decide, by decide, by decide, by decide, by decide, fun e he => by simp [ndD, nod0] at he⟩
  · exact ⟨fun i e hi he => absurd hi (by simp [ndD, nod0]), by decide, by decide, by decide, by decide, by decide, fun e he => by simp [ndD, nod0] at he⟩
  · exact ⟨fun i e hi he => absurd hi (by simp [ndW, nod0]), by decide, by decide, by decide, by decide, by decide, fun e he => by simp [ndW, nod0] at he⟩
  · exact plain0
theorem VNames_e {g : GeoQ} {AU AL : Option Addr} {nU cU nL cL B : Nat} {up : List NodV} {ls : List (List NodV)} {u : Int} {AV : Option Addr} {nV cV BV : Nat} {vl : List (Int × Int)} {L : List (List UInt8)} (hL : namesV up ls (u, vl) = L) (w : World) (hu : RdE nodEn w (Under B) AU nU up) (h : RdE layEn w (Under B) AL nL ls) (hB : B ≤ w.heap.size) (hF : FewL ls) (hup : FewU up) (hv : RdE prEn w (Under BV) AV nV vl) (hBV : BV ≤ w.heap.size) (hnV : nV ≤ 1000) : Calls Tryz.prog 21 #[.agg (stkC g (.slice AU nU cU) (.slice AL nL cL)).toArray, .agg (viwC u (.slice AV nV cV)).toArray] w (NamesO w L) := by rw [← hL]; exact VNames_any w hu h hB hF hup hv hBV hnV
set_option maxRecDepth 100000 in
set_option maxHeartbeats 4000000 in
theorem awake17_any (w : World) : Calls Tryz.prog 11 #[] w (LawOk w) := by
  have HB := hide (below_self w)
  go_enter Tryz.func11, Tryz.ntmps11
  go_wp2_with (first | (go_at_call 50; refine (Idle_any w).mono ?_; rintro e1 wI ⟨AU, nU, cU, AL, nL, cL, rfl, hu, hl, hbel⟩; replace HB := hide (HB.out.trans (hbel.mono HB.out.size)); have hsz2 := hbel.size; have HU := hide hu; clear hu; have HL := hide hl; clear hl; clear hbel) | (refine wpList_storeW rfl 29 (.tmp 1) (.tmp 11) rfl 6 stk_size (wI.heap.size) 29 rfl (stkC ⟨0, 0, 0, 0⟩ (.slice none 0 0) (.slice none 0 0)) (stkC gB (.slice AU nU cU) (.slice AL nL cL)) rfl (RowL.new wI 29 (stkC ⟨0, 0, 0, 0⟩ (.slice none 0 0) (.slice none 0 0))) rfl rfl (stkC_one _ _ _ _ _ _ _) ?_; intro wS3 hr3 hg3 hs3; have hzb := below_stored' hg3; replace HB := hide (HB.out.trans (hzb.mono HB.out.size)); replace HU := hide (HU.out.under hzb (by omega)); replace HL := hide (HL.out.under hzb (by omega)); have hsz4 := hzb.size; have RS := hide hr3; have hlt3 := hr3.lt; have q1_0 : wS3.cell? ⟨wI.heap.size, 0, none⟩ = some (.int .i64 1) := RS.out.cell 0; have q1_1 : wS3.cell? ⟨wI.heap.size, 1, none⟩ = some (.int .i64 5) := RS.out.cell 1; have q1_2 : wS3.cell? ⟨wI.heap.size, 2, none⟩ = some (.int .i64 6) := RS.out.cell 2; have q1_3 : wS3.cell? ⟨wI.heap.size, 3, none⟩ = some (.int .i64 5) := RS.out.cell 3; have q1_4 : wS3.cell? ⟨wI.heap.size, 4, none⟩ = some (.slice AU nU cU) := RS.out.cell 4; have q1_5 : wS3.cell? ⟨wI.heap.size, 5, none⟩ = some (.slice AL nL cL) := RS.out.cell 5; clear hzb hr3; clear hg3 hs3) | (refine wpList_loadW rfl 29 (.tmp 1) rfl 6 stk_agg stk_size (wI.heap.size) 29 rfl (stkC gB (.slice AU nU cU) (.slice AL nL cL)) RS.out rfl ?_) | (go_at_call 15; refine (VRoot_e (g := gB) aw_root wS3 HU.out HL.out (by omega) ba_few aw_few).mono ?_; rintro e5 wR ⟨A2, c2, rfl, h2, hbel⟩; replace h2 : RdE prEn wR (Under wR.heap.size) A2 1 [(1, 1)] := fr_under h2; clear q1_0 q1_1 q1_2 q1_3 q1_4 q1_5; replace HB := hide (HB.out.trans (hbel.mono HB.out.size)); replace HU := hide (HU.out.under hbel (by omega)); replace HL := hide (HL.out.under hbel (by omega)); replace RS := hide (RS.out.on hbel); have hsz6 := hbel.size; have q1_0 : wR.cell? ⟨wI.heap.size, 0, none⟩ = some (.int .i64 1) := RS.out.cell 0; have q1_1 : wR.cell? ⟨wI.heap.size, 1, none⟩ = some (.int .i64 5) := RS.out.cell 1; have q1_2 : wR.cell? ⟨wI.heap.size, 2, none⟩ = some (.int .i64 6) := RS.out.cell 2; have q1_3 : wR.cell? ⟨wI.heap.size, 3, none⟩ = some (.int .i64 5) := RS.out.cell 3; have q1_4 : wR.cell? ⟨wI.heap.size, 4, none⟩ = some (.slice AU nU cU) := RS.out.cell 4; have q1_5 : wR.cell? ⟨wI.heap.size, 5, none⟩ = some (.slice AL nL cL) := RS.out.cell 5; have HV := hide h2; clear h2; clear hbel) | (refine wpList_storeW rfl 32 (.tmp 2) (.tmp 13) rfl 2 viw_size (wR.heap.size) 32 rfl (viwC 0 (.slice none 0 0)) (viwC 1 (.slice A2 1 c2)) rfl (RowL.new wR 32 (viwC 0 (.slice none 0 0))) rfl rfl (viwC_one _ _ _ _) ?_; intro wS7 hr7 hg7 hs7; have hzb := below_stored' hg7; clear q1_0 q1_1 q1_2 q1_3 q1_4 q1_5; replace HB := hide (HB.out.trans (hzb.mono HB.out.size)); replace HU := hide (HU.out.under hzb (by omega)); replace HL := hide (HL.out.under hzb (by omega)); replace RS := hide (RS.out.on hzb); replace HV := hide (HV.out.under hzb (by omega)); have hsz8 := hzb.size; have q1_0 : wS7.cell? ⟨wI.heap.size, 0, none⟩ = some (.int .i64 1) := RS.out.cell 0; have q1_1 : wS7.cell? ⟨wI.heap.size, 1, none⟩ = some (.int .i64 5) := RS.out.cell 1; have q1_2 : wS7.cell? ⟨wI.heap.size, 2, none⟩ = some (.int .i64 6) := RS.out.cell 2; have q1_3 : wS7.cell? ⟨wI.heap.size, 3, none⟩ = some (.int .i64 5) := RS.out.cell 3; have q1_4 : wS7.cell? ⟨wI.heap.size, 4, none⟩ = some (.slice AU nU cU) := RS.out.cell 4; have q1_5 : wS7.cell? ⟨wI.heap.size, 5, none⟩ = some (.slice AL nL cL) := RS.out.cell 5; have RV := hide hr7; have hlt7 := hr7.lt; have q2_0 : wS7.cell? ⟨wR.heap.size, 0, none⟩ = some (.int .i64 1) := RV.out.cell 0; have q2_1 : wS7.cell? ⟨wR.heap.size, 1, none⟩ = some (.slice A2 1 c2) := RV.out.cell 1; clear hzb hr7; clear hg7 hs7) | (refine wpList_loadW rfl 29 (.tmp 1) rfl 6 stk_agg stk_size (wI.heap.size) 29 rfl (stkC gB (.slice AU nU cU) (.slice AL nL cL)) RS.out rfl ?_) | (refine wpList_loadW rfl 32 (.tmp 2) rfl 2 viw_agg viw_size (wR.heap.size) 32 rfl (viwC 1 (.slice A2 1 c2)) RV.out rfl ?_) | (go_at_call 12; refine (VStep_any (g := gB) (u := 1) (cV := c2) aw_a wS7 HU.out HL.out (by omega) ba_few aw_few HV.out (by omega) (by omega)).mono ?_; rintro e9 wA ⟨A3, c3, rfl, -, hbel⟩; clear q2_0 q2_1 q1_0 q1_1 q1_2 q1_3 q1_4 q1_5; replace HB := hide (HB.out.trans (hbel.mono HB.out.size)); replace HU := hide (HU.out.under hbel (by omega)); replace HL := hide (HL.out.under hbel (by omega)); replace RS := hide (RS.out.on hbel); replace HV := hide (HV.out.under hbel (by omega)); replace RV := hide (RV.out.on hbel); have hsz10 := hbel.size; have q2_0 : wA.cell? ⟨wR.heap.size, 0, none⟩ = some (.int .i64 1) := RV.out.cell 0; have q2_1 : wA.cell? ⟨wR.heap.size, 1, none⟩ = some (.slice A2 1 c2) := RV.out.cell 1; have q1_0 : wA.cell? ⟨wI.heap.size, 0, none⟩ = some (.int .i64 1) := RS.out.cell 0; have q1_1 : wA.cell? ⟨wI.heap.size, 1, none⟩ = some (.int .i64 5) := RS.out.cell 1; have q1_2 : wA.cell? ⟨wI.heap.size, 2, none⟩ = some (.int .i64 6) := RS.out.cell 2; have q1_3 : wA.cell? ⟨wI.heap.size, 3, none⟩ = some (.int .i64 5) := RS.out.cell 3; have q1_4 : wA.cell? ⟨wI.heap.size, 4, none⟩ = some (.slice AU nU cU) := RS.out.cell 4; have q1_5 : wA.cell? ⟨wI.heap.size, 5, none⟩ = some (.slice AL nL cL) := RS.out.cell 5; clear hbel) | (obtain ⟨hz4, hz5, hzb, hzs⟩ := rows2 wA (viwC 0 (.slice none 0 0)) (prC (0, 0)) 32 36; refine wpList_storeW rfl 32 (.tmp 4) (.tmp 19) rfl 2 viw_size (wA.heap.size) 32 rfl (viwC 0 (.slice none 0 0)) (viwC 0 (.slice A3 0 c3)) rfl hz4 rfl rfl (viwC_one _ _ _ _) ?_; intro wS11 hr11 hg11 hs11; replace hzb := hzb.grown hg11 hzb.size (fun k hk => by have := Option.some.inj hk; omega); replace hz5 := hz5.grown hg11 (fun e => by have := Option.some.inj e; omega); have hz4 := hr11; clear hg11 hs11 hr11) | (refine wpList_storeW rfl 36 (.tmp 5) (.tmp 20) rfl 2 plc_size (wA.heap.size + 1) 36 rfl (prC (0, 0)) (prC (1, 2)) rfl hz5 rfl rfl (prC_one _) ?_; intro wS12 hr12 hg12 hs12; replace hzb := hzb.grown hg12 hzb.size (fun k hk => by have := Option.some.inj hk; omega); replace hz4 := hz4.grown hg12 (fun e => by have := Option.some.inj e; omega); have hz5 := hr12; clear q2_0 q2_1 q1_0 q1_1 q1_2 q1_3 q1_4 q1_5; replace HB := hide (HB.out.trans (hzb.mono HB.out.size)); replace HU := hide (HU.out.under hzb (by omega)); replace HL := hide (HL.out.under hzb (by omega)); replace RS := hide (RS.out.on hzb); replace HV := hide (HV.out.under hzb (by omega)); replace RV := hide (RV.out.on hzb); have hsz13 := hzb.size; have q2_0 : wS12.cell? ⟨wR.heap.size, 0, none⟩ = some (.int .i64 1) := RV.out.cell 0; have q2_1 : wS12.cell? ⟨wR.heap.size, 1, none⟩ = some (.slice A2 1 c2) := RV.out.cell 1; have q1_0 : wS12.cell? ⟨wI.heap.size, 0, none⟩ = some (.int .i64 1) := RS.out.cell 0; have q1_1 : wS12.cell? ⟨wI.heap.size, 1, none⟩ = some (.int .i64 5) := RS.out.cell 1; have q1_2 : wS12.cell? ⟨wI.heap.size, 2, none⟩ = some (.int .i64 6) := RS.out.cell 2; have q1_3 : wS12.cell? ⟨wI.heap.size, 3, none⟩ = some (.int .i64 5) := RS.out.cell 3; have q1_4 : wS12.cell? ⟨wI.heap.size, 4, none⟩ = some (.slice AU nU cU) := RS.out.cell 4; have q1_5 : wS12.cell? ⟨wI.heap.size, 5, none⟩ = some (.slice AL nL cL) := RS.out.cell 5; have RA := hide hz4; have hlt11 := hz4.lt; have RP := hide hz5; have hlt12 := hz5.lt; have q5_0 : wS12.cell? ⟨wA.heap.size + 1, 0, none⟩ = some (.int .i64 1) := RP.out.cell 0; have q5_1 : wS12.cell? ⟨wA.heap.size + 1, 1, none⟩ = some (.int .i64 2) := RP.out.cell 1; clear hzb hzs hz4 hz5; clear hg12 hs12) | (refine wpList_loadW rfl 29 (.tmp 1) rfl 6 stk_agg stk_size (wI.heap.size) 29 rfl (stkC gB (.slice AU nU cU) (.slice AL nL cL)) RS.out rfl ?_) | (refine wpList_loadW rfl 32 (.tmp 2) rfl 2 viw_agg viw_size (wR.heap.size) 32 rfl (viwC 1 (.slice A2 1 c2)) RV.out rfl ?_) | (go_at_call 12; refine (VStep_any (g := gB) (u := 1) (cV := c2) aw_z wS12 HU.out HL.out (by omega) ba_few aw_few HV.out (by omega) (by omega)).mono ?_; rintro e14 wZ ⟨A4, c4, rfl, -, hbel⟩; clear q2_0 q2_1 q5_0 q5_1 q1_0 q1_1 q1_2 q1_3 q1_4 q1_5; replace HB := hide (HB.out.trans (hbel.mono HB.out.size)); replace HU := hide (HU.out.under hbel (by omega)); replace HL := hide (HL.out.under hbel (by omega)); replace RS := hide (RS.out.on hbel); replace HV := hide (HV.out.under hbel (by omega)); replace RV := hide (RV.out.on hbel); replace RA := hide (RA.out.on hbel); replace RP := hide (RP.out.on hbel); have hsz15 := hbel.size; have q2_0 : wZ.cell? ⟨wR.heap.size, 0, none⟩ = some (.int .i64 1) := RV.out.cell 0; have q2_1 : wZ.cell? ⟨wR.heap.size, 1, none⟩ = some (.slice A2 1 c2) := RV.out.cell 1; have q5_0 : wZ.cell? ⟨wA.heap.size + 1, 0, none⟩ = some (.int .i64 1) := RP.out.cell 0; have q5_1 : wZ.cell? ⟨wA.heap.size + 1, 1, none⟩ = some (.int .i64 2) := RP.out.cell 1; have q1_0 : wZ.cell? ⟨wI.heap.size, 0, none⟩ = some (.int .i64 1) := RS.out.cell 0; have q1_1 : wZ.cell? ⟨wI.heap.size, 1, none⟩ = some (.int .i64 5) := RS.out.cell 1; have q1_2 : wZ.cell? ⟨wI.heap.size, 2, none⟩ = some (.int .i64 6) := RS.out.cell 2; have q1_3 : wZ.cell? ⟨wI.heap.size, 3, none⟩ = some (.int .i64 5) := RS.out.cell 3; have q1_4 : wZ.cell? ⟨wI.heap.size, 4, none⟩ = some (.slice AU nU cU) := RS.out.cell 4; have q1_5 : wZ.cell? ⟨wI.heap.size, 5, none⟩ = some (.slice AL nL cL) := RS.out.cell 5; clear hbel) | (obtain ⟨hz7, hz8, hzb, hzs⟩ := rows2 wZ (viwC 0 (.slice none 0 0)) (prC (0, 0)) 32 36; refine wpList_storeW rfl 32 (.tmp 7) (.tmp 26) rfl 2 viw_size (wZ.heap.size) 32 rfl (viwC 0 (.slice none 0 0)) (viwC 0 (.slice A4 0 c4)) rfl hz7 rfl rfl (viwC_one _ _ _ _) ?_; intro wS16 hr16 hg16 hs16; replace hzb := hzb.grown hg16 hzb.size (fun k hk => by have := Option.some.inj hk; omega); replace hz8 := hz8.grown hg16 (fun e => by have := Option.some.inj e; omega); have hz7 := hr16; clear hg16 hs16 hr16) | (refine wpList_storeW rfl 36 (.tmp 8) (.tmp 27) rfl 2 plc_size (wZ.heap.size + 1) 36 rfl (prC (0, 0)) (prC (0, 0)) rfl hz8 rfl rfl (prC_one _) ?_; intro wS17 hr17 hg17 hs17; replace hzb := hzb.grown hg17 hzb.size (fun k hk => by have := Option.some.inj hk; omega); replace hz7 := hz7.grown hg17 (fun e => by have := Option.some.inj e; omega); have hz8 := hr17; clear q2_0 q2_1 q5_0 q5_1 q1_0 q1_1 q1_2 q1_3 q1_4 q1_5; replace HB := hide (HB.out.trans (hzb.mono HB.out.size)); replace HU := hide (HU.out.under hzb (by omega)); replace HL := hide (HL.out.under hzb (by omega)); replace RS := hide (RS.out.on hzb); replace HV := hide (HV.out.under hzb (by omega)); replace RV := hide (RV.out.on hzb); replace RA := hide (RA.out.on hzb); replace RP := hide (RP.out.on hzb); have hsz18 := hzb.size; have q2_0 : wS17.cell? ⟨wR.heap.size, 0, none⟩ = some (.int .i64 1) := RV.out.cell 0; have q2_1 : wS17.cell? ⟨wR.heap.size, 1, none⟩ = some (.slice A2 1 c2) := RV.out.cell 1; have q5_0 : wS17.cell? ⟨wA.heap.size + 1, 0, none⟩ = some (.int .i64 1) := RP.out.cell 0; have q5_1 : wS17.cell? ⟨wA.heap.size + 1, 1, none⟩ = some (.int .i64 2) := RP.out.cell 1; have q1_0 : wS17.cell? ⟨wI.heap.size, 0, none⟩ = some (.int .i64 1) := RS.out.cell 0; have q1_1 : wS17.cell? ⟨wI.heap.size, 1, none⟩ = some (.int .i64 5) := RS.out.cell 1; have q1_2 : wS17.cell? ⟨wI.heap.size, 2, none⟩ = some (.int .i64 6) := RS.out.cell 2; have q1_3 : wS17.cell? ⟨wI.heap.size, 3, none⟩ = some (.int .i64 5) := RS.out.cell 3; have q1_4 : wS17.cell? ⟨wI.heap.size, 4, none⟩ = some (.slice AU nU cU) := RS.out.cell 4; have q1_5 : wS17.cell? ⟨wI.heap.size, 5, none⟩ = some (.slice AL nL cL) := RS.out.cell 5; have RZ := hide hz7; have hlt16 := hz7.lt; have RQ := hide hz8; have hlt17 := hz8.lt; clear hzb hzs hz7 hz8; clear hg17 hs17) | (refine wpList_loadW rfl 29 (.tmp 1) rfl 6 stk_agg stk_size (wI.heap.size) 29 rfl (stkC gB (.slice AU nU cU) (.slice AL nL cL)) RS.out rfl ?_) | (go_at_call 26; refine (VTree1_any (g := gB) aw_walk17 wS17 HU.out HL.out (by omega) ba_few aw_few).mono ?_; rintro e19 wT ⟨A5, c5, A6, c6, rfl, hbel⟩; clear q2_0 q2_1 q5_0 q5_1 q1_0 q1_1 q1_2 q1_3 q1_4 q1_5; replace HB := hide (HB.out.trans (hbel.mono HB.out.size)); replace HU := hide (HU.out.under hbel (by omega)); replace HL := hide (HL.out.under hbel (by omega)); replace RS := hide (RS.out.on hbel); replace HV := hide (HV.out.under hbel (by omega)); replace RV := hide (RV.out.on hbel); replace RA := hide (RA.out.on hbel); replace RP := hide (RP.out.on hbel); replace RZ := hide (RZ.out.on hbel); replace RQ := hide (RQ.out.on hbel); have hsz20 := hbel.size; have q2_0 : wT.cell? ⟨wR.heap.size, 0, none⟩ = some (.int .i64 1) := RV.out.cell 0; have q2_1 : wT.cell? ⟨wR.heap.size, 1, none⟩ = some (.slice A2 1 c2) := RV.out.cell 1; have q5_0 : wT.cell? ⟨wA.heap.size + 1, 0, none⟩ = some (.int .i64 1) := RP.out.cell 0; have q5_1 : wT.cell? ⟨wA.heap.size + 1, 1, none⟩ = some (.int .i64 2) := RP.out.cell 1; have q1_0 : wT.cell? ⟨wI.heap.size, 0, none⟩ = some (.int .i64 1) := RS.out.cell 0; have q1_1 : wT.cell? ⟨wI.heap.size, 1, none⟩ = some (.int .i64 5) := RS.out.cell 1; have q1_2 : wT.cell? ⟨wI.heap.size, 2, none⟩ = some (.int .i64 6) := RS.out.cell 2; have q1_3 : wT.cell? ⟨wI.heap.size, 3, none⟩ = some (.int .i64 5) := RS.out.cell 3; have q1_4 : wT.cell? ⟨wI.heap.size, 4, none⟩ = some (.slice AU nU cU) := RS.out.cell 4; have q1_5 : wT.cell? ⟨wI.heap.size, 5, none⟩ = some (.slice AL nL cL) := RS.out.cell 5; clear hbel) | (go_at_call 21; refine (VNames_e (g := gB) (u := 1) (cV := c2) aw_names17 wT HU.out HL.out (by omega) ba_few aw_few HV.out (by omega) (by omega)).mono ?_; rintro e21 wN ⟨A7, n7, c7, rfl, h7, hbel⟩; clear q2_0 q2_1 q5_0 q5_1 q1_0 q1_1 q1_2 q1_3 q1_4 q1_5; replace HB := hide (HB.out.trans (hbel.mono HB.out.size)); replace HU := hide (HU.out.under hbel (by omega)); replace HL := hide (HL.out.under hbel (by omega)); replace RS := hide (RS.out.on hbel); replace HV := hide (HV.out.under hbel (by omega)); replace RV := hide (RV.out.on hbel); replace RA := hide (RA.out.on hbel); replace RP := hide (RP.out.on hbel); replace RZ := hide (RZ.out.on hbel); replace RQ := hide (RQ.out.on hbel); have hsz22 := hbel.size; have q2_0 : wN.cell? ⟨wR.heap.size, 0, none⟩ = some (.int .i64 1) := RV.out.cell 0; have q2_1 : wN.cell? ⟨wR.heap.size, 1, none⟩ = some (.slice A2 1 c2) := RV.out.cell 1; have q5_0 : wN.cell? ⟨wA.heap.size + 1, 0, none⟩ = some (.int .i64 1) := RP.out.cell 0; have q5_1 : wN.cell? ⟨wA.heap.size + 1, 1, none⟩ = some (.int .i64 2) := RP.out.cell 1; have q1_0 : wN.cell? ⟨wI.heap.size, 0, none⟩ = some (.int .i64 1) := RS.out.cell 0; have q1_1 : wN.cell? ⟨wI.heap.size, 1, none⟩ = some (.int .i64 5) := RS.out.cell 1; have q1_2 : wN.cell? ⟨wI.heap.size, 2, none⟩ = some (.int .i64 6) := RS.out.cell 2; have q1_3 : wN.cell? ⟨wI.heap.size, 3, none⟩ = some (.int .i64 5) := RS.out.cell 3; have q1_4 : wN.cell? ⟨wI.heap.size, 4, none⟩ = some (.slice AU nU cU) := RS.out.cell 4; have q1_5 : wN.cell? ⟨wI.heap.size, 5, none⟩ = some (.slice AL nL cL) := RS.out.cell 5; have HN := hide h7; clear h7; clear hbel) | (go_at_call 20; refine (EqS_b (show (([[97]] : List (List UInt8)) == [[97]]) = true from by decide) _ (HN.out.rd.on (below_new (below_self wN) _)) (Rd.one wN 9 (f := st) (u := .string ⟨#[97]⟩) (x := [97]) rfl) (by have := HN.out.rd.len; simp at this; omega)).mono ?_; rintro e99 wE ⟨rfl, hbel⟩; replace HB := hide (HB.out.trans (((below_new (below_self wN) _).trans (hbel.mono (by simp))).mono HB.out.size)); clear hbel))
  go_ret
  exact LawOk.of HB.out
end Go.Proofs.YtnehkgbdppbhiaaGreat

/- The reference's first entry of a name, alone (as in ViwE, ViwF). -/
namespace Go.Proofs.YtnehkgbdppbhiaaGreat
open Go.RowKit Go.Shelf Plain

set_option maxRecDepth 100000 in
set_option maxHeartbeats 16000000 in
theorem REnt17_any {g : GeoQ} {AU AL : Option Addr} {nU cU nL cL B : Nat} {up : List NodV} {u : Int} {AV : Option Addr} {nV cV : Nat} {nm : List UInt8} (w : World) (hu : RdE nodEn w (Under B) AU nU up) (hB : B ≤ w.heap.size) (hup : FewU up) : Calls Tryz.prog 24 #[.agg (stkC g (.slice AU nU cU) (.slice AL nL cL)).toArray, .agg (viwC u (.slice AV nV cV)).toArray, .string ⟨nm.toArray⟩] w (fun e w' => e = .returned (.tuple #[.agg (cellsE (entO (firstB up u nm))).toArray, .bool (firstB up u nm).isSome]) ∧ Below w.heap.size w w') := by
  obtain ⟨W1, hW1⟩ : ∃ W1, (((w.alloc (.cells (stkC g (.slice AU nU cU) (.slice AL nL cL)).toArray 29)).alloc (.cells (viwC u (.slice AV nV cV)).toArray 32)).alloc (.cells ([.int .i64 0, .int .i64 0, .string ⟨#[]⟩] : List Value).toArray 49)) = W1 := ⟨_, rfl⟩
  obtain ⟨r0, r1, r2, hb1, hs1⟩ := rowA3 w _ _ _ _ _ _ hW1
  have hW1' : (((w.alloc (.cells #[.int .i64 g.a, .int .i64 g.b, .int .i64 g.c, .int .i64 g.d, .slice AU nU cU, .slice AL nL cL] 29)).alloc (.cells #[.int .i64 u, .slice AV nV cV] 32)).alloc (.cells #[.int .i64 0, .int .i64 0, .string ⟨#[]⟩] 49)) = W1 := hW1
  have R3 := hide r0
  have R4 := hide r1
  have R6 := hide r2
  have HB := hide hb1
  have hsz0 := hb1.size
  have HU := hide (hu.under hb1 hB)
  have HFU := hide hup
  obtain ⟨x, hx⟩ : ∃ x, nodAt up u = x := ⟨_, rfl⟩
  have HX := hide hx
  obtain ⟨FO, hFO⟩ : ∃ FO, firstB up u nm = FO := ⟨_, rfl⟩
  have hpx : PlainN x := by rw [← hx]; exact nodAt_plain hup.2 u
  have hx16 := hpx.2.2.2.2.1
  have HEL := hide (show x.k = 1 → entB up u = x.ents from fun hk => by unfold entB; rw [hx, if_pos hk])
  have HNL := hide (show x.k ≠ 1 → FO = none from fun hk => by rw [← hFO]; unfold firstB entB; rw [hx, if_neg hk]; rfl)
  rw [hFO]
  have HFO := hide hFO
  have q3_4 : W1.cell? ⟨w.heap.size, 4, none⟩ = some (.slice AU nU cU) := R3.out.cell 4
  have q4_0 : W1.cell? ⟨w.heap.size + 1, 0, none⟩ = some (.int .i64 u) := R4.out.cell 0
  unfold stkC viwC
  clear r0 r1 r2 hb1 hW1 hu hup hx hpx hFO
  go_enter Tryz.func24, Tryz.ntmps24
  go_wp2_with (first | (go_at_call 52; refine (At_e HX.out W1 HU.out (by omega) (by have := HFU.out.1; omega)).mono ?_; rintro e1 wN ⟨A1, n1, c1, C1, m1, d1, rfl, -, -, -, e5, hbel⟩; clear q3_4 q4_0; replace HB := hide (HB.out.trans (hbel.mono HB.out.size)); replace R3 := hide (R3.out.on hbel); replace R4 := hide (R4.out.on hbel); replace R6 := hide (R6.out.on hbel); replace HU := hide (HU.out.under hbel (by omega)); have hsz2 := hbel.size; have q3_4 : wN.cell? ⟨w.heap.size, 4, none⟩ = some (.slice AU nU cU) := R3.out.cell 4; have q4_0 : wN.cell? ⟨w.heap.size + 1, 0, none⟩ = some (.int .i64 u) := R4.out.cell 0; have HE := hide e5; clear e5; clear hbel) | (refine wpList_storeW rfl 71 (.tmp 8) (.tmp 14) rfl 13 nod_size (wN.heap.size) 71 rfl (nodC nod0 (.slice none 0 0) (.slice none 0 0)) (nodC x (.slice A1 n1 c1) (.slice C1 m1 d1)) rfl (RowL.new wN 71 (nodC nod0 (.slice none 0 0) (.slice none 0 0))) rfl rfl (nodC_one _ _ _ _ _ _ _) ?_; intro wS3 hr3 hg3 hs3; have hzb := below_stored' hg3; clear q3_4 q4_0; replace HB := hide (HB.out.trans (hzb.mono HB.out.size)); replace R3 := hide (R3.out.on hzb); replace R4 := hide (R4.out.on hzb); replace R6 := hide (R6.out.on hzb); replace HU := hide (HU.out.under hzb (by omega)); replace HE := hide (HE.out.under hzb (by omega)); have hsz4 := hzb.size; have q3_4 : wS3.cell? ⟨w.heap.size, 4, none⟩ = some (.slice AU nU cU) := R3.out.cell 4; have q4_0 : wS3.cell? ⟨w.heap.size + 1, 0, none⟩ = some (.int .i64 u) := R4.out.cell 0; have RN := hide hr3; have hlt3 := hr3.lt; have q8_5 : wS3.cell? ⟨wN.heap.size, 5, none⟩ = some (.slice C1 m1 d1) := RN.out.cell 5; have q8_0 : wS3.cell? ⟨wN.heap.size, 0, none⟩ = some (.int .i64 x.k) := RN.out.cell 0; clear hzb hr3; clear hg3 hs3))
  have HEM := hide HE.out.1
  have hm16 : m1 ≤ 16 := by have := HEM.out; omega
  clear hW1' q3_4 q4_0 q8_5 q8_0
  go_loopw [9] (fun v9 wr => ∃ j : Nat, j ≤ m1 ∧ v9 = .int .i64 j ∧ Below wS3.heap.size wS3 wr ∧ (x.ents.take j).find? (useB up nm) = none) (fun v9 _ => m1 - (intOf v9).toNat)
  case atStart => exact ⟨0, by omega, rfl, below_self _, by simp⟩
  case round =>
    obtain ⟨j, hj, rfl, hbr, hnone⟩ := hrel
    have HN := hide hnone
    replace HB := hide (HB.out.trans (hbr.mono HB.out.size))
    replace R3 := hide (R3.out.on hbr)
    replace R4 := hide (R4.out.on hbr)
    replace R6 := hide (R6.out.on hbr)
    replace HU := hide (HU.out.under hbr (by omega))
    replace HE := hide (HE.out.under hbr (by omega))
    replace RN := hide (RN.out.on hbr)
    have hsz5 := hbr.size
    have q3_4 : wr.cell? ⟨w.heap.size, 4, none⟩ = some (.slice AU nU cU) := R3.out.cell 4
    have q4_0 : wr.cell? ⟨w.heap.size + 1, 0, none⟩ = some (.int .i64 u) := R4.out.cell 0
    have q8_5 : wr.cell? ⟨wN.heap.size, 5, none⟩ = some (.slice C1 m1 d1) := RN.out.cell 5
    have q8_0 : wr.cell? ⟨wN.heap.size, 0, none⟩ = some (.int .i64 x.k) := RN.out.cell 0
    have HBR := hide hbr
    clear hbr hnone
    by_cases hlt : j < m1
    · have hjm : (j : Int) < (m1 : Int) := by omega
      by_cases hk : x.k = 1
      rotate_left
      · have hk1 : (x.k == 1) = false := by simpa using hk
        have eFO := HNL.out hk
        subst eFO
        go_wp2_with (first | (refine wpList_storeW rfl 49 (.tmp 6) (.tmp 53) rfl 3 entw_size (w.heap.size + 1 + 1) 49 rfl [.int .i64 0, .int .i64 0, .string ⟨#[]⟩] (cellsE ent0) rfl R6.out rfl rfl (cellsE_one _) ?_; intro wS6 hr6 hg6 hs6; clear q3_4 q4_0 q8_5 q8_0; replace HB := hide (HB.out.grown hg6 (by omega) (fun k hk => by have := Option.some.inj hk; omega)); replace R3 := hide (R3.out.grown hg6 (fun e => by have := Option.some.inj e; omega)); replace R4 := hide (R4.out.grown hg6 (fun e => by have := Option.some.inj e; omega)); replace HU := hide (und_grown HU.out hg6 (by omega) (by omega)); replace HE := hide (und_grown HE.out hg6 (by omega) (by omega)); replace RN := hide (RN.out.grown hg6 (fun e => by have := Option.some.inj e; omega)); have hsz7 := hg6.size; replace R6 := hide hr6; have q3_4 : wS6.cell? ⟨w.heap.size, 4, none⟩ = some (.slice AU nU cU) := R3.out.cell 4; have q4_0 : wS6.cell? ⟨w.heap.size + 1, 0, none⟩ = some (.int .i64 u) := R4.out.cell 0; have q8_5 : wS6.cell? ⟨wN.heap.size, 5, none⟩ = some (.slice C1 m1 d1) := RN.out.cell 5; have q8_0 : wS6.cell? ⟨wN.heap.size, 0, none⟩ = some (.int .i64 x.k) := RN.out.cell 0; clear hr6 hg6 hs6))
        exact bodyPost_ret (res_cell2 Tryz.results24 rfl rfl entw_agg entw_size R6.out rfl) rfl ⟨rfl, HB.out⟩
      have hk1 : (x.k == 1) = true := by simpa using hk
      obtain ⟨e, he⟩ : ∃ e, x.ents[j]? = some e := ⟨_, List.getElem?_eq_getElem (by have := HEM.out; omega)⟩
      obtain ⟨bE, oE, rfl, hbE, hcE⟩ := ent_get HE.out he
      have hbE' : bE < wr.heap.size := by have : bE < B := hbE; omega
      have HCE := hide hcE
      have HEJ := hide he
      obtain ⟨y, hy⟩ : ∃ y, nodAt up e.ino = y := ⟨_, rfl⟩
      have HY := hide hy
      obtain ⟨b2, hb2⟩ : ∃ b2, (y.k != 0) = b2 := ⟨_, rfl⟩
      clear hcE he
      go_wp2_with fail
      clear q3_4 q4_0 q8_5 q8_0
      by_cases hnm : e.name = nm
      rotate_left
      · have HU2 := hide (show useB up nm e = false from by unfold useB; simp [hnm])
        have hnb1 : (e.name == nm) = false := by simpa using hnm
        have hnb3 : ¬ ({ data := e.name.toArray } : ByteArray) = { data := nm.toArray } := by simpa using hnm
        clear hy hb2
        refine wp_region_planN (fun w' => Below wr.heap.size wr w') [(0, true), (1, true), (2, true), (3, true), (4, true), (5, true), (6, true), (7, true), (8, true), (9, true), (10, true), (11, true), (12, true), (13, true), (14, true), (15, true), (16, true), (17, false), (18, true), (19, true), (20, true)] (by kernel_rfl) (by kernel_rfl) (by kernel_rfl) (by kernel_rfl) rfl (fun _ _ _ _ _ h => h) (below_drew (below_self wr)) (fun hHeld => ?_)
        simp only [planOps, List.filterMap_cons, List.filterMap_nil, List.getElem?_toArray, List.getElem?_cons_succ, List.getElem?_cons_zero, Option.map_some]
        refine wpPlan_take (v := ?_) (by kernel_rfl) (fun wS hSw => ?_) ?_
        rotate_left
        · (try dsimp only at hSw); go_simp; (try with_reducible rfl)
        (try simp only [Act.put, List.setIfInBounds_toArray, List.set_cons_zero, List.set_cons_succ])
        refine wpPlan_take (v := ?_) (by kernel_rfl) (fun wS hSw => ?_) ?_
        rotate_left
        · have qx := ((RN.out.on hSw).cell 5).trans (show (nodC x (.slice A1 n1 c1) (.slice (some ⟨bE, oE, none⟩) m1 d1))[5]? = some (.slice (some ⟨bE, oE, none⟩) m1 d1) from rfl); go_simp; (try with_reducible rfl)
        (try simp only [Act.put, List.setIfInBounds_toArray, List.set_cons_zero, List.set_cons_succ])
        refine wpPlan_take (v := ?_) (by kernel_rfl) (fun wS hSw => ?_) ?_
        rotate_left
        · (try dsimp only at hSw); go_simp; (try with_reducible rfl)
        (try simp only [Act.put, List.setIfInBounds_toArray, List.set_cons_zero, List.set_cons_succ])
        refine wpPlan_take (v := ?_) (by kernel_rfl) (fun wS hSw => ?_) ?_
        rotate_left
        · (try dsimp only at hSw); go_simp; (try with_reducible rfl)
        (try simp only [Act.put, List.setIfInBounds_toArray, List.set_cons_zero, List.set_cons_succ])
        refine wpPlan_take (v := ?_) (by kernel_rfl) (fun wS hSw => ?_) ?_
        rotate_left
        · (try dsimp only at hSw); go_simp; (try with_reducible rfl)
        (try simp only [Act.put, List.setIfInBounds_toArray, List.set_cons_zero, List.set_cons_succ])
        refine wpPlan_take (v := ?_) (by kernel_rfl) (fun wS hSw => ?_) ?_
        rotate_left
        · have qx := (hSw.cell (p := ⟨bE, oE + j * 3 + 2, none⟩) hbE').trans (HCE.out 2 _ rfl); go_simp; (try with_reducible rfl)
        (try simp only [Act.put, List.setIfInBounds_toArray, List.set_cons_zero, List.set_cons_succ])
        refine wpPlan_take (v := ?_) (by kernel_rfl) (fun wS hSw => ?_) ?_
        rotate_left
        · (try dsimp only at hSw); go_simp; (try with_reducible rfl)
        (try simp only [Act.put, List.setIfInBounds_toArray, List.set_cons_zero, List.set_cons_succ])
        refine wpPlan_take (v := ?_) (by kernel_rfl) (fun wS hSw => ?_) ?_
        rotate_left
        · (try dsimp only at hSw); go_simp; (try with_reducible rfl)
        (try simp only [Act.put, List.setIfInBounds_toArray, List.set_cons_zero, List.set_cons_succ])
        refine wpPlan_take (v := ?_) (by kernel_rfl) (fun wS hSw => ?_) ?_
        rotate_left
        · (try dsimp only at hSw); go_simp; (try with_reducible rfl)
        (try simp only [Act.put, List.setIfInBounds_toArray, List.set_cons_zero, List.set_cons_succ])
        refine wpPlan_skip (by kernel_rfl) ?_
        (try simp only [Act.put, List.setIfInBounds_toArray, List.set_cons_zero, List.set_cons_succ])
        refine wpPlan_skip (by kernel_rfl) ?_
        (try simp only [Act.put, List.setIfInBounds_toArray, List.set_cons_zero, List.set_cons_succ])
        refine wpPlan_skip (by kernel_rfl) ?_
        (try simp only [Act.put, List.setIfInBounds_toArray, List.set_cons_zero, List.set_cons_succ])
        refine wpPlan_skip (by kernel_rfl) ?_
        (try simp only [Act.put, List.setIfInBounds_toArray, List.set_cons_zero, List.set_cons_succ])
        refine wpPlan_skip (by kernel_rfl) ?_
        (try simp only [Act.put, List.setIfInBounds_toArray, List.set_cons_zero, List.set_cons_succ])
        refine wpPlan_skip (by kernel_rfl) ?_
        (try simp only [Act.put, List.setIfInBounds_toArray, List.set_cons_zero, List.set_cons_succ])
        refine wpPlan_skip (by kernel_rfl) ?_
        (try simp only [Act.put, List.setIfInBounds_toArray, List.set_cons_zero, List.set_cons_succ])
        refine wpPlan_skip (by kernel_rfl) ?_
        (try simp only [Act.put, List.setIfInBounds_toArray, List.set_cons_zero, List.set_cons_succ])
        refine wpPlan_skip (by kernel_rfl) ?_
        (try simp only [Act.put, List.setIfInBounds_toArray, List.set_cons_zero, List.set_cons_succ])
        refine wpPlan_skip (by kernel_rfl) ?_
        (try simp only [Act.put, List.setIfInBounds_toArray, List.set_cons_zero, List.set_cons_succ])
        refine wpPlan_skip (by kernel_rfl) ?_
        (try simp only [Act.put, List.setIfInBounds_toArray, List.set_cons_zero, List.set_cons_succ])
        refine wpPlan_take (v := ?_) (by kernel_rfl) (fun wS hSw => ?_) ?_
        rotate_left
        · (try dsimp only at hSw); go_simp; (try with_reducible rfl)
        (try simp only [Act.put, List.setIfInBounds_toArray, List.set_cons_zero, List.set_cons_succ])
        refine wpPlan_end ?_
        have HBX := hide (HBR.out.trans (hHeld.mono HBR.out.size))
        clear hHeld
        go_wp2_with fail
        go_roundw
        case rel => exact ⟨j + 1, by omega, by go_num, HBX.out, find_take_none HN.out HEJ.out HU2.out⟩
        case measure => simp [intOf]; omega
      have HU2 := hide (show useB up nm e = b2 from by
        rw [← hb2, ← hy]
        unfold useB
        by_cases hk0 : (nodAt up e.ino).k = 0 <;> simp [hk0, hnm])
      subst hnm
      have hee : (e.name == e.name) = true := by simp
      clear hy
      cases b2
      · skip
        refine wp_region_planN (fun w' => Below wr.heap.size wr w') [(0, true), (1, true), (2, true), (3, true), (4, true), (5, true), (6, true), (7, true), (8, true), (9, true), (10, true), (11, true), (12, true), (13, true), (14, true), (15, true), (16, true), (17, false), (18, true), (19, true), (20, true)] (by kernel_rfl) (by kernel_rfl) (by kernel_rfl) (by kernel_rfl) rfl (fun _ _ _ _ _ h => h) (below_drew (below_self wr)) (fun hHeld => ?_)
        simp only [planOps, List.filterMap_cons, List.filterMap_nil, List.getElem?_toArray, List.getElem?_cons_succ, List.getElem?_cons_zero, Option.map_some]
        refine wpPlan_take (v := ?_) (by kernel_rfl) (fun wS hSw => ?_) ?_
        rotate_left
        · (try dsimp only at hSw); go_simp; (try with_reducible rfl)
        (try simp only [Act.put, List.setIfInBounds_toArray, List.set_cons_zero, List.set_cons_succ])
        refine wpPlan_take (v := ?_) (by kernel_rfl) (fun wS hSw => ?_) ?_
        rotate_left
        · have qx := ((RN.out.on hSw).cell 5).trans (show (nodC x (.slice A1 n1 c1) (.slice (some ⟨bE, oE, none⟩) m1 d1))[5]? = some (.slice (some ⟨bE, oE, none⟩) m1 d1) from rfl); go_simp; (try with_reducible rfl)
        (try simp only [Act.put, List.setIfInBounds_toArray, List.set_cons_zero, List.set_cons_succ])
        refine wpPlan_take (v := ?_) (by kernel_rfl) (fun wS hSw => ?_) ?_
        rotate_left
        · (try dsimp only at hSw); go_simp; (try with_reducible rfl)
        (try simp only [Act.put, List.setIfInBounds_toArray, List.set_cons_zero, List.set_cons_succ])
        refine wpPlan_take (v := ?_) (by kernel_rfl) (fun wS hSw => ?_) ?_
        rotate_left
        · (try dsimp only at hSw); go_simp; (try with_reducible rfl)
        (try simp only [Act.put, List.setIfInBounds_toArray, List.set_cons_zero, List.set_cons_succ])
        refine wpPlan_take (v := ?_) (by kernel_rfl) (fun wS hSw => ?_) ?_
        rotate_left
        · (try dsimp only at hSw); go_simp; (try with_reducible rfl)
        (try simp only [Act.put, List.setIfInBounds_toArray, List.set_cons_zero, List.set_cons_succ])
        refine wpPlan_take (v := ?_) (by kernel_rfl) (fun wS hSw => ?_) ?_
        rotate_left
        · have qx := (hSw.cell (p := ⟨bE, oE + j * 3 + 2, none⟩) hbE').trans (HCE.out 2 _ rfl); go_simp; (try with_reducible rfl)
        (try simp only [Act.put, List.setIfInBounds_toArray, List.set_cons_zero, List.set_cons_succ])
        refine wpPlan_take (v := ?_) (by kernel_rfl) (fun wS hSw => ?_) ?_
        rotate_left
        · (try dsimp only at hSw); go_simp; (try with_reducible rfl)
        (try simp only [Act.put, List.setIfInBounds_toArray, List.set_cons_zero, List.set_cons_succ])
        refine wpPlan_take (v := ?_) (by kernel_rfl) (fun wS hSw => ?_) ?_
        rotate_left
        · (try dsimp only at hSw); go_simp; (try with_reducible rfl)
        (try simp only [Act.put, List.setIfInBounds_toArray, List.set_cons_zero, List.set_cons_succ])
        refine wpPlan_take (v := ?_) (by kernel_rfl) (fun wS hSw => ?_) ?_
        rotate_left
        · (try dsimp only at hSw); go_simp; (try with_reducible rfl)
        (try simp only [Act.put, List.setIfInBounds_toArray, List.set_cons_zero, List.set_cons_succ])
        refine wpPlan_take (v := ?_) (by kernel_rfl) (fun wS hSw => ?_) ?_
        rotate_left
        · (try dsimp only at hSw); go_simp; (try with_reducible rfl)
        (try simp only [Act.put, List.setIfInBounds_toArray, List.set_cons_zero, List.set_cons_succ])
        refine wpPlan_take (v := ?_) (by kernel_rfl) (fun wS hSw => ?_) ?_
        rotate_left
        · have qx := ((R3.out.on hSw).cell 4).trans (show (stkC g (.slice AU nU cU) (.slice AL nL cL))[4]? = some (.slice AU nU cU) from rfl); go_simp; (try with_reducible rfl)
        (try simp only [Act.put, List.setIfInBounds_toArray, List.set_cons_zero, List.set_cons_succ])
        refine wpPlan_take (v := ?_) (by kernel_rfl) (fun wS hSw => ?_) ?_
        rotate_left
        · (try dsimp only at hSw); go_simp; (try with_reducible rfl)
        (try simp only [Act.put, List.setIfInBounds_toArray, List.set_cons_zero, List.set_cons_succ])
        refine wpPlan_take (v := ?_) (by kernel_rfl) (fun wS hSw => ?_) ?_
        rotate_left
        · have qx := ((RN.out.on hSw).cell 5).trans (show (nodC x (.slice A1 n1 c1) (.slice (some ⟨bE, oE, none⟩) m1 d1))[5]? = some (.slice (some ⟨bE, oE, none⟩) m1 d1) from rfl); go_simp; (try with_reducible rfl)
        (try simp only [Act.put, List.setIfInBounds_toArray, List.set_cons_zero, List.set_cons_succ])
        refine wpPlan_take (v := ?_) (by kernel_rfl) (fun wS hSw => ?_) ?_
        rotate_left
        · (try dsimp only at hSw); go_simp; (try with_reducible rfl)
        (try simp only [Act.put, List.setIfInBounds_toArray, List.set_cons_zero, List.set_cons_succ])
        refine wpPlan_take (v := ?_) (by kernel_rfl) (fun wS hSw => ?_) ?_
        rotate_left
        · (try dsimp only at hSw); go_simp; (try with_reducible rfl)
        (try simp only [Act.put, List.setIfInBounds_toArray, List.set_cons_zero, List.set_cons_succ])
        refine wpPlan_take (v := ?_) (by kernel_rfl) (fun wS hSw => ?_) ?_
        rotate_left
        · (try dsimp only at hSw); go_simp; (try with_reducible rfl)
        (try simp only [Act.put, List.setIfInBounds_toArray, List.set_cons_zero, List.set_cons_succ])
        refine wpPlan_take (v := ?_) (by kernel_rfl) (fun wS hSw => ?_) ?_
        rotate_left
        · have qx := (hSw.cell (p := ⟨bE, oE + j * 3 + 1, none⟩) hbE').trans (HCE.out 1 _ rfl); go_simp; (try with_reducible rfl)
        (try simp only [Act.put, List.setIfInBounds_toArray, List.set_cons_zero, List.set_cons_succ])
        refine wpPlan_call (by kernel_rfl) (fun K hK => ?_)
        have hOld := hide hHeld
        clear hHeld
        go_simp
        go_at_call 52
        refine (At_e HY.out (B := B) _ (HU.out.under hOld.out (by omega)) (by have := hOld.out.size; omega) (by have := HFU.out.1; omega)).mono ?_
        rintro e w' ⟨A9, n9, c9, C9, m9, d9, rfl, -, -, -, -, hbel⟩
        have hf0 := nod_f0 y (.slice A9 n9 c9) (.slice C9 m9 d9)
        refine hK.out _ _ (hOld.out.trans (hbel.mono hOld.out.size)) (fun hHeld => ?_)
        clear hK K
        (try simp only [Act.put, List.setIfInBounds_toArray, List.set_cons_zero, List.set_cons_succ])
        refine wpPlan_take (v := ?_) (by kernel_rfl) (fun wS hSw => ?_) ?_
        rotate_left
        · (try dsimp only at hSw); go_simp; (try with_reducible rfl)
        (try simp only [Act.put, List.setIfInBounds_toArray, List.set_cons_zero, List.set_cons_succ])
        refine wpPlan_take (v := ?_) (by kernel_rfl) (fun wS hSw => ?_) ?_
        rotate_left
        · (try dsimp only at hSw); go_simp; (try with_reducible rfl)
        (try simp only [Act.put, List.setIfInBounds_toArray, List.set_cons_zero, List.set_cons_succ])
        refine wpPlan_take (v := ?_) (by kernel_rfl) (fun wS hSw => ?_) ?_
        rotate_left
        · (try dsimp only at hSw); go_simp; (try with_reducible rfl)
        (try simp only [Act.put, List.setIfInBounds_toArray, List.set_cons_zero, List.set_cons_succ])
        refine wpPlan_end ?_
        have HBX := hide (HBR.out.trans (hHeld.mono HBR.out.size))
        clear hHeld
        go_wp2_with fail
        go_roundw
        case rel => exact ⟨j + 1, by omega, by go_num, HBX.out, find_take_none HN.out HEJ.out HU2.out⟩
        case measure => simp [intOf]; omega
      · skip
        refine wp_region_planN (fun w' => Below wr.heap.size wr w') [(0, true), (1, true), (2, true), (3, true), (4, true), (5, true), (6, true), (7, true), (8, true), (9, true), (10, true), (11, true), (12, true), (13, true), (14, true), (15, true), (16, true), (17, false), (18, true), (19, true), (20, true)] (by kernel_rfl) (by kernel_rfl) (by kernel_rfl) (by kernel_rfl) rfl (fun _ _ _ _ _ h => h) (below_drew (below_self wr)) (fun hHeld => ?_)
        simp only [planOps, List.filterMap_cons, List.filterMap_nil, List.getElem?_toArray, List.getElem?_cons_succ, List.getElem?_cons_zero, Option.map_some]
        refine wpPlan_take (v := ?_) (by kernel_rfl) (fun wS hSw => ?_) ?_
        rotate_left
        · (try dsimp only at hSw); go_simp; (try with_reducible rfl)
        (try simp only [Act.put, List.setIfInBounds_toArray, List.set_cons_zero, List.set_cons_succ])
        refine wpPlan_take (v := ?_) (by kernel_rfl) (fun wS hSw => ?_) ?_
        rotate_left
        · have qx := ((RN.out.on hSw).cell 5).trans (show (nodC x (.slice A1 n1 c1) (.slice (some ⟨bE, oE, none⟩) m1 d1))[5]? = some (.slice (some ⟨bE, oE, none⟩) m1 d1) from rfl); go_simp; (try with_reducible rfl)
        (try simp only [Act.put, List.setIfInBounds_toArray, List.set_cons_zero, List.set_cons_succ])
        refine wpPlan_take (v := ?_) (by kernel_rfl) (fun wS hSw => ?_) ?_
        rotate_left
        · (try dsimp only at hSw); go_simp; (try with_reducible rfl)
        (try simp only [Act.put, List.setIfInBounds_toArray, List.set_cons_zero, List.set_cons_succ])
        refine wpPlan_take (v := ?_) (by kernel_rfl) (fun wS hSw => ?_) ?_
        rotate_left
        · (try dsimp only at hSw); go_simp; (try with_reducible rfl)
        (try simp only [Act.put, List.setIfInBounds_toArray, List.set_cons_zero, List.set_cons_succ])
        refine wpPlan_take (v := ?_) (by kernel_rfl) (fun wS hSw => ?_) ?_
        rotate_left
        · (try dsimp only at hSw); go_simp; (try with_reducible rfl)
        (try simp only [Act.put, List.setIfInBounds_toArray, List.set_cons_zero, List.set_cons_succ])
        refine wpPlan_take (v := ?_) (by kernel_rfl) (fun wS hSw => ?_) ?_
        rotate_left
        · have qx := (hSw.cell (p := ⟨bE, oE + j * 3 + 2, none⟩) hbE').trans (HCE.out 2 _ rfl); go_simp; (try with_reducible rfl)
        (try simp only [Act.put, List.setIfInBounds_toArray, List.set_cons_zero, List.set_cons_succ])
        refine wpPlan_take (v := ?_) (by kernel_rfl) (fun wS hSw => ?_) ?_
        rotate_left
        · (try dsimp only at hSw); go_simp; (try with_reducible rfl)
        (try simp only [Act.put, List.setIfInBounds_toArray, List.set_cons_zero, List.set_cons_succ])
        refine wpPlan_take (v := ?_) (by kernel_rfl) (fun wS hSw => ?_) ?_
        rotate_left
        · (try dsimp only at hSw); go_simp; (try with_reducible rfl)
        (try simp only [Act.put, List.setIfInBounds_toArray, List.set_cons_zero, List.set_cons_succ])
        refine wpPlan_take (v := ?_) (by kernel_rfl) (fun wS hSw => ?_) ?_
        rotate_left
        · (try dsimp only at hSw); go_simp; (try with_reducible rfl)
        (try simp only [Act.put, List.setIfInBounds_toArray, List.set_cons_zero, List.set_cons_succ])
        refine wpPlan_take (v := ?_) (by kernel_rfl) (fun wS hSw => ?_) ?_
        rotate_left
        · (try dsimp only at hSw); go_simp; (try with_reducible rfl)
        (try simp only [Act.put, List.setIfInBounds_toArray, List.set_cons_zero, List.set_cons_succ])
        refine wpPlan_take (v := ?_) (by kernel_rfl) (fun wS hSw => ?_) ?_
        rotate_left
        · have qx := ((R3.out.on hSw).cell 4).trans (show (stkC g (.slice AU nU cU) (.slice AL nL cL))[4]? = some (.slice AU nU cU) from rfl); go_simp; (try with_reducible rfl)
        (try simp only [Act.put, List.setIfInBounds_toArray, List.set_cons_zero, List.set_cons_succ])
        refine wpPlan_take (v := ?_) (by kernel_rfl) (fun wS hSw => ?_) ?_
        rotate_left
        · (try dsimp only at hSw); go_simp; (try with_reducible rfl)
        (try simp only [Act.put, List.setIfInBounds_toArray, List.set_cons_zero, List.set_cons_succ])
        refine wpPlan_take (v := ?_) (by kernel_rfl) (fun wS hSw => ?_) ?_
        rotate_left
        · have qx := ((RN.out.on hSw).cell 5).trans (show (nodC x (.slice A1 n1 c1) (.slice (some ⟨bE, oE, none⟩) m1 d1))[5]? = some (.slice (some ⟨bE, oE, none⟩) m1 d1) from rfl); go_simp; (try with_reducible rfl)
        (try simp only [Act.put, List.setIfInBounds_toArray, List.set_cons_zero, List.set_cons_succ])
        refine wpPlan_take (v := ?_) (by kernel_rfl) (fun wS hSw => ?_) ?_
        rotate_left
        · (try dsimp only at hSw); go_simp; (try with_reducible rfl)
        (try simp only [Act.put, List.setIfInBounds_toArray, List.set_cons_zero, List.set_cons_succ])
        refine wpPlan_take (v := ?_) (by kernel_rfl) (fun wS hSw => ?_) ?_
        rotate_left
        · (try dsimp only at hSw); go_simp; (try with_reducible rfl)
        (try simp only [Act.put, List.setIfInBounds_toArray, List.set_cons_zero, List.set_cons_succ])
        refine wpPlan_take (v := ?_) (by kernel_rfl) (fun wS hSw => ?_) ?_
        rotate_left
        · (try dsimp only at hSw); go_simp; (try with_reducible rfl)
        (try simp only [Act.put, List.setIfInBounds_toArray, List.set_cons_zero, List.set_cons_succ])
        refine wpPlan_take (v := ?_) (by kernel_rfl) (fun wS hSw => ?_) ?_
        rotate_left
        · have qx := (hSw.cell (p := ⟨bE, oE + j * 3 + 1, none⟩) hbE').trans (HCE.out 1 _ rfl); go_simp; (try with_reducible rfl)
        (try simp only [Act.put, List.setIfInBounds_toArray, List.set_cons_zero, List.set_cons_succ])
        refine wpPlan_call (by kernel_rfl) (fun K hK => ?_)
        have hOld := hide hHeld
        clear hHeld
        go_simp
        go_at_call 52
        refine (At_e HY.out (B := B) _ (HU.out.under hOld.out (by omega)) (by have := hOld.out.size; omega) (by have := HFU.out.1; omega)).mono ?_
        rintro e w' ⟨A9, n9, c9, C9, m9, d9, rfl, -, -, -, -, hbel⟩
        have hf0 := nod_f0 y (.slice A9 n9 c9) (.slice C9 m9 d9)
        refine hK.out _ _ (hOld.out.trans (hbel.mono hOld.out.size)) (fun hHeld => ?_)
        clear hK K
        (try simp only [Act.put, List.setIfInBounds_toArray, List.set_cons_zero, List.set_cons_succ])
        refine wpPlan_take (v := ?_) (by kernel_rfl) (fun wS hSw => ?_) ?_
        rotate_left
        · (try dsimp only at hSw); go_simp; (try with_reducible rfl)
        (try simp only [Act.put, List.setIfInBounds_toArray, List.set_cons_zero, List.set_cons_succ])
        refine wpPlan_take (v := ?_) (by kernel_rfl) (fun wS hSw => ?_) ?_
        rotate_left
        · (try dsimp only at hSw); go_simp; (try with_reducible rfl)
        (try simp only [Act.put, List.setIfInBounds_toArray, List.set_cons_zero, List.set_cons_succ])
        refine wpPlan_take (v := ?_) (by kernel_rfl) (fun wS hSw => ?_) ?_
        rotate_left
        · (try dsimp only at hSw); go_simp; (try with_reducible rfl)
        (try simp only [Act.put, List.setIfInBounds_toArray, List.set_cons_zero, List.set_cons_succ])
        refine wpPlan_end ?_
        have eFO : FO = some e := by
          rw [← HFO.out]
          unfold firstB
          rw [HEL.out hk, find_take_some HN.out HEJ.out HU2.out]
        subst eFO
        replace HCE := hide (fun (j' : Nat) (v : Value) (hv : (cellsE e)[j']? = some v) => (hHeld.cell (p := ⟨bE, oE + j * 3 + j', none⟩) hbE').trans (HCE.out j' v hv))
        replace HB := hide (HB.out.trans (hHeld.mono HB.out.size))
        replace R3 := hide (R3.out.on hHeld)
        replace R4 := hide (R4.out.on hHeld)
        replace R6 := hide (R6.out.on hHeld)
        replace HU := hide (HU.out.under hHeld (by omega))
        replace HE := hide (HE.out.under hHeld (by omega))
        replace RN := hide (RN.out.on hHeld)
        have hsz6 := hHeld.size
        have q3_4 : w'.cell? ⟨w.heap.size, 4, none⟩ = some (.slice AU nU cU) := R3.out.cell 4
        have q4_0 : w'.cell? ⟨w.heap.size + 1, 0, none⟩ = some (.int .i64 u) := R4.out.cell 0
        have q8_5 : w'.cell? ⟨wN.heap.size, 5, none⟩ = some (.slice (some ⟨bE, oE, none⟩) m1 d1) := RN.out.cell 5
        have q8_0 : w'.cell? ⟨wN.heap.size, 0, none⟩ = some (.int .i64 x.k) := RN.out.cell 0
        clear hHeld
        go_wp2_with (first | (refine wpList_loadX rfl 49 (.tmp 51) rfl 3 entw_agg entw_size bE (oE + j * 3) rfl (cellsE e) HCE.out rfl ?_) | (refine wpList_storeW rfl 49 (.tmp 6) (.tmp 52) rfl 3 entw_size (w.heap.size + 1 + 1) 49 rfl [.int .i64 0, .int .i64 0, .string ⟨#[]⟩] (cellsE e) rfl R6.out rfl rfl (cellsE_one _) ?_; intro wS7 hr7 hg7 hs7; clear q3_4 q4_0 q8_5 q8_0; replace HB := hide (HB.out.grown hg7 (by omega) (fun k hk => by have := Option.some.inj hk; omega)); replace R3 := hide (R3.out.grown hg7 (fun e => by have := Option.some.inj e; omega)); replace R4 := hide (R4.out.grown hg7 (fun e => by have := Option.some.inj e; omega)); replace HU := hide (und_grown HU.out hg7 (by omega) (by omega)); replace HE := hide (und_grown HE.out hg7 (by omega) (by omega)); replace RN := hide (RN.out.grown hg7 (fun e => by have := Option.some.inj e; omega)); have hsz8 := hg7.size; replace R6 := hide hr7; have q3_4 : wS7.cell? ⟨w.heap.size, 4, none⟩ = some (.slice AU nU cU) := R3.out.cell 4; have q4_0 : wS7.cell? ⟨w.heap.size + 1, 0, none⟩ = some (.int .i64 u) := R4.out.cell 0; have q8_5 : wS7.cell? ⟨wN.heap.size, 5, none⟩ = some (.slice (some ⟨bE, oE, none⟩) m1 d1) := RN.out.cell 5; have q8_0 : wS7.cell? ⟨wN.heap.size, 0, none⟩ = some (.int .i64 x.k) := RN.out.cell 0; clear hr7 hg7 hs7))
        exact bodyPost_ret (res_cell2 Tryz.results24 rfl rfl entw_agg entw_size R6.out rfl) rfl ⟨rfl, HB.out⟩
    · obtain rfl : m1 = j := by omega
      have hjj : ¬ (m1 : Int) < (m1 : Int) := by omega
      have eFO : FO = none := by
        by_cases hk : x.k = 1
        · rw [← HFO.out]
          unfold firstB
          have h1 := HN.out
          rw [List.take_of_length_le (by have := HEM.out; omega)] at h1
          rw [HEL.out hk, h1]
        · exact HNL.out hk
      subst eFO
      go_wp2_with (first | (refine wpList_storeW rfl 49 (.tmp 6) (.tmp 53) rfl 3 entw_size (w.heap.size + 1 + 1) 49 rfl [.int .i64 0, .int .i64 0, .string ⟨#[]⟩] (cellsE ent0) rfl R6.out rfl rfl (cellsE_one _) ?_; intro wS6 hr6 hg6 hs6; clear q3_4 q4_0 q8_5 q8_0; replace HB := hide (HB.out.grown hg6 (by omega) (fun k hk => by have := Option.some.inj hk; omega)); replace R3 := hide (R3.out.grown hg6 (fun e => by have := Option.some.inj e; omega)); replace R4 := hide (R4.out.grown hg6 (fun e => by have := Option.some.inj e; omega)); replace HU := hide (und_grown HU.out hg6 (by omega) (by omega)); replace HE := hide (und_grown HE.out hg6 (by omega) (by omega)); replace RN := hide (RN.out.grown hg6 (fun e => by have := Option.some.inj e; omega)); have hsz7 := hg6.size; replace R6 := hide hr6; have q3_4 : wS6.cell? ⟨w.heap.size, 4, none⟩ = some (.slice AU nU cU) := R3.out.cell 4; have q4_0 : wS6.cell? ⟨w.heap.size + 1, 0, none⟩ = some (.int .i64 u) := R4.out.cell 0; have q8_5 : wS6.cell? ⟨wN.heap.size, 5, none⟩ = some (.slice C1 m1 d1) := RN.out.cell 5; have q8_0 : wS6.cell? ⟨wN.heap.size, 0, none⟩ = some (.int .i64 x.k) := RN.out.cell 0; clear hr6 hg6 hs6))
      exact bodyPost_ret (res_cell2 Tryz.results24 rfl rfl entw_agg entw_size R6.out rfl) rfl ⟨rfl, HB.out⟩
theorem REnt17_e {g : GeoQ} {AU AL : Option Addr} {nU cU nL cL B : Nat} {up : List NodV} {u : Int} {AV : Option Addr} {nV cV : Nat} {nm : List UInt8} {E : EntV} {b : Bool} (hE : entO (firstB up u nm) = E) (hb : (firstB up u nm).isSome = b) (w : World) (hu : RdE nodEn w (Under B) AU nU up) (hB : B ≤ w.heap.size) (hup : FewU up) : Calls Tryz.prog 24 #[.agg (stkC g (.slice AU nU cU) (.slice AL nL cL)).toArray, .agg (viwC u (.slice AV nV cV)).toArray, .string ⟨nm.toArray⟩] w (fun e w' => e = .returned (.tuple #[.agg (cellsE E).toArray, .bool b]) ∧ Below w.heap.size w w') := by
  subst hE hb
  exact REnt17_any w hu hB hup
end Go.Proofs.YtnehkgbdppbhiaaGreat

/- Contracts of cmp.Less and slices.IsSorted at strings. -/
namespace Go.Proofs.YtnehkgbdppbhiaaGreat
open Go.RowKit Plain

set_option maxHeartbeats 400000 in
theorem isNaN_any (x : List UInt8) (w : World) : Calls Tryz.prog 167 #[st x] w fun e w' => e = .returned (.bool false) ∧ w = w' := by
  show Calls _ _ #[.string ⟨x.toArray⟩] _ _
  have h : (x == x) = true := by simp
  go_enter Tryz.func167, Tryz.ntmps167
  go_wp2
  go_ret
  exact ⟨rfl, rfl⟩

set_option maxHeartbeats 400000 in
theorem Less_any (x y : List UInt8) (w : World) : Calls Tryz.prog 150 #[st x, st y] w fun e w' => e = .returned (.bool (lessS x y)) ∧ w = w' := by
  show Calls _ _ #[.string ⟨x.toArray⟩, .string ⟨y.toArray⟩] _ _
  obtain ⟨r, hr⟩ : ∃ r, Op.bytesLess x y = r := ⟨_, rfl⟩
  rw [show lessS x y = r from hr]
  go_enter Tryz.func150, Tryz.ntmps150
  go_wp2_with fail
  refine (isNaN_any _ _).mono ?_
  rintro e w' ⟨rfl, rfl⟩
  go_wp2_with fail
  go_ret
  exact ⟨rfl, rfl⟩
theorem Less_same {x y : List UInt8} {b : Bool} (h : lessS x y = b) (w : World) : Calls Tryz.prog 150 #[.string ⟨x.toArray⟩, .string ⟨y.toArray⟩] w fun e w' => e = .returned (.bool b) ∧ w' = w := by
  subst h
  exact (Less_any x y w).mono fun _ _ h => ⟨h.1, h.2.symm⟩

/-- A quiet call behind draws. -/
theorem quiet_addS {P : Program} {f : FuncId} {args : Array Value} {w : World} {a n : Nat} {v : Value}
    (h : Calls P f args (w.drewN (a + n)) fun e w' => e = .returned v ∧ w' = w.drewN (a + n)) :
    Calls P f args (w.drewN (a + n)) fun e w'' => e = .returned v ∧ ∃ m, w'' = w.drewN (a + m) :=
  h.mono fun _ _ ⟨he, hm⟩ => ⟨he, n, hm⟩

end Go.Proofs.YtnehkgbdppbhiaaGreat

/- The law LowerNames: its walk (layer 16). -/
namespace Go.Proofs.YtnehkgbdppbhiaaGreat
open Go.RowKit Go.Shelf Plain

theorem IdxS_any {A : Option Addr} {n c B : Nat} {l : List (List UInt8)} {v : List UInt8} (w : World) (h : Rd st w B A n l) (hn : n ≤ 1000000) :
    Calls Tryz.prog 69 #[.slice A n c, .string ⟨v.toArray⟩] w (fun e w' => ∃ i : Int, e = .returned (.int .i64 i) ∧ w = w' ∧ decide (0 ≤ i) = decide (v ∈ l)) := by
  have H := hide h
  have hl := h.len
  clear h
  go_enter Tryz.func69, Tryz.ntmps69
  go_wp2
  go_loopw [8] (fun v8 wr => ∃ j : Nat, j ≤ n ∧ v8 = .int .i64 j ∧ wr = w ∧ v ∉ l.take j) (fun v8 _ => n - (intOf v8).toNat)
  case atStart => exact ⟨0, by omega, rfl, rfl, by simp⟩
  case round =>
    obtain ⟨j, hj, rfl, hw, hno⟩ := hrel
    subst hw
    have HNO := hide hno
    clear hno
    by_cases hlt : j < n
    · obtain ⟨x, hx⟩ : ∃ x, l[j]? = some x := ⟨_, List.getElem?_eq_getElem (by omega)⟩
      obtain ⟨b, o, rfl, hb, q⟩ := st_cell H.out hx
      have HX := hide hx
      have hjn : (j : Int) < (n : Int) := by omega
      clear hx
      by_cases hv : v = x
      · subst hv
        have hm : decide (v ∈ l) = true := decide_eq_true (List.mem_of_getElem? HX.out)
        have HM := hide hm
        clear hm
        go_wp2_with fail
        go_ret
        exact ⟨(j : Int), rfl, rfl, by rw [HM.out]; simp⟩
      · have HNV := hide hv
        have hv2 : (v == x) = false := by simpa using hv
        clear hv
        go_wp2_with fail
        go_roundw
        case rel => exact ⟨j + 1, by omega, by go_num, (by first | rfl | trivial), fun hm => by
          rw [List.take_add_one, HX.out, List.mem_append] at hm
          rcases hm with hm | hm
          · exact HNO.out hm
          · simp at hm; exact HNV.out hm⟩
        case measure => simp [intOf]; omega
    · obtain rfl : j = n := by omega
      have hm : decide (v ∈ l) = false := by have := HNO.out; rw [List.take_of_length_le (by omega)] at this; exact decide_eq_false this
      have HM := hide hm
      clear hm
      go_wp2_with fail
      go_ret
      exact ⟨-1, rfl, rfl, by rw [HM.out]; rfl⟩
theorem ContS_b {A : Option Addr} {n c B : Nat} {l : List (List UInt8)} {v : List UInt8} {b : Bool} (hb : decide (v ∈ l) = b) (w : World) (h : Rd st w B A n l) (hn : n ≤ 1000000) :
    Calls Tryz.prog 23 #[.slice A n c, .string ⟨v.toArray⟩] w (fun e w' => e = .returned (.bool b) ∧ w = w') := by
  have H := hide h
  have HB := hide hb
  clear h hb
  go_enter Tryz.func23, Tryz.ntmps23
  go_wp2_with (go_at_call 69; refine (IdxS_any w H.out hn).mono ?_; rintro e w3 ⟨i, rfl, rfl, hi⟩; rw [HB.out] at hi)
  go_ret
  exact ⟨by first | rfl | (rw [hi]), rfl⟩
theorem find_told {ls : List (List NodV)} (nm : List UInt8) : ∀ (l : List (Int × Int)), (findL ls nm l []).1 ≠ 0 → ∃ p ∈ l, ∃ x, firstL ls p nm = some x
  | [], h => by unfold findL at h; simp at h
  | p :: r, h => by
    cases hx : firstL ls p nm with
    | some x => exact ⟨p, List.mem_cons_self, x, hx⟩
    | none =>
      unfold findL at h
      rw [hx] at h
      obtain ⟨q, hq, x, hqx⟩ := find_told nm r h
      exact ⟨q, List.mem_cons_of_mem _ hq, x, hqx⟩
theorem told_mem {ls : List (List NodV)} {l : List (Int × Int)} {nm : List UInt8} : decide (nm ∈ namesL ls l) = ((findL ls nm l []).1 != 0) := by
  rw [Bool.eq_iff_iff, decide_eq_true_iff]
  unfold namesL
  rw [List.mem_filter, (sortS_rising _).2]
  constructor
  · rintro ⟨-, h⟩
    unfold hidS at h
    simpa using h
  · intro h
    have h0 : (findL ls nm l []).1 ≠ 0 := by simpa using h
    refine ⟨?_, by unfold hidS; simpa using h0⟩
    obtain ⟨p, hp, x, hx⟩ := find_told nm l h0
    unfold firstL at hx
    rw [Option.map_eq_some_iff] at hx
    obtain ⟨e, he, -⟩ := hx
    have h1 := List.find?_some he
    have h2 := List.mem_of_find?_eq_some he
    unfold useE at h1
    simp only [Bool.and_eq_true, decide_eq_true_eq] at h1
    unfold allN
    exact List.mem_flatMap.2 ⟨p, hp, List.mem_map.2 ⟨e, h2, h1.1⟩⟩
theorem namesL_len {ls : List (List NodV)} (hF : FewL ls) (l : List (Int × Int)) : (namesL ls l).length ≤ 16 * l.length := Nat.le_trans (List.length_filter_le _ _) (Nat.le_trans (sortS_length _) (allN_len hF l))
end Go.Proofs.YtnehkgbdppbhiaaGreat

/- The law ViewNames: its walk (layer 17). -/
namespace Go.Proofs.YtnehkgbdppbhiaaGreat
open Go.RowKit Go.Shelf Plain

theorem Find_ev {g : GeoQ} {AU AL AP : Option Addr} {nU cU nL cL n cP : Nat} {ls : List (List NodV)} {l : List (Int × Int)} {nm : List UInt8} {B : Nat} {K : Int} {L : List (Int × Int)} (hR : findL ls nm l [] = (K, L)) (w : World) (h : RdE layEn w (Under B) AL nL ls) (hp : RdE prEn w (Under w.heap.size) AP n l) (hB : B ≤ w.heap.size) (hF : FewL ls) (hn : n ≤ 1000) :
    Calls Tryz.prog 25 #[.agg (stkC g (.slice AU nU cU) (.slice AL nL cL)).toArray, .slice AP n cP, .string ⟨nm.toArray⟩] w (FindRet w (K, L)) := Find_e hR w h hp hB hF hn
theorem lowStep_kind (ls : List (List NodV)) (vl : List (Int × Int)) (nm : List UInt8) : (lowStep ls vl nm).1 = (findL ls nm vl []).1 := by
  unfold lowStep noStep
  split
  · rename_i h; exact h.symm
  · split
    · rename_i h; exact h.symm
    · rfl
/-- What is told is found, and nothing else. -/
theorem shown_mem {up : List NodV} {ls : List (List NodV)} {u : Int} {vl : List (Int × Int)} {nm : List UInt8} : decide (nm ∈ namesV up ls (u, vl)) = ((stepV up ls (u, vl) nm).1 != 0) := by
  rw [Bool.eq_iff_iff, decide_eq_true_iff]
  unfold namesV
  rw [List.mem_filter, (sortS_rising _).2]
  constructor
  · rintro ⟨-, h⟩
    unfold hidV at h
    simpa using h
  · intro h
    have h0 : (stepV up ls (u, vl) nm).1 ≠ 0 := by simpa using h
    refine ⟨?_, by unfold hidV; simpa using h0⟩
    unfold allV
    rw [List.mem_append]
    cases ho : firstB up u nm with
    | some e =>
      obtain ⟨-, h1, h2⟩ := firstB_use ho
      exact .inr (List.mem_map.2 ⟨e, h2, h1⟩)
    | none =>
      left
      unfold stepV at h0
      dsimp only at h0
      rw [ho] at h0
      dsimp only at h0
      rw [lowStep_kind] at h0
      have := told_mem (ls := ls) (l := vl) (nm := nm)
      rw [show ((findL ls nm vl []).1 != 0) = true from by simpa using h0] at this
      exact of_decide_eq_true this
theorem few_upper {up : List NodV} (h : FewB 24 up) : FewU up := ⟨by have := h.1; omega, h.2⟩
set_option maxRecDepth 100000 in
set_option maxHeartbeats 8000000 in
theorem law_ViewNames {g : GeoQ} {AU AL : Option Addr} {nU cU nL cL : Nat} {up : List NodV} {ls : List (List NodV)} {nm : List UInt8} (w : World) (hu : RdE nodEn w (Under w.heap.size) AU nU up) (h : RdE layEn w (Under w.heap.size) AL nL ls) (hfu : FineN up) (hfl : ∀ ns ∈ ls, FineN ns) :
    Calls Tryz.prog 4 #[.agg (stkC g (.slice AU nU cU) (.slice AL nL cL)).toArray, .string ⟨nm.toArray⟩] w (LawOk w) := by
  obtain ⟨W1, hW1⟩ : ∃ W1, (w.alloc (.cells (stkC g (.slice AU nU cU) (.slice AL nL cL)).toArray 29)) = W1 := ⟨_, rfl⟩
  obtain ⟨r0, hb1, hs1⟩ := rowA1 w _ _ hW1
  have hW1' : (w.alloc (.cells #[.int .i64 g.a, .int .i64 g.b, .int .i64 g.c, .int .i64 g.d, .slice AU nU cU, .slice AL nL cL] 29)) = W1 := hW1
  have R2 := hide r0
  have HB := hide hb1
  have hsz0 := hb1.size
  have HU := hide (hu.under hb1 (Nat.le_refl _))
  have HL := hide (h.under hb1 (Nat.le_refl _))
  have HFN := hide hfu
  have HFL := hide hfl
  unfold stkC
  clear r0 hb1 hW1 hu h hfu hfl
  go_enter Tryz.func4, Tryz.ntmps4
  go_wp2_with (first | (refine wpList_loadW rfl 29 (.tmp 2) rfl 6 stk_agg stk_size (w.heap.size) 29 rfl (stkC g (.slice AU nU cU) (.slice AL nL cL)) R2.out rfl ?_))
  clear hW1'
  refine (PStack_any W1 (und_up HU.out (by omega)) (und_up HL.out (by omega)) HFN.out HFL.out).mono ?_
  rintro e w2 ⟨p, rfl, hb2, hq⟩
  have HQ := hide hq
  replace HB := hide (HB.out.trans (hb2.mono HB.out.size))
  replace R2 := hide (R2.out.on hb2)
  replace HU := hide (HU.out.under hb2 (by omega))
  replace HL := hide (HL.out.under hb2 (by omega))
  have hsz1 := hb2.size
  clear hq hb2
  cases p
  · go_wp2_with (first | (go_at_call 11; refine (awake17_any _).mono ?_; rintro e98 wz ⟨rfl, hbz⟩; replace HB := hide (HB.out.trans (hbz.mono HB.out.size)); clear hbz))
    go_ret
    exact LawOk.of HB.out
  by_cases hk : (40 : Int) < (nm.length : Int)
  · have dk : decide ((40 : Int) < (nm.length : Int)) = true := decide_eq_true hk
    go_wp2_with (first | (go_at_call 11; refine (awake17_any _).mono ?_; rintro e98 wz ⟨rfl, hbz⟩; replace HB := hide (HB.out.trans (hbz.mono HB.out.size)); clear hbz))
    go_ret
    exact LawOk.of HB.out
  have dk : decide ((40 : Int) < (nm.length : Int)) = false := decide_eq_false hk
  obtain ⟨hF, hfew⟩ := HQ.out (by first | rfl | trivial)
  have HF := hide hF
  have HFU := hide (few_upper hfew)
  obtain ⟨V, hV⟩ : ∃ V, rootV up ls = V := ⟨_, rfl⟩
  have hvl : V.2.length ≤ 3 := by
    rw [← hV]
    unfold rootV
    have h1 := rootsL_len ls 0
    have h2 := hF.1
    dsimp only
    split
    · simp
    · omega
  obtain ⟨u, vl⟩ := V
  have HV := hide hV
  have HVL := hide (show vl.length ≤ 3 from hvl)
  obtain ⟨L, hL⟩ : ∃ L, namesV up ls (u, vl) = L := ⟨_, rfl⟩
  have HNV := hide hL
  have hLl : L.length ≤ 1000 := by
    rw [← hL]
    refine Nat.le_trans (List.length_filter_le _ _) (Nat.le_trans (sortS_length _) ?_)
    unfold allV
    rw [List.length_append, List.length_map]
    have h1 : (namesL ls vl).length ≤ 16 * vl.length := Nat.le_trans (List.length_filter_le _ _) (Nat.le_trans (sortS_length _) (allN_len hF vl))
    have h2 := entB_len (few_upper hfew).2 u
    have h3 := HVL.out
    dsimp only
    omega
  clear hF hfew hk HQ HFN HFL hV hvl hL
  go_wp2_with (first | (refine wpList_loadW rfl 29 (.tmp 2) rfl 6 stk_agg stk_size (w.heap.size) 29 rfl (stkC g (.slice AU nU cU) (.slice AL nL cL)) R2.out rfl ?_) | (go_at_call 15; refine (VRoot_e HV.out w2 HU.out HL.out (by omega) HF.out HFU.out).mono ?_; rintro e2 wR ⟨A2, c2, rfl, h2, hbel⟩; have hnV : vl.length ≤ 1000 := (by have := HVL.out; omega); replace h2 : RdE prEn wR (Under wR.heap.size) A2 vl.length vl := fr_under h2; replace HB := hide (HB.out.trans (hbel.mono HB.out.size)); replace R2 := hide (R2.out.on hbel); replace HU := hide (HU.out.under hbel (by omega)); replace HL := hide (HL.out.under hbel (by omega)); have hsz3 := hbel.size; have HVW := hide h2; clear h2; clear hbel) | (refine wpList_storeW rfl 32 (.tmp 5) (.tmp 29) rfl 2 viw_size (wR.heap.size) 32 rfl (viwC 0 (.slice none 0 0)) (viwC u (.slice A2 vl.length c2)) rfl (RowL.new wR 32 (viwC 0 (.slice none 0 0))) rfl rfl (viwC_one _ _ _ _) ?_; intro wS4 hr4 hg4 hs4; have hzb := below_stored' hg4; replace HB := hide (HB.out.trans (hzb.mono HB.out.size)); replace R2 := hide (R2.out.on hzb); replace HU := hide (HU.out.under hzb (by omega)); replace HL := hide (HL.out.under hzb (by omega)); replace HVW := hide (HVW.out.under hzb (by omega)); have hsz5 := hzb.size; have RV := hide hr4; have hlt4 := hr4.lt; have q5_1 : wS4.cell? ⟨wR.heap.size, 1, none⟩ = some (.slice A2 vl.length c2) := RV.out.cell 1; clear hzb hr4; clear hg4 hs4) | (refine wpList_loadW rfl 29 (.tmp 2) rfl 6 stk_agg stk_size (w.heap.size) 29 rfl (stkC g (.slice AU nU cU) (.slice AL nL cL)) R2.out rfl ?_) | (refine wpList_loadW rfl 32 (.tmp 5) rfl 2 viw_agg viw_size (wR.heap.size) 32 rfl (viwC u (.slice A2 vl.length c2)) RV.out rfl ?_) | (go_at_call 21; refine (VNames_e (u := u) (cV := c2) HNV.out wS4 HU.out HL.out (by omega) HF.out HFU.out HVW.out (by omega) hnV).mono ?_; rintro e6 wN ⟨A6, n6, c6, rfl, h6, hbel⟩; clear q5_1; replace HB := hide (HB.out.trans (hbel.mono HB.out.size)); replace R2 := hide (R2.out.on hbel); replace HU := hide (HU.out.under hbel (by omega)); replace HL := hide (HL.out.under hbel (by omega)); replace HVW := hide (HVW.out.under hbel (by omega)); replace RV := hide (RV.out.on hbel); have hsz7 := hbel.size; have q5_1 : wN.cell? ⟨wR.heap.size, 1, none⟩ = some (.slice A2 vl.length c2) := RV.out.cell 1; have HN := hide h6; clear h6; clear hbel))
  have hn6 : n6 ≤ 1000 := by rw [← HN.out.rd.len]; exact hLl
  clear q5_1 hLl
  go_loopw [35] (fun v35 wr => ∃ j : Nat, j ≤ n6 ∧ v35 = .int .i64 j ∧ Below wN.heap.size wN wr) (fun v35 _ => n6 - (intOf v35).toNat)
  case atStart => exact ⟨0, by omega, rfl, below_self _⟩
  case round =>
    obtain ⟨j, hj, rfl, hbr⟩ := hrel
    have HBL := hide hbr
    replace HB := hide (HB.out.trans (hbr.mono HB.out.size))
    replace R2 := hide (R2.out.on hbr)
    replace HU := hide (HU.out.under hbr (by omega))
    replace HL := hide (HL.out.under hbr (by omega))
    replace HVW := hide (HVW.out.under hbr (by omega))
    replace RV := hide (RV.out.on hbr)
    replace HN := hide (HN.out.below hbr)
    have hsz8 := hbr.size
    have q5_1 : wr.cell? ⟨wR.heap.size, 1, none⟩ = some (.slice A2 vl.length c2) := RV.out.cell 1
    clear hbr
    by_cases hlt : j < n6
    · obtain ⟨x, hx⟩ : ∃ x, L[j]? = some x := ⟨_, List.getElem?_eq_getElem (by have := HN.out.rd.len; omega)⟩
      obtain ⟨bS, oS, rfl, hbS, qS⟩ := st_cell HN.out.rd hx
      obtain ⟨S, hS⟩ : ∃ S, stepV up ls (u, vl) x = S := ⟨_, rfl⟩
      have HS := hide hS
      have hk0 : (S.1 == 0) = false := by
        have h1 := shown_mem (up := up) (ls := ls) (u := u) (vl := vl) (nm := x)
        rw [HNV.out, decide_eq_true (List.mem_of_getElem? hx), hS] at h1
        simpa using h1.symm
      have hjn : (j : Int) < (n6 : Int) := by omega
      clear hx hS
      go_wp2_with (first | (refine wpList_loadW rfl 29 (.tmp 2) rfl 6 stk_agg stk_size (w.heap.size) 29 rfl (stkC g (.slice AU nU cU) (.slice AL nL cL)) R2.out rfl ?_) | (refine wpList_loadW rfl 32 (.tmp 5) rfl 2 viw_agg viw_size (wR.heap.size) 32 rfl (viwC u (.slice A2 vl.length c2)) RV.out rfl ?_) | (go_at_call 12; refine (VStep_any (u := u) (cV := c2) HS.out wr HU.out HL.out (by omega) HF.out HFU.out HVW.out (by omega) hnV).mono ?_; rintro e9 wS ⟨A3, c3, rfl, -, hbel⟩; clear q5_1; replace HB := hide (HB.out.trans (hbel.mono HB.out.size)); replace R2 := hide (R2.out.on hbel); replace HU := hide (HU.out.under hbel (by omega)); replace HL := hide (HL.out.under hbel (by omega)); replace HVW := hide (HVW.out.under hbel (by omega)); replace RV := hide (RV.out.on hbel); replace HN := hide (HN.out.below hbel); replace HBL := hide (HBL.out.trans (hbel.mono (by omega))); have hsz10 := hbel.size; have q5_1 : wS.cell? ⟨wR.heap.size, 1, none⟩ = some (.slice A2 vl.length c2) := RV.out.cell 1; clear hbel) | (obtain ⟨hz10, hz11, hzb, hzs⟩ := rows2 wS (viwC 0 (.slice none 0 0)) (prC (0, 0)) 32 36; refine wpList_storeW rfl 32 (.tmp 10) (.tmp 45) rfl 2 viw_size (wS.heap.size) 32 rfl (viwC 0 (.slice none 0 0)) (viwC S.2.1.1 (.slice A3 S.2.1.2.length c3)) rfl hz10 rfl rfl (viwC_one _ _ _ _) ?_; intro wS11 hr11 hg11 hs11; replace hzb := hzb.grown hg11 hzb.size (fun k hk => by have := Option.some.inj hk; omega); replace hz11 := hz11.grown hg11 (fun e => by have := Option.some.inj e; omega); have hz10 := hr11; clear hg11 hs11 hr11) | (refine wpList_storeW rfl 36 (.tmp 11) (.tmp 46) rfl 2 plc_size (wS.heap.size + 1) 36 rfl (prC (0, 0)) (prC S.2.2) rfl hz11 rfl rfl (prC_one _) ?_; intro wS12 hr12 hg12 hs12; replace hzb := hzb.grown hg12 hzb.size (fun k hk => by have := Option.some.inj hk; omega); replace hz10 := hz10.grown hg12 (fun e => by have := Option.some.inj e; omega); have hz11 := hr12; clear q5_1; replace HB := hide (HB.out.trans (hzb.mono HB.out.size)); replace R2 := hide (R2.out.on hzb); replace HU := hide (HU.out.under hzb (by omega)); replace HL := hide (HL.out.under hzb (by omega)); replace HVW := hide (HVW.out.under hzb (by omega)); replace RV := hide (RV.out.on hzb); replace HN := hide (HN.out.below hzb); replace HBL := hide (HBL.out.trans (hzb.mono (by omega))); have hsz13 := hzb.size; have q5_1 : wS12.cell? ⟨wR.heap.size, 1, none⟩ = some (.slice A2 vl.length c2) := RV.out.cell 1; have RA := hide hz10; have hlt11 := hz10.lt; have RP := hide hz11; have hlt12 := hz11.lt; clear hzb hzs hz10 hz11; clear hg12 hs12))
      go_roundw
      case rel => exact ⟨j + 1, by omega, by go_num, HBL.out⟩
      case measure => simp [intOf]; omega
    · obtain rfl : n6 = j := by omega
      obtain ⟨S, hS⟩ : ∃ S, stepV up ls (u, vl) nm = S := ⟨_, rfl⟩
      have HS := hide hS
      obtain ⟨b, hb⟩ : ∃ b, decide (nm ∈ L) = b := ⟨_, rfl⟩
      have HC := hide hb
      have hsb : (S.1 != 0) = b := by
        have h1 := shown_mem (up := up) (ls := ls) (u := u) (vl := vl) (nm := nm)
        rw [HNV.out, hS, hb] at h1
        exact h1.symm
      have hbb : (b != b) = false := by simp
      obtain ⟨E, hE⟩ : ∃ E, entO (firstB up u nm) = E := ⟨_, rfl⟩
      have HE := hide hE
      cases ho : firstB up u nm with
      | some e0 =>
        have HBO := hide (show (firstB up u nm).isSome = true from by rw [ho]; rfl)
        clear hS hb hE ho
        go_wp2_with (first | (refine wpList_loadW rfl 29 (.tmp 2) rfl 6 stk_agg stk_size (w.heap.size) 29 rfl (stkC g (.slice AU nU cU) (.slice AL nL cL)) R2.out rfl ?_) | (refine wpList_loadW rfl 32 (.tmp 5) rfl 2 viw_agg viw_size (wR.heap.size) 32 rfl (viwC u (.slice A2 vl.length c2)) RV.out rfl ?_) | (go_at_call 12; refine (VStep_any (u := u) (cV := c2) HS.out wr HU.out HL.out (by omega) HF.out HFU.out HVW.out (by omega) hnV).mono ?_; rintro e9 wS ⟨A3, c3, rfl, -, hbel⟩; clear q5_1; replace HB := hide (HB.out.trans (hbel.mono HB.out.size)); replace R2 := hide (R2.out.on hbel); replace HU := hide (HU.out.under hbel (by omega)); replace HL := hide (HL.out.under hbel (by omega)); replace HVW := hide (HVW.out.under hbel (by omega)); replace RV := hide (RV.out.on hbel); replace HN := hide (HN.out.below hbel); replace HBL := hide (HBL.out.trans (hbel.mono (by omega))); have hsz10 := hbel.size; have q5_1 : wS.cell? ⟨wR.heap.size, 1, none⟩ = some (.slice A2 vl.length c2) := RV.out.cell 1; clear hbel) | (obtain ⟨hz13, hz14, hzb, hzs⟩ := rows2 wS (viwC 0 (.slice none 0 0)) (prC (0, 0)) 32 36; refine wpList_storeW rfl 32 (.tmp 13) (.tmp 56) rfl 2 viw_size (wS.heap.size) 32 rfl (viwC 0 (.slice none 0 0)) (viwC S.2.1.1 (.slice A3 S.2.1.2.length c3)) rfl hz13 rfl rfl (viwC_one _ _ _ _) ?_; intro wS11 hr11 hg11 hs11; replace hzb := hzb.grown hg11 hzb.size (fun k hk => by have := Option.some.inj hk; omega); replace hz14 := hz14.grown hg11 (fun e => by have := Option.some.inj e; omega); have hz13 := hr11; clear hg11 hs11 hr11) | (refine wpList_storeW rfl 36 (.tmp 14) (.tmp 57) rfl 2 plc_size (wS.heap.size + 1) 36 rfl (prC (0, 0)) (prC S.2.2) rfl hz14 rfl rfl (prC_one _) ?_; intro wS12 hr12 hg12 hs12; replace hzb := hzb.grown hg12 hzb.size (fun k hk => by have := Option.some.inj hk; omega); replace hz13 := hz13.grown hg12 (fun e => by have := Option.some.inj e; omega); have hz14 := hr12; clear q5_1; replace HB := hide (HB.out.trans (hzb.mono HB.out.size)); replace R2 := hide (R2.out.on hzb); replace HU := hide (HU.out.under hzb (by omega)); replace HL := hide (HL.out.under hzb (by omega)); replace HVW := hide (HVW.out.under hzb (by omega)); replace RV := hide (RV.out.on hzb); replace HN := hide (HN.out.below hzb); replace HBL := hide (HBL.out.trans (hzb.mono (by omega))); have hsz13 := hzb.size; have q5_1 : wS12.cell? ⟨wR.heap.size, 1, none⟩ = some (.slice A2 vl.length c2) := RV.out.cell 1; have RA := hide hz13; have hlt11 := hz13.lt; have RP := hide hz14; have hlt12 := hz14.lt; clear hzb hzs hz13 hz14; clear hg12 hs12) | (go_at_call 23; refine (ContS_b HC.out wS12 HN.out.rd (by omega)).mono ?_; rintro e77 wK ⟨rfl, rfl⟩) | (refine wpList_loadW rfl 29 (.tmp 2) rfl 6 stk_agg stk_size (w.heap.size) 29 rfl (stkC g (.slice AU nU cU) (.slice AL nL cL)) R2.out rfl ?_) | (refine wpList_loadW rfl 32 (.tmp 5) rfl 2 viw_agg viw_size (wR.heap.size) 32 rfl (viwC u (.slice A2 vl.length c2)) RV.out rfl ?_) | (go_at_call 24; refine (REnt17_e (u := u) (nV := vl.length) (cV := c2) HE.out HBO.out wS12 HU.out (by omega) HFU.out).mono ?_; rintro e14 wE ⟨rfl, hbel⟩; clear q5_1; replace HB := hide (HB.out.trans (hbel.mono HB.out.size)); replace R2 := hide (R2.out.on hbel); replace HU := hide (HU.out.under hbel (by omega)); replace HL := hide (HL.out.under hbel (by omega)); replace HVW := hide (HVW.out.under hbel (by omega)); replace RV := hide (RV.out.on hbel); replace HN := hide (HN.out.below hbel); replace HBL := hide (HBL.out.trans (hbel.mono (by omega))); replace RA := hide (RA.out.on hbel); replace RP := hide (RP.out.on hbel); have hsz15 := hbel.size; have q5_1 : wE.cell? ⟨wR.heap.size, 1, none⟩ = some (.slice A2 vl.length c2) := RV.out.cell 1; clear hbel) | (refine wpList_storeW rfl 49 (.tmp 15) (.tmp 69) rfl 3 entw_size (wE.heap.size) 49 rfl [.int .i64 0, .int .i64 0, .string ⟨#[]⟩] (cellsE E) rfl (RowL.new wE 49 [.int .i64 0, .int .i64 0, .string ⟨#[]⟩]) rfl rfl (cellsE_one _) ?_; intro wS16 hr16 hg16 hs16; have hzb := below_stored' hg16; clear q5_1; replace HB := hide (HB.out.trans (hzb.mono HB.out.size)); replace R2 := hide (R2.out.on hzb); replace HU := hide (HU.out.under hzb (by omega)); replace HL := hide (HL.out.under hzb (by omega)); replace HVW := hide (HVW.out.under hzb (by omega)); replace RV := hide (RV.out.on hzb); replace HN := hide (HN.out.below hzb); replace HBL := hide (HBL.out.trans (hzb.mono (by omega))); replace RA := hide (RA.out.on hzb); replace RP := hide (RP.out.on hzb); have hsz17 := hzb.size; have q5_1 : wS16.cell? ⟨wR.heap.size, 1, none⟩ = some (.slice A2 vl.length c2) := RV.out.cell 1; have RE := hide hr16; have hlt16 := hr16.lt; clear hzb hr16; clear hg16 hs16) | (go_at_call 11; refine (awake17_any _).mono ?_; rintro e98 wz ⟨rfl, hbz⟩; replace HB := hide (HB.out.trans (hbz.mono HB.out.size)); clear hbz))
        go_ret
        exact LawOk.of HB.out
      | none =>
        have HBO := hide (show (firstB up u nm).isSome = false from by rw [ho]; rfl)
        obtain ⟨R, hR⟩ : ∃ R, findL ls nm vl [] = R := ⟨_, rfl⟩
        obtain ⟨K, L9⟩ := R
        have HFI := hide hR
        have hSK : S.1 = K := by
          rw [← hS]
          unfold stepV
          dsimp only
          rw [ho]
          dsimp only
          rw [lowStep_kind, hR]
        have hkk : (S.1 == K) = true := by rw [hSK]; simp
        clear hS hb hE ho hR hSK
        go_wp2_with (first | (refine wpList_loadW rfl 29 (.tmp 2) rfl 6 stk_agg stk_size (w.heap.size) 29 rfl (stkC g (.slice AU nU cU) (.slice AL nL cL)) R2.out rfl ?_) | (refine wpList_loadW rfl 32 (.tmp 5) rfl 2 viw_agg viw_size (wR.heap.size) 32 rfl (viwC u (.slice A2 vl.length c2)) RV.out rfl ?_) | (go_at_call 12; refine (VStep_any (u := u) (cV := c2) HS.out wr HU.out HL.out (by omega) HF.out HFU.out HVW.out (by omega) hnV).mono ?_; rintro e9 wS ⟨A3, c3, rfl, -, hbel⟩; clear q5_1; replace HB := hide (HB.out.trans (hbel.mono HB.out.size)); replace R2 := hide (R2.out.on hbel); replace HU := hide (HU.out.under hbel (by omega)); replace HL := hide (HL.out.under hbel (by omega)); replace HVW := hide (HVW.out.under hbel (by omega)); replace RV := hide (RV.out.on hbel); replace HN := hide (HN.out.below hbel); replace HBL := hide (HBL.out.trans (hbel.mono (by omega))); have hsz10 := hbel.size; have q5_1 : wS.cell? ⟨wR.heap.size, 1, none⟩ = some (.slice A2 vl.length c2) := RV.out.cell 1; clear hbel) | (obtain ⟨hz13, hz14, hzb, hzs⟩ := rows2 wS (viwC 0 (.slice none 0 0)) (prC (0, 0)) 32 36; refine wpList_storeW rfl 32 (.tmp 13) (.tmp 56) rfl 2 viw_size (wS.heap.size) 32 rfl (viwC 0 (.slice none 0 0)) (viwC S.2.1.1 (.slice A3 S.2.1.2.length c3)) rfl hz13 rfl rfl (viwC_one _ _ _ _) ?_; intro wS11 hr11 hg11 hs11; replace hzb := hzb.grown hg11 hzb.size (fun k hk => by have := Option.some.inj hk; omega); replace hz14 := hz14.grown hg11 (fun e => by have := Option.some.inj e; omega); have hz13 := hr11; clear hg11 hs11 hr11) | (refine wpList_storeW rfl 36 (.tmp 14) (.tmp 57) rfl 2 plc_size (wS.heap.size + 1) 36 rfl (prC (0, 0)) (prC S.2.2) rfl hz14 rfl rfl (prC_one _) ?_; intro wS12 hr12 hg12 hs12; replace hzb := hzb.grown hg12 hzb.size (fun k hk => by have := Option.some.inj hk; omega); replace hz13 := hz13.grown hg12 (fun e => by have := Option.some.inj e; omega); have hz14 := hr12; clear q5_1; replace HB := hide (HB.out.trans (hzb.mono HB.out.size)); replace R2 := hide (R2.out.on hzb); replace HU := hide (HU.out.under hzb (by omega)); replace HL := hide (HL.out.under hzb (by omega)); replace HVW := hide (HVW.out.under hzb (by omega)); replace RV := hide (RV.out.on hzb); replace HN := hide (HN.out.below hzb); replace HBL := hide (HBL.out.trans (hzb.mono (by omega))); have hsz13 := hzb.size; have q5_1 : wS12.cell? ⟨wR.heap.size, 1, none⟩ = some (.slice A2 vl.length c2) := RV.out.cell 1; have RA := hide hz13; have hlt11 := hz13.lt; have RP := hide hz14; have hlt12 := hz14.lt; clear hzb hzs hz13 hz14; clear hg12 hs12) | (go_at_call 23; refine (ContS_b HC.out wS12 HN.out.rd (by omega)).mono ?_; rintro e77 wK ⟨rfl, rfl⟩) | (refine wpList_loadW rfl 29 (.tmp 2) rfl 6 stk_agg stk_size (w.heap.size) 29 rfl (stkC g (.slice AU nU cU) (.slice AL nL cL)) R2.out rfl ?_) | (refine wpList_loadW rfl 32 (.tmp 5) rfl 2 viw_agg viw_size (wR.heap.size) 32 rfl (viwC u (.slice A2 vl.length c2)) RV.out rfl ?_) | (go_at_call 24; refine (REnt17_e (u := u) (nV := vl.length) (cV := c2) HE.out HBO.out wS12 HU.out (by omega) HFU.out).mono ?_; rintro e14 wE ⟨rfl, hbel⟩; clear q5_1; replace HB := hide (HB.out.trans (hbel.mono HB.out.size)); replace R2 := hide (R2.out.on hbel); replace HU := hide (HU.out.under hbel (by omega)); replace HL := hide (HL.out.under hbel (by omega)); replace HVW := hide (HVW.out.under hbel (by omega)); replace RV := hide (RV.out.on hbel); replace HN := hide (HN.out.below hbel); replace HBL := hide (HBL.out.trans (hbel.mono (by omega))); replace RA := hide (RA.out.on hbel); replace RP := hide (RP.out.on hbel); have hsz15 := hbel.size; have q5_1 : wE.cell? ⟨wR.heap.size, 1, none⟩ = some (.slice A2 vl.length c2) := RV.out.cell 1; clear hbel) | (refine wpList_storeW rfl 49 (.tmp 15) (.tmp 69) rfl 3 entw_size (wE.heap.size) 49 rfl [.int .i64 0, .int .i64 0, .string ⟨#[]⟩] (cellsE E) rfl (RowL.new wE 49 [.int .i64 0, .int .i64 0, .string ⟨#[]⟩]) rfl rfl (cellsE_one _) ?_; intro wS16 hr16 hg16 hs16; have hzb := below_stored' hg16; clear q5_1; replace HB := hide (HB.out.trans (hzb.mono HB.out.size)); replace R2 := hide (R2.out.on hzb); replace HU := hide (HU.out.under hzb (by omega)); replace HL := hide (HL.out.under hzb (by omega)); replace HVW := hide (HVW.out.under hzb (by omega)); replace RV := hide (RV.out.on hzb); replace HN := hide (HN.out.below hzb); replace HBL := hide (HBL.out.trans (hzb.mono (by omega))); replace RA := hide (RA.out.on hzb); replace RP := hide (RP.out.on hzb); have hsz17 := hzb.size; have q5_1 : wS16.cell? ⟨wR.heap.size, 1, none⟩ = some (.slice A2 vl.length c2) := RV.out.cell 1; have RE := hide hr16; have hlt16 := hr16.lt; clear hzb hr16; clear hg16 hs16) | (refine wpList_loadW rfl 29 (.tmp 2) rfl 6 stk_agg stk_size (w.heap.size) 29 rfl (stkC g (.slice AU nU cU) (.slice AL nL cL)) R2.out rfl ?_) | (go_at_call 25; refine (Find_ev HFI.out wS16 HL.out (und_up HVW.out (by omega)) (by omega) HF.out hnV).mono ?_; rintro e18 wF ⟨A9, c9, rfl, -, -, hbel⟩; clear q5_1; replace HB := hide (HB.out.trans (hbel.mono HB.out.size)); replace R2 := hide (R2.out.on hbel); replace HU := hide (HU.out.under hbel (by omega)); replace HL := hide (HL.out.under hbel (by omega)); replace HVW := hide (HVW.out.under hbel (by omega)); replace RV := hide (RV.out.on hbel); replace HN := hide (HN.out.below hbel); replace HBL := hide (HBL.out.trans (hbel.mono (by omega))); replace RA := hide (RA.out.on hbel); replace RP := hide (RP.out.on hbel); replace RE := hide (RE.out.on hbel); have hsz19 := hbel.size; have q5_1 : wF.cell? ⟨wR.heap.size, 1, none⟩ = some (.slice A2 vl.length c2) := RV.out.cell 1; clear hbel) | (go_at_call 11; refine (awake17_any _).mono ?_; rintro e98 wz ⟨rfl, hbz⟩; replace HB := hide (HB.out.trans (hbz.mono HB.out.size)); clear hbz))
        go_ret
        exact LawOk.of HB.out
end Go.Proofs.YtnehkgbdppbhiaaGreat

/- A stack and a list of places that came in, opened. -/
namespace Go.Proofs.YtnehkgbdppbhiaaGreat
open Go.RowKit Go.Shelf Plain Go.WideShapes Go.ChangeShapes

section
variable {H : Type} {enc : TypeId × Value → H} {w : World} {spare : Nat → Bool} {held : Bool}
theorem six_ {l : List Value} (h : l.length = 6) : ∃ a b c d e f, l = [a, b, c, d, e, f] := by
  match l, h with
  | [a, b, c, d, e, f], _ => exact ⟨a, b, c, d, e, f, rfl⟩
theorem two_ {l : List Value} (h : l.length = 2) : ∃ a b, l = [a, b] := by
  match l, h with
  | [a, b], _ => exact ⟨a, b, rfl⟩
set_option maxRecDepth 100000 in
theorem trod_lay {fuel : Nat} {cs : List Value} {y : DataW H × List MemPlace} (hl : cs.length = 1) (h : DataW.trod enc Tryz.prog w 0 spare held fuel 26 cs = some y) : ∃ x : List NodV, layEn.R w (Under w.heap.size) cs x ∧ ∀ d ∈ x, d.ents.length ≤ maxLen := by
  obtain ⟨c0, rfl⟩ := one_cell hl
  obtain ⟨xs, n, -, -, -, hlen, hp⟩ := DataW.trod_struct Tryz.underlying26 h
  match xs, hlen, hp with
  | [x0], _, hp =>
    obtain ⟨A, n, c, ns, e1, hn, -, r, hfine⟩ := open_rdeF (e := 71) (cs := [c0]) nodEn (fun x => x.ents.length ≤ maxLen) Tryz.underlying24 (by kernel_rfl) (by decide) (fun _ cs _ hl hy => trod_node hl hy) (hp 0 _ rfl)
    cases e1
    exact ⟨ns, ⟨A, n, c, rfl, hn, r⟩, hfine⟩
set_option maxRecDepth 100000 in
theorem trod_plc {fuel : Nat} {cs : List Value} {y : DataW H × List MemPlace} (hl : cs.length = 2) (h : DataW.trod enc Tryz.prog w 0 spare held fuel 36 cs = some y) : ∃ x : Int × Int, prEn.R w (Under w.heap.size) cs x := by
  obtain ⟨c0, c1, rfl⟩ := two_ hl
  obtain ⟨xs, n, -, -, -, hlen, hp⟩ := DataW.trod_struct Tryz.underlying36 h
  match xs, hlen, hp with
  | [x0, x1], _, hp =>
    obtain ⟨a0, rfl⟩ := cell_i64 (c := c0) (hp 0 _ rfl)
    obtain ⟨a1, rfl⟩ := cell_i64 (c := c1) (hp 1 _ rfl)
    exact ⟨(a0, a1), rfl⟩
set_option maxRecDepth 100000 in
theorem open_stack {r : Reach} {b0 : Nat} {v : Value} {d : DataW H} {p : List MemPlace} (hv : Value.okWide Tryz.prog w r b0 29 v) (h : DataW.Trod enc Tryz.prog w 0 spare held 29 v d p) :
    ∃ (g : GeoQ) (AU AL : Option Addr) (nU cU nL cL : Nat) (up : List NodV) (ls : List (List NodV)), v = .agg (stkC g (.slice AU nU cU) (.slice AL nL cL)).toArray ∧ nU ≤ cU ∧ nL ≤ cL ∧ RdE nodEn w (Under w.heap.size) AU nU up ∧ RdE layEn w (Under w.heap.size) AL nL ls ∧ (∀ x ∈ up, x.ents.length ≤ maxLen) ∧ ∀ ns ∈ ls, ∀ x ∈ ns, x.ents.length ≤ maxLen := by
  obtain ⟨cs, rfl, hsz⟩ := okWide_struct Tryz.underlying29 hv
  have hC : Tryz.prog.cellsOf 29 = 6 := by kernel_rfl
  obtain ⟨l⟩ := cs
  obtain ⟨c0, c1, c2, c3, c4, c5, rfl⟩ := six_ (l := l) (hsz.trans hC)
  obtain ⟨fuel, hf⟩ := h
  obtain ⟨xs, n, -, -, -, hlen, hp⟩ := DataW.trod_struct Tryz.underlying29 hf
  match xs, hlen, hp with
  | [x0, x1, x2], _, hp =>
    have p0 := hp 0 _ rfl
    have p1 := hp 1 _ rfl
    obtain ⟨ys, m, -, -, -, hyl, hq⟩ := DataW.trod_struct Tryz.underlying23 (cs := [c0, c1, c2, c3]) p0
    match ys, hyl, hq with
    | [y0, y1, y2, y3], _, hq =>
      obtain ⟨a0, rfl⟩ := cell_i64 (c := c0) (hq 0 _ rfl)
      obtain ⟨a1, rfl⟩ := cell_i64 (c := c1) (hq 1 _ rfl)
      obtain ⟨a2, rfl⟩ := cell_i64 (c := c2) (hq 2 _ rfl)
      obtain ⟨a3, rfl⟩ := cell_i64 (c := c3) (hq 3 _ rfl)
      obtain ⟨up, ⟨AU, nU, cU, eU, hU, rU⟩, fU⟩ := trod_lay (cs := [c4]) rfl p1
      obtain ⟨AL, nL, cL, ls, eL, hL, -, rL, fL⟩ := open_rdeF (e := 26) (cs := [c5]) layEn (fun ns => ∀ x ∈ ns, x.ents.length ≤ maxLen) Tryz.underlying27 (by kernel_rfl) (by decide) (fun _ cs _ hl hy => trod_lay hl hy) (hp 2 _ rfl)
      cases eU
      cases eL
      exact ⟨⟨a0, a1, a2, a3⟩, AU, AL, nU, cU, nL, cL, up, ls, rfl, hU, hL, rU, rL, fU, fL⟩
theorem open_places {fuel : Nat} {cs : List Value} {x : DataW H × List MemPlace} (h : DataW.trod enc Tryz.prog w 0 spare held fuel 30 cs = some x) : ∃ A n c l, cs = [.slice A n c] ∧ n ≤ c ∧ RdE prEn w (Under w.heap.size) A n l :=
  open_rde (e := 36) prEn Tryz.underlying30 (by kernel_rfl) (by decide) (fun _ cs _ hl hy => trod_plc hl hy) h
end
end Go.Proofs.YtnehkgbdppbhiaaGreat

