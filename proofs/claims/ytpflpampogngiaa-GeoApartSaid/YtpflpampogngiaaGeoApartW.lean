/- The walk of the law GeoApart. -/
import Derived.Test.YtpflpampogngiaaGeoM
import Derived.Test.YtpflpampogngiaaPlan
import Derived.Test.YtpflpampogngiaaMemR
namespace Go.Proofs.Ytpflpampogngiaa
open Go.RowKit Plain

def ivf (x : Int) : Value := .int .i64 x
theorem ivf_one (x : Int) : (ivf x).oneCell' = true := rfl
theorem info_i64 : (Try.prog.info? 3).map (fun i => (i.zero, i.size, i.bytes)) = some (some (.int .i64 0), 1, 8) := by kernel_rfl
theorem wpList_make_ints {P : Program} (w : World) {ops : Array Oper} {rest : List Oper} {o : Oper} {a : Act} {Q : Exit → Act → World → Prop}
    (hg : o.guard = none) (l c : Operand) (t : TypeId) (hop : o.op = Op.makeSlice t l c) (e : TypeId) (h1 : P.underlying t = some (.slice e))
    (hinfo : (P.info? e).map (fun i => (i.zero, i.size, i.bytes)) = some (some (.int .i64 0), 1, 8))
    (kl kc : IntKind) (L C : Int) (n : Nat) (hl : a.eval l = .int kl L) (hc : a.eval c = .int kc C) (hL : L = (n : Int)) (hC : C = (n : Int)) (hn : n ≤ 1000000)
    (hK : ∀ w', RowL w' w.heap.size e (List.replicate n (.int .i64 0)) → Below w.heap.size w w' → wpList P ops Q rest (a.put o.dst (.slice (some ⟨w.heap.size, 0, none⟩) n n)) w') :
    wpList P ops Q (o :: rest) a w := by
  obtain ⟨i, hi, hz, hsz, hby⟩ := info_parts hinfo
  refine wpList_make_full w hg l c t hop w.heap.size e i (.int .i64 0) 1 h1 hi hz hsz kl kc L C n hl hc hL hC (by rw [hby]; omega) (by simp only [maxLen]; omega) (Nat.le_refl _) ?_
  intro w' hown hgr
  refine hK w' ?_ ((Below.refl _ _).grown hgr (Nat.le_refl _) (by simp))
  have := RowL.of_made hown
  rw [show (Value.int .i64 0).cells = #[Value.int .i64 0] from rfl, toList_madeCells_one, Nat.mul_one] at this
  exact this
theorem RowL.onB {w w' : World} {g t B : Nat} {cs : List Value} (h : RowL w g t cs) (hb : Below B w w') (hg : g < B) : RowL w' g t cs := (hb.block g hg).trans h
theorem Ow.cellx {f : Int → Value} {w : World} {base e n c g i : Nat} {l : List Int} {x : Int} (h : Ow f w base e (some ⟨g, 0, none⟩) n c l) (hx : l[i]? = some x) : w.cell? ⟨g, i, none⟩ = some (f x) := by
  obtain ⟨g', e, _, _, hc, _⟩ := h.at_ (by have := h.len; have := (List.getElem?_eq_some_iff.1 hx).1; omega)
  cases e
  exact hc i x hx
theorem Ow.pastB {f : Int → Value} {w : World} {base e n c g i : Nat} {A : Option Addr} {l : List Int} (h : Ow f w base e A n c l) (hg : g < base) (u : Value) : Ow f (w.setCell ⟨g, i, none⟩ u) base e A n c l := ownsRow_setCell_below h hg u

set_option maxHeartbeats 1600000 in
theorem law_GeoApart_no {a b c d : Int} (hg : geoB a b c d = false) (w : World) : Calls Try.prog 8 #[.agg #[.int .i64 a, .int .i64 b, .int .i64 c, .int .i64 d]] w (LawOk w) := by
  have HE := hide (geoE_no hg)
  have HT : Hid (totZ a b c d = 0) := hide (by simp [totZ, hg])
  have HL : Hid (logZ a b c d = -1) := hide (by simp [logZ, hg])
  clear hg
  go_enter Try.func8, Try.ntmps8
  go_wp2_with fail
  refine (GCheck_e HE.out _).mono ?_
  rintro e w1 ⟨rfl, hbel⟩
  have HB1 := hide (below_step (below_new (below_self w) _) hbel)
  have HG1 := hide ((RowL.new w 58 [Value.int .i64 a, .int .i64 b, .int .i64 c, .int .i64 d]).on hbel)
  clear hbel
  obtain ⟨⟨c0, c1, c2, c3⟩, f0, f1, f2, f3⟩ := RowL.four HG1.out
  go_wp2_with fail
  refine (GTotal_e HT.out _).mono ?_
  rintro e w2 ⟨rfl, hbel⟩
  have HB2 := hide (below_step HB1.out hbel)
  have HG2 := hide (HG1.out.on hbel)
  clear hbel HG1
  clear c0 c1 c2 c3 f0 f1 f2 f3
  obtain ⟨⟨c0, c1, c2, c3⟩, f0, f1, f2, f3⟩ := RowL.four HG2.out
  go_wp2_with fail
  refine (GLog_e HL.out _).mono ?_
  rintro e w3 ⟨rfl, hbel⟩
  have HB3 := hide (below_step HB2.out hbel)
  clear hbel HG2
  clear c0 c1 c2 c3 f0 f1 f2 f3
  go_wp2_with fail
  refine (awake6_any _).mono ?_
  rintro e w4 ⟨rfl, hbel⟩
  have HB4 := hide (below_step HB3.out hbel)
  clear hbel
  go_wp2_with fail
  go_ret
  exact LawOk.of HB4.out

set_option maxRecDepth 100000 in
set_option maxHeartbeats 12800000 in
theorem law_GeoApart_yes {a b c d : Nat} (hg : geoB a b c d = true) (w : World) : Calls Try.prog 8 #[.agg #[.int .i64 a, .int .i64 b, .int .i64 c, .int .i64 d]] w (LawOk w) := by
  obtain ⟨lg, hlg⟩ : ∃ l, logN a b c = l := ⟨_, rfl⟩
  obtain ⟨N, hN⟩ : ∃ N, lg + d = N := ⟨_, rfl⟩
  have hn := geoN hg
  have hsb0 := sN_bound (k := 0) hg (by omega)
  have hlb : 5 ≤ lg ∧ lg ≤ 341 := by omega
  have HT : Hid (totZ a b c d = ((N : Nat) : Int)) := hide (by rw [totN_eq hg, hlg, hN])
  have HL : Hid (logZ a b c d = ((lg : Nat) : Int)) := hide (by rw [logN_eq hg, hlg])
  have HE := hide (geoE_yes hg)
  have HG := hide hg
  have HLG := hide hlg
  have HN := hide hN
  have d1 : decide ((N : Int) < 1) = false := by simp; omega
  have d2 : decide ((1000 : Int) < (N : Int)) = false := by simp; omega
  have d3 : IntKind.i64.wrap ((N : Int) - (d : Int)) = (lg : Int) := by
    have e : (N : Int) - (d : Int) = (lg : Int) := by omega
    rw [e]; exact IntWalk.i64_in _ (by omega)
  have d4 : ((lg : Int) != (lg : Int)) = false := by simp
  have hNb : N ≤ 405 := by omega
  have hlN : lg < N := by omega
  have hlb1 := hlb.2
  have hlb0 := hlb.1
  have ha3 : a ≤ 3 := hn.2.1
  clear hg hlg hN hn hsb0 hlb
  go_enter Try.func8, Try.ntmps8
  go_wp2_with fail
  refine (GCheck_e HE.out _).mono ?_
  rintro e w1 ⟨rfl, hbel⟩
  have HB1 := hide (below_step (below_new (below_self w) _) hbel)
  have HG1 := hide ((RowL.new w 58 [Value.int .i64 a, .int .i64 b, .int .i64 c, .int .i64 d]).on hbel)
  clear hbel
  obtain ⟨⟨c0, c1, c2, c3⟩, f0, f1, f2, f3⟩ := RowL.four HG1.out
  go_wp2_with fail
  refine (GTotal_e HT.out _).mono ?_
  rintro e w2 ⟨rfl, hbel⟩
  have HB2 := hide (below_step HB1.out hbel)
  have HG2 := hide (HG1.out.on hbel)
  clear hbel HG1
  clear c0 c1 c2 c3 f0 f1 f2 f3
  obtain ⟨⟨c0, c1, c2, c3⟩, f0, f1, f2, f3⟩ := RowL.four HG2.out
  go_wp2_with fail
  have hlt := HG2.out.lt
  refine wp_region_plan (fun w' => Below w2.heap.size w2 w' ∧ w'.cell? ⟨w.heap.size, 0, none⟩ = some (.int .i64 a) ∧ w'.cell? ⟨w.heap.size, 1, none⟩ = some (.int .i64 b) ∧ w'.cell? ⟨w.heap.size, 2, none⟩ = some (.int .i64 c) ∧ w'.cell? ⟨w.heap.size, 3, none⟩ = some (.int .i64 d)) [(0, true), (1, true), (2, true), (3, true), (4, true), (5, true), (6, true), (7, true), (9, true), (10, true), (11, true), (12, true), (8, false), (13, true), (14, true)] (by kernel_rfl) (by kernel_rfl) (by kernel_rfl) (by kernel_rfl) rfl (fun _ _ _ _ _ h => h) ⟨below_drewN (below_self w2) 1, c0, c1, c2, c3⟩ (fun hHeld => ?_)
  simp only [planOps, List.filterMap_cons, List.filterMap_nil, List.getElem?_toArray, List.getElem?_cons_succ, List.getElem?_cons_zero, Option.map_some]
  refine wpPlan_take (v := ?_) (by kernel_rfl) (fun wS hSw => ?_) ?_
  rotate_left
  · (try dsimp only at hSw); go_simp; (try with_reducible rfl)
  (try simp only [Act.put, List.setIfInBounds_toArray, List.set_cons_zero, List.set_cons_succ])
  refine wpPlan_take (v := ?_) (by kernel_rfl) (fun wS hSw => ?_) ?_
  rotate_left
  · (try dsimp only at hSw); go_simp; (try with_reducible rfl)
  (try simp only [Act.put, List.setIfInBounds_toArray, List.set_cons_zero, List.set_cons_succ])
  refine wpPlan_take (v := ?_) (by kernel_rfl) (fun wS hSw => ?_) ?_
  rotate_left
  · (try dsimp only at hSw); go_simp; (try with_reducible rfl)
  (try simp only [Act.put, List.setIfInBounds_toArray, List.set_cons_zero, List.set_cons_succ])
  refine wpPlan_take (v := ?_) (by kernel_rfl) (fun wS hSw => ?_) ?_
  rotate_left
  · (try dsimp only at hSw); go_simp; (try with_reducible rfl)
  (try simp only [Act.put, List.setIfInBounds_toArray, List.set_cons_zero, List.set_cons_succ])
  refine wpPlan_take (v := ?_) (by kernel_rfl) (fun wS hSw => ?_) ?_
  rotate_left
  · (try dsimp only at hSw); go_simp; (try with_reducible rfl)
  (try simp only [Act.put, List.setIfInBounds_toArray, List.set_cons_zero, List.set_cons_succ])
  refine wpPlan_take (v := ?_) (by kernel_rfl) (fun wS hSw => ?_) ?_
  rotate_left
  · (try dsimp only at hSw); go_simp; (try with_reducible rfl)
  (try simp only [Act.put, List.setIfInBounds_toArray, List.set_cons_zero, List.set_cons_succ])
  refine wpPlan_take (v := ?_) (by kernel_rfl) (fun wS hSw => ?_) ?_
  rotate_left
  · (try dsimp only at hSw); go_simp; (try with_reducible rfl)
  (try simp only [Act.put, List.setIfInBounds_toArray, List.set_cons_zero, List.set_cons_succ])
  refine wpPlan_take (v := ?_) (by kernel_rfl) (fun wS hSw => ?_) ?_
  rotate_left
  · (try dsimp only at hSw); go_simp; (try with_reducible rfl)
  (try simp only [Act.put, List.setIfInBounds_toArray, List.set_cons_zero, List.set_cons_succ])
  refine wpPlan_take (v := ?_) (by kernel_rfl) (fun wS hSw => ?_) ?_
  rotate_left
  · (try dsimp only at hSw); go_simp; (try with_reducible rfl)
  (try simp only [Act.put, List.setIfInBounds_toArray, List.set_cons_zero, List.set_cons_succ])
  refine wpPlan_take (v := ?_) (by kernel_rfl) (fun wS hSw => ?_) ?_
  rotate_left
  · (try dsimp only at hSw); go_simp; (try with_reducible rfl)
  (try simp only [Act.put, List.setIfInBounds_toArray, List.set_cons_zero, List.set_cons_succ])
  refine wpPlan_take (v := ?_) (by kernel_rfl) (fun wS hSw => ?_) ?_
  rotate_left
  · (try dsimp only at hSw); go_simp; (try with_reducible rfl)
  (try simp only [Act.put, List.setIfInBounds_toArray, List.set_cons_zero, List.set_cons_succ])
  refine wpPlan_take (v := ?_) (by kernel_rfl) (fun wS hSw => ?_) ?_
  rotate_left
  · (try dsimp only at hSw); go_simp; (try with_reducible rfl)
  (try simp only [Act.put, List.setIfInBounds_toArray, List.set_cons_zero, List.set_cons_succ])
  refine wpPlan_call (by kernel_rfl) (fun K hK => ?_)
  have hOld := hide hHeld
  clear hHeld
  go_simp
  go_at_call 47
  refine (GLog_e HL.out _).mono ?_
  rintro e w' ⟨rfl, hbel⟩
  refine hK.out _ _ (held4 hbel hlt hOld.out) (fun hHeld => ?_)
  clear hK K
  (try simp only [Act.put, List.setIfInBounds_toArray, List.set_cons_zero, List.set_cons_succ])
  refine wpPlan_take (v := ?_) (by kernel_rfl) (fun wS hSw => ?_) ?_
  rotate_left
  · (try dsimp only at hSw); go_simp; (try with_reducible rfl)
  (try simp only [Act.put, List.setIfInBounds_toArray, List.set_cons_zero, List.set_cons_succ])
  refine wpPlan_take (v := ?_) (by kernel_rfl) (fun wS hSw => ?_) ?_
  rotate_left
  · (try dsimp only at hSw); go_simp; (try with_reducible rfl)
  (try simp only [Act.put, List.setIfInBounds_toArray, List.set_cons_zero, List.set_cons_succ])
  refine wpPlan_end ?_
  obtain ⟨w3, hw3⟩ : ∃ w3, w3 = w' := ⟨_, rfl⟩
  rw [← hw3] at hHeld ⊢
  have HB3 := hide (below_step HB2.out hHeld.1)
  have HG3 := hide (HG2.out.on hHeld.1)
  clear hHeld hw3 hlt HG2
  clear c0 c1 c2 c3 f0 f1 f2 f3
  have HL3 := hide HG3.out.lt
  go_wp2_with (at_make; refine wpList_make_ints _ rfl (.tmp 43) (.tmp 43) 45 rfl 3 Try.underlying45 info_i64 .i64 .i64 _ _ N rfl rfl rfl rfl (by omega) ?_; intro w4 hr4 hb4; have HR4 := hide hr4; have HB4 := hide (below_step HB3.out hb4); have HG4 := hide (HG3.out.on hb4); clear hr4 hb4)
  have HZ4 : Hid (RowL w4 w3.heap.size 3 (seenC a b c N 0 0)) := hide (by rw [seenC_zero]; exact HR4.out)
  clear HR4 HG3
  go_loopw [5] (fun tv wr => ∃ k : Nat, k ≤ a + 1 ∧ tv = .int .i64 k ∧ RowL wr w.heap.size 58 [Value.int .i64 a, .int .i64 b, .int .i64 c, .int .i64 d] ∧ RowL wr w3.heap.size 3 (seenC a b c N k 0) ∧ Below w.heap.size w wr) (fun tv _ => a + 1 - (intOf tv).toNat)
  case atStart => exact ⟨0, by omega, rfl, HG4.out, HZ4.out, HB4.out⟩
  case round =>
    obtain ⟨k, hk, rfl, hgr, hzr, hbr⟩ := hrel
    have HGr := hide hgr
    have HZr := hide hzr
    have HBr := hide hbr
    clear hgr hzr hbr
    obtain ⟨⟨c0, c1, c2, c3⟩, f0, f1, f2, f3⟩ := RowL.four HGr.out
    by_cases hka : k ≤ a
    · obtain ⟨s, hs⟩ : ∃ s, sN a b c k = s := ⟨_, rfl⟩
      have hsb := sN_bound HG.out hka
      rw [hs, HLG.out] at hsb
      obtain ⟨hs1, hs2, -⟩ := hsb
      have HS := hide hs
      have HST : Hid (startZ a b c d k = ((s : Nat) : Int)) := hide (by rw [sN_start HG.out hka, hs])
      clear hs
      go_wp2_with fail
      refine (GBitmap_e HST.out _).mono ?_
      rintro e w5 ⟨rfl, hbel⟩
      have HB5 := hide (below_step HBr.out hbel)
      have HG5 := hide (HGr.out.on hbel)
      have HZ5 := hide (HZr.out.on hbel)
      have HLa := hide HG5.out.lt
      have HLb := hide HZ5.out.lt
      clear hbel HGr HZr HBr
      have HO5 : Hid (Ow ivf (w5.alloc (.cells #[.int .i64 ((s : Nat) : Int)] 3)) w5.heap.size 3 (some ⟨w5.heap.size, 0, none⟩) 1 1 (seqL s 1)) := hide (Ow.lit w5 3 (cs := [.int .i64 ((s : Nat) : Int)]) rfl rfl (by omega))
      clear c0 c1 c2 c3 f0 f1 f2 f3
      go_wp2_with fail
      go_loopw [6, 7] (fun lv iv wr2 => ∃ (i : Nat) (A : Option Addr) (c2 : Nat), 1 ≤ i ∧ i ≤ b + 1 ∧ iv = .int .i64 i ∧ lv = .slice A i c2 ∧ Ow ivf wr2 w5.heap.size 3 A i c2 (seqL s i) ∧ RowL wr2 w.heap.size 58 [Value.int .i64 a, .int .i64 b, .int .i64 c, .int .i64 d] ∧ RowL wr2 w3.heap.size 3 (seenC a b c N k 0) ∧ Below w.heap.size w wr2) (fun _ iv _ => b + 1 - (intOf iv).toNat)
      case atStart => exact ⟨1, _, _, by omega, by omega, rfl, rfl, HO5.out, HG5.out.on (below_new (below_self w5) _), HZ5.out.on (below_new (below_self w5) _), below_new HB5.out _⟩
      case round =>
        obtain ⟨i, A, c2, hi1, hi2, rfl, rfl, ho, hg2, hz2, hb2⟩ := hrel
        have HOr := hide ho
        have HGr := hide hg2
        have HZr := hide hz2
        have HBr := hide hb2
        clear ho hg2 hz2 hb2
        obtain ⟨⟨c0, c1, c2, c3⟩, f0, f1, f2, f3⟩ := RowL.four HGr.out
        by_cases hib : i ≤ b
        · have HI : Hid (inodeZ a b c d k i = ((s + i : Nat) : Int)) := hide (by rw [inode_at HG.out hka hi1 hib, HS.out])
          go_wp2_with fail
          refine (GInode_e HI.out _).mono ?_
          rintro e w6 ⟨rfl, hbel⟩
          have HB6 := hide (below_step HBr.out hbel)
          have HG6 := hide (HGr.out.on hbel)
          have HZ6 := hide (HZr.out.on hbel)
          have HO6 := hide (HOr.out.below hbel)
          have HSZ : Hid (w5.heap.size ≤ w6.heap.size) := hide (by obtain ⟨g, -, h1, h2, -⟩ := HO6.out.at_ (by omega); omega)
          clear hbel HGr HZr HBr HOr
          clear c0 c1 c2 c3 f0 f1 f2 f3
          go_wp2_with (at_builtin; refine wpList_append_Rd _ rfl (.tmp 61) (.tmp 66) 45 rfl w5.heap.size 3 _ 8 Try.underlying45 info_i64 rfl ivf_one _ i _ (seqL s i) rfl (HO6.out.alloc _) _ _ 1 1 _ rfl (Rd.one _ _ (show Value.int .i64 ((s + i : Nat) : Int) = ivf ((s + i : Nat) : Int) from rfl)) (i + 1) rfl (by omega) (by omega) (by have := HSZ.out; simp; omega) ?_; intro A3 c3 w7 hown hbel; have HO7 := hide hown; have HX := hide hbel; clear hown hbel)
          go_roundw
          case rel => exact ⟨i + 1, _, _, by omega, by omega, by go_num, rfl, by rw [seqL_succ]; exact HO7.out, (HG6.out.on (below_new (below_self w6) _)).onB HX.out HLa.out, (HZ6.out.on (below_new (below_self w6) _)).onB HX.out HLb.out, (below_new HB6.out _).trans (HX.out.mono (Nat.le_of_lt HLa.out))⟩
          case measure => simp [intOf]; omega
        · have HI1 : Hid (i = b + 1) := hide (by omega)
          have hi3 : i ≤ 100 := by have := geoN HG.out; omega
          clear hi1 hi2
          go_wp2_with fail
          clear hib
          clear HB5 HG5 HZ5 HO5
          clear c0 c1 c2 c3 f0 f1 f2 f3
          go_loopw [6, 70] (fun lv jv wr2 => ∃ (j n : Nat) (A : Option Addr) (c2 : Nat), j ≤ c ∧ n = 1 + b + j ∧ jv = .int .i64 j ∧ lv = .slice A n c2 ∧ Ow ivf wr2 w5.heap.size 3 A n c2 (seqL s n) ∧ RowL wr2 w.heap.size 58 [Value.int .i64 a, .int .i64 b, .int .i64 c, .int .i64 d] ∧ RowL wr2 w3.heap.size 3 (seenC a b c N k 0) ∧ Below w.heap.size w wr2) (fun _ jv _ => c - (intOf jv).toNat)
          case atStart => exact ⟨0, i, _, _, by omega, by have := HI1.out; omega, rfl, rfl, HOr.out, HGr.out, HZr.out, HBr.out⟩
          case round =>
            clear HOr HGr HZr HBr
            obtain ⟨j, n, A, c2, hj, hn, rfl, rfl, ho, hg2, hz2, hb2⟩ := hrel
            have HOr := hide ho
            have HGr := hide hg2
            have HZr := hide hz2
            have HBr := hide hb2
            clear ho hg2 hz2 hb2
            by_cases hjc : j < c
            · have HI : Hid (blockZ a b c d k j = ((s + n : Nat) : Int)) := hide (by rw [block_at HG.out hka hjc, HS.out, hn])
              obtain ⟨⟨c0, c1, c2, c3⟩, f0, f1, f2, f3⟩ := RowL.four HGr.out
              have HNN := hide hn
              clear hn
              go_wp2_with fail
              refine (GBlock_e HI.out _).mono ?_
              rintro e w6 ⟨rfl, hbel⟩
              have HB6 := hide (below_step HBr.out hbel)
              have HG6 := hide (HGr.out.on hbel)
              have HZ6 := hide (HZr.out.on hbel)
              have HO6 := hide (HOr.out.below hbel)
              have HSZ : Hid (w5.heap.size ≤ w6.heap.size) := hide (by obtain ⟨g, -, h1, h2, -⟩ := HO6.out.at_ (by have := HNN.out; omega); omega)
              clear hbel HGr HZr HBr HOr
              clear c0 c1 c2 c3 f0 f1 f2 f3
              go_wp2_with (at_builtin; refine wpList_append_Rd _ rfl (.tmp 73) (.tmp 78) 45 rfl w5.heap.size 3 _ 8 Try.underlying45 info_i64 rfl ivf_one _ n _ (seqL s n) rfl (HO6.out.alloc _) _ _ 1 1 _ rfl (Rd.one _ _ (show Value.int .i64 ((s + n : Nat) : Int) = ivf ((s + n : Nat) : Int) from rfl)) (n + 1) rfl (by have := HNN.out; omega) (by have := HNN.out; omega) (by have := HSZ.out; simp; omega) ?_; intro A3 c3 w7 hown hbel; have HO7 := hide hown; have HX := hide hbel; clear hown hbel)
              go_roundw
              case rel => exact ⟨j + 1, n + 1, _, _, by omega, by have := HNN.out; omega, by go_num, rfl, by rw [seqL_succ]; exact HO7.out, (HG6.out.on (below_new (below_self w6) _)).onB HX.out HLa.out, (HZ6.out.on (below_new (below_self w6) _)).onB HX.out HLb.out, (below_new HB6.out _).trans (HX.out.mono (Nat.le_of_lt HLa.out))⟩
              case measure => simp [intOf]; omega
            · have HNN : Hid (n = 1 + b + c) := hide (by omega)
              have hnb : n ≤ 100 := by have := geoN HG.out; omega
              obtain ⟨g2, rfl, hg2, -, -, -⟩ := HOr.out.at_ (by omega)
              clear hn hj
              have HG2b := hide hg2
              clear hg2
              obtain ⟨⟨c0, c1, c2, c3⟩, f0, f1, f2, f3⟩ := RowL.four HGr.out
              go_wp2_with fail
              clear c0 c1 c2 c3 f0 f1 f2 f3
              clear hjc
              go_loopw [83] (fun tv wr2 => ∃ i : Nat, i ≤ n ∧ tv = .int .i64 i ∧ Ow ivf wr2 w5.heap.size 3 (some ⟨g2, 0, none⟩) n c2 (seqL s n) ∧ RowL wr2 w.heap.size 58 [Value.int .i64 a, .int .i64 b, .int .i64 c, .int .i64 d] ∧ RowL wr2 w3.heap.size 3 (seenC a b c N k i) ∧ Below w.heap.size w wr2) (fun tv _ => n - (intOf tv).toNat)
              case atStart => exact ⟨0, by omega, rfl, HOr.out, HGr.out, HZr.out, HBr.out⟩
              case round =>
                clear HOr HGr HZr HBr
                obtain ⟨i, hi, rfl, ho, hg2, hz2, hb2⟩ := hrel
                have HOr := hide ho
                have HGr := hide hg2
                have HZr := hide hz2
                have HBr := hide hb2
                clear ho hg2 hz2 hb2
                by_cases hin : i < n
                · obtain ⟨x, hx⟩ : ∃ x, s + i = x := ⟨_, rfl⟩
                  have hc : wr.cell? ⟨g2, i, none⟩ = some (.int .i64 ((x : Nat) : Int)) := by rw [← hx]; exact Ow.cellx HOr.out (seqL_get hin)
                  have hx1 : 1 ≤ x := by omega
                  have hx2 : x < lg := by have := HNN.out; omega
                  have hx3 : x < N := by omega
                  have d5 : decide (((x : Nat) : Int) < 1) = false := by simp; omega
                  have d6 : decide (lg ≤ x) = false := by simp; omega
                  have hno : seenV a b c k i x = .int .i64 0 := by
                    unfold seenV
                    rw [← hx, ← HS.out, seen_no HG.out hka (by have := HNN.out; omega)]
                    rfl
                  have hz0 : (seenC a b c N k i)[x]? = some (.int .i64 0) := by rw [seenC_get hx3, hno]
                  have HZ0 := hide hz0
                  obtain ⟨kb, hkb⟩ : ∃ kb, ((k : Int) == 0) = kb := ⟨_, rfl⟩
                  have hkk : (kb != kb) = false := by simp
                  have HU : Hid (upperB a b c d ((x : Nat) : Int) = kb) := hide (by
                    rw [← hx, ← HS.out, upper_at HG.out hka (by have := HNN.out; omega), ← hkb, Bool.eq_iff_iff]
                    simp)
                  have HX := hide hx
                  clear hx hno hz0
                  obtain ⟨⟨c0, c1, c2, c3⟩, f0, f1, f2, f3⟩ := RowL.four HGr.out
                  go_wp2_with fail
                  refine (GLog_e HL.out _).mono ?_
                  rintro e w6 ⟨rfl, hbel⟩
                  have HB6 := hide (below_step HBr.out hbel)
                  have HG6 := hide (HGr.out.on hbel)
                  have HZ6 := hide (HZr.out.on hbel)
                  have HO6 := hide (HOr.out.below hbel)
                  clear hbel HGr HZr HBr HOr hc
                  clear c0 c1 c2 c3 f0 f1 f2 f3
                  obtain ⟨⟨c0, c1, c2, c3⟩, f0, f1, f2, f3⟩ := RowL.four HG6.out
                  go_wp2_with fail
                  refine (GUpper_b HU.out _).mono ?_
                  rintro e w7 ⟨rfl, hbel⟩
                  have HB7 := hide (below_step HB6.out hbel)
                  have HG7 := hide (HG6.out.on hbel)
                  have HZ7 := hide (HZ6.out.on hbel)
                  have HO7 := hide (HO6.out.below hbel)
                  clear hbel HG6 HZ6 HB6 HO6
                  clear c0 c1 c2 c3 f0 f1 f2 f3
                  have hcz : w7.cell? ⟨w3.heap.size, x, none⟩ = some (.int .i64 0) := (HZ7.out.cell x).trans HZ0.out
                  have hfz : w7.frozen? ⟨w3.heap.size, x, none⟩ = false := HZ7.out.frozen x
                  go_wp2_with fail
                  go_roundw
                  case rel => exact ⟨i + 1, by omega, by go_num, Ow.pastB HO7.out HLb.out _, HG7.out.apart (Nat.ne_of_lt HL3.out) _ _, by rw [← seenC_set, HS.out, HX.out]; exact HZ7.out.set_ _ _, HB7.out.setCell (Nat.le_of_lt HL3.out) _⟩
                  case measure => simp [intOf]; omega
                · obtain rfl : i = n := by omega
                  clear hin hi
                  go_wp2_with fail
                  go_roundw
                  case rel => exact ⟨k + 1, by omega, by go_num, HGr.out, by have := HZr.out; rw [HNN.out, seenC_next] at this; exact this, HBr.out⟩
                  case measure => simp [intOf]; omega
    · have HK1 : Hid (k = a + 1) := hide (by omega)
      clear hk
      go_wp2_with fail
      clear hka
      clear c0 c1 c2 c3 f0 f1 f2 f3
      go_loopw [11] (fun tv wr2 => ∃ x : Nat, 1 ≤ x ∧ x ≤ lg ∧ tv = .int .i64 x ∧ RowL wr2 w.heap.size 58 [Value.int .i64 a, .int .i64 b, .int .i64 c, .int .i64 d] ∧ RowL wr2 w3.heap.size 3 (seenC a b c N k 0) ∧ Below w.heap.size w wr2) (fun tv _ => lg - (intOf tv).toNat)
      case atStart => exact ⟨1, by omega, by omega, rfl, HGr.out, HZr.out, HBr.out⟩
      case round =>
        clear HGr HZr HBr
        obtain ⟨x, hx1, hx2, rfl, hg2, hz2, hb2⟩ := hrel
        have HGr := hide hg2
        have HZr := hide hz2
        have HBr := hide hb2
        clear hg2 hz2 hb2
        obtain ⟨⟨c0, c1, c2, c3⟩, f0, f1, f2, f3⟩ := RowL.four HGr.out
        go_wp2_with fail
        refine (GLog_e HL.out _).mono ?_
        rintro e w6 ⟨rfl, hbel⟩
        have HB6 := hide (below_step HBr.out hbel)
        have HG6 := hide (HGr.out.on hbel)
        have HZ6 := hide (HZr.out.on hbel)
        clear hbel HGr HZr HBr
        clear c0 c1 c2 c3 f0 f1 f2 f3
        by_cases hxl : x < lg
        · have hx3 : x < N := by omega
          have hz0 : (seenC a b c N k 0)[x]? = some (.int .i64 1) := by
            rw [HK1.out, seenC_get hx3]
            unfold seenV
            rw [seen_all HG.out hx1 (by rw [HLG.out]; exact hxl)]
            rfl
          have hcz : w6.cell? ⟨w3.heap.size, x, none⟩ = some (.int .i64 1) := (HZ6.out.cell x).trans hz0
          clear hz0
          go_wp2_with fail
          go_roundw
          case rel => exact ⟨x + 1, by omega, by omega, by go_num, HG6.out, HZ6.out, HB6.out⟩
          case measure => simp [intOf]; omega
        · go_wp2_with fail
          refine (awake6_any _).mono ?_
          rintro e w7 ⟨rfl, hbel⟩
          have HB7 := hide (below_step HB6.out hbel)
          clear hbel
          go_wp2_with fail
          go_ret
          exact LawOk.of HB7.out
theorem law_GeoApart {a b c d : Int} (w : World) : Calls Try.prog 8 #[.agg #[.int .i64 a, .int .i64 b, .int .i64 c, .int .i64 d]] w (LawOk w) := by
  cases hg : geoB a b c d with
  | false => exact law_GeoApart_no hg w
  | true =>
    have hh := geo_yes hg
    obtain ⟨a, rfl⟩ := Int.eq_ofNat_of_zero_le (show 0 ≤ a by omega)
    obtain ⟨b, rfl⟩ := Int.eq_ofNat_of_zero_le (show 0 ≤ b by omega)
    obtain ⟨c, rfl⟩ := Int.eq_ofNat_of_zero_le (show 0 ≤ c by omega)
    obtain ⟨d, rfl⟩ := Int.eq_ofNat_of_zero_le (show 0 ≤ d by omega)
    exact law_GeoApart_yes hg w
end Go.Proofs.Ytpflpampogngiaa
