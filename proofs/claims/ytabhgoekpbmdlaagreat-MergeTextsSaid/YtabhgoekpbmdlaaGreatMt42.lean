import Derived.Test.YtabhgoekpbmdlaaGreatMt40
import Derived.Test.YtabhgoekpbmdlaaGreatMt41
import Derived.Test.YtabhgoekpbmdlaaGreatMt33
import Derived.Test.YtabhgoekpbmdlaaGreatMt7
import Derived.Test.YtabhgoekpbmdlaaGreatMt9

namespace Go.Proofs.YtabhgoekpbmdlaaGreat
open Go.RowKit Go.Shelf Plain

theorem names_few {up : List NodV} {ls : List (List NodV)} {v : ViewV} (hF : FewL ls) (hup : FewU up) (h : v.2.length ≤ ls.length) : (namesV up ls v).length ≤ 1000 := by
 refine Nat.le_trans (List.length_filter_le _ _) (Nat.le_trans (sortS_length _) ?_)
 unfold allV
 rw [List.length_append, List.length_map]
 have h1 : (namesL ls v.2).length ≤ 16 * v.2.length := Nat.le_trans (List.length_filter_le _ _) (Nat.le_trans (sortS_length _) (allN_len hF v.2))
 have h2 := entB_len hup.2 v.1
 have h3 := hF.1
 omega
theorem byt_few {up : List NodV} {ls : List (List NodV)} (hF : FewL ls) (hup : FewU up) (p : Int × Int) : (bytM up ls p).length ≤ 1000 := by
 unfold bytM
 split
 ·unfold srcM
  split
  ·unfold handF
   split
   ·have := (low_plain hF (orgOf (nodAt up p.2)).1 (orgOf (nodAt up p.2)).2.1).2.2.2.1
    dsimp only
    omega
   ·simp [nod0]
  ·have := (nodAt_plain hup.2 p.2).2.2.2.1
   omega
 ·have := (low_plain hF p.1 p.2).2.2.2.1
  omega
theorem of_few {up : List NodV} {ls : List (List NodV)} (hF : FewL ls) (hup : FewU up) (s : List UInt8) : (ofM up ls s).1.2.1.length ≤ 1000 ∧ (ofM up ls s).1.2.2.length ≤ 1000 := by
 unfold ofM noSeen
 split
 ·split
  ·simp
  ·split
   ·exact ⟨by simp, names_few hF hup (at_few up ls (splitS s))⟩
   ·exact ⟨byt_few hF hup _, by simp⟩
 ·simp
theorem MOf_q {g : GeoQ} {AU AL : Option Addr} {nU cU nL cL B : Nat} {up : List NodV} {ls : List (List NodV)} {s : List UInt8} {k : Int} {d : List UInt8} {n : List (List UInt8)} {b : Bool} (hs : ofM up ls s = ((k, d, n), b)) (w : World) (hu : RdE nodEn w (Under B) AU nU up) (h : RdE layEn w (Under B) AL nL ls) (hB : B ≤ w.heap.size) (hF : FewL ls) (hup : FewU up) (hsl : s.length ≤ 100000) : Calls Tryz.prog 42 #[.agg (stkC g (.slice AU nU cU) (.slice AL nL cL)).toArray, .string ⟨s.toArray⟩] w (fun e w' => ∃ A nd c C nn f, e = .returned (.tuple #[.agg (seenC k (.slice A nd c) (.slice C nn f)).toArray, .bool b]) ∧ RdE Enc.byte w' (Under w'.heap.size) A nd d ∧ RdE Enc.text w' (Under w'.heap.size) C nn n ∧ Below w.heap.size w w') := by
 refine (MOf_any (s := s) w hu h hB hF hup hsl).mono ?_
 rw [hs]
 rintro e w' ⟨A, m, c, C, m', f, rfl, h1, h2, h3⟩
 exact ⟨A, m, c, C, m', f, rfl, fr_under h1, fr_under h2, h3⟩
theorem RMOf_q {g : GeoQ} {AU AL : Option Addr} {nU cU nL cL B : Nat} {up : List NodV} {ls : List (List NodV)} {s : List UInt8} {k : Int} {d : List UInt8} {n : List (List UInt8)} {b : Bool} (hs : ofM up ls s = ((k, d, n), b)) (w : World) (hu : RdE nodEn w (Under B) AU nU up) (h : RdE layEn w (Under B) AL nL ls) (hB : B ≤ w.heap.size) (hF : FewL ls) (hup : FewU up) (hsl : s.length ≤ 100000) : Calls Tryz.prog 44 #[.agg (stkC g (.slice AU nU cU) (.slice AL nL cL)).toArray, .string ⟨s.toArray⟩] w (fun e w' => ∃ A nd c C nn f, e = .returned (.tuple #[.agg (seenC k (.slice A nd c) (.slice C nn f)).toArray, .bool b]) ∧ RdE Enc.byte w' (Under w'.heap.size) A nd d ∧ RdE Enc.text w' (Under w'.heap.size) C nn n ∧ Below w.heap.size w w') := by
 have h1 := RMOf_any (s := s) (g := g) (cU := cU) (cL := cL) w hu h hB hF hup hsl
 rw [hs] at h1
 exact h1
set_option maxRecDepth 100000 in
set_option maxHeartbeats 16000000 in
theorem law_MergeTexts {g : GeoQ} {AU AL AA AB CA CB : Option Addr} {nU cU nL cL na ca ma ea nb cb mb eb : Nat} {up : List NodV} {ls : List (List NodV)} {s : List UInt8} {ka kb : Int} {da db : List UInt8} {la lb : List (List UInt8)} (w : World) (hu : RdE nodEn w (Under w.heap.size) AU nU up) (h : RdE layEn w (Under w.heap.size) AL nL ls) (hfu : FineN up) (hfl : ∀ ns ∈ ls, FineN ns)
  (ha : RdE Enc.byte w (Under w.heap.size) AA na da) (hc : RdE Enc.text w (Under w.heap.size) CA ma la) (hx : RdE Enc.byte w (Under w.heap.size) AB nb db) (hy : RdE Enc.text w (Under w.heap.size) CB mb lb) :
  Calls Tryz.prog 7 #[.agg (stkC g (.slice AU nU cU) (.slice AL nL cL)).toArray, .string ⟨s.toArray⟩, .agg (seenC ka (.slice AA na ca) (.slice CA ma ea)).toArray, .agg (seenC kb (.slice AB nb cb) (.slice CB mb eb)).toArray] w (LawOk w) := by
 obtain ⟨W1, hW1⟩ : ∃ W1, (((w.alloc (.cells (stkC g (.slice AU nU cU) (.slice AL nL cL)).toArray 29)).alloc (.cells (seenC ka (.slice AA na ca) (.slice CA ma ea)).toArray 77)).alloc (.cells (seenC kb (.slice AB nb cb) (.slice CB mb eb)).toArray 77)) = W1 := ⟨_, rfl⟩
 obtain ⟨r0, r1, r2, hb1, hs1⟩ := rowA3 w _ _ _ _ _ _ hW1
 have hW1' : (((w.alloc (.cells #[.int .i64 g.a, .int .i64 g.b, .int .i64 g.c, .int .i64 g.d, .slice AU nU cU, .slice AL nL cL] 29)).alloc (.cells #[.int .i64 ka, .slice AA na ca, .slice CA ma ea] 77)).alloc (.cells #[.int .i64 kb, .slice AB nb cb, .slice CB mb eb] 77)) = W1 := hW1
 have R4 := hide r0
 have R6 := hide r1
 have R7 := hide r2
 have HB := hide hb1
 have hsz0 := hb1.size
 have HU := hide (hu.under hb1 (Nat.le_refl _))
 have HL := hide (h.under hb1 (Nat.le_refl _))
 have HA := hide (ha.under hb1 (Nat.le_refl _))
 have HC := hide (hc.under hb1 (Nat.le_refl _))
 have HX := hide (hx.under hb1 (Nat.le_refl _))
 have HY := hide (hy.under hb1 (Nat.le_refl _))
 have HFN := hide hfu
 have HFL := hide hfl
 obtain ⟨b, hb⟩ : ∃ b, decide ((ka, da, la) = (kb, db, lb)) = b := ⟨_, rfl⟩
 have HQ := hide hb
 have q6_2 : W1.cell? ⟨w.heap.size + 1, 2, none⟩ = some (.slice CA ma ea) := R6.out.cell 2
 have q7_2 : W1.cell? ⟨w.heap.size + 1 + 1, 2, none⟩ = some (.slice CB mb eb) := R7.out.cell 2
 have q6_1 : W1.cell? ⟨w.heap.size + 1, 1, none⟩ = some (.slice AA na ca) := R6.out.cell 1
 have q7_1 : W1.cell? ⟨w.heap.size + 1 + 1, 1, none⟩ = some (.slice AB nb cb) := R7.out.cell 1
 have q6_0 : W1.cell? ⟨w.heap.size + 1, 0, none⟩ = some (.int .i64 ka) := R6.out.cell 0
 have q7_0 : W1.cell? ⟨w.heap.size + 1 + 1, 0, none⟩ = some (.int .i64 kb) := R7.out.cell 0
 unfold stkC seenC
 clear r0 r1 r2 hb1 hW1 hu h hfu hfl ha hc hx hy hb
 go_enter Tryz.func7, Tryz.ntmps7
 go_wp2_with (first | (refine wpList_loadW rfl 29 (.tmp 4) rfl 6 stk_agg stk_size (w.heap.size) 29 rfl (stkC g (.slice AU nU cU) (.slice AL nL cL)) R4.out rfl ?_))
 clear hW1'
 refine (PStack_any W1 (und_up HU.out (by omega)) (und_up HL.out (by omega)) HFN.out HFL.out).mono ?_
 rintro e w2 ⟨p, rfl, hb2, hq⟩
 have HQP := hide hq
 clear q6_2 q7_2 q6_1 q7_1 q6_0 q7_0
 replace HB := hide (HB.out.trans (hb2.mono HB.out.size))
 replace R4 := hide (R4.out.on hb2)
 replace R6 := hide (R6.out.on hb2)
 replace R7 := hide (R7.out.on hb2)
 replace HU := hide (HU.out.under hb2 (by omega))
 replace HL := hide (HL.out.under hb2 (by omega))
 replace HA := hide (HA.out.under hb2 (by omega))
 replace HC := hide (HC.out.under hb2 (by omega))
 replace HX := hide (HX.out.under hb2 (by omega))
 replace HY := hide (HY.out.under hb2 (by omega))
 have hsz1 := hb2.size
 have q6_2 : w2.cell? ⟨w.heap.size + 1, 2, none⟩ = some (.slice CA ma ea) := R6.out.cell 2
 have q7_2 : w2.cell? ⟨w.heap.size + 1 + 1, 2, none⟩ = some (.slice CB mb eb) := R7.out.cell 2
 have q6_1 : w2.cell? ⟨w.heap.size + 1, 1, none⟩ = some (.slice AA na ca) := R6.out.cell 1
 have q7_1 : w2.cell? ⟨w.heap.size + 1 + 1, 1, none⟩ = some (.slice AB nb cb) := R7.out.cell 1
 have q6_0 : w2.cell? ⟨w.heap.size + 1, 0, none⟩ = some (.int .i64 ka) := R6.out.cell 0
 have q7_0 : w2.cell? ⟨w.heap.size + 1 + 1, 0, none⟩ = some (.int .i64 kb) := R7.out.cell 0
 clear hq hb2
 cases p
 ·go_wp2_with (go_at_call 36; refine (awake18_any _).mono ?_; rintro e98 wz ⟨rfl, hbz⟩; replace HB := hide (HB.out.trans (hbz.mono HB.out.size)); clear hbz)
  go_ret
  exact LawOk.of HB.out
 by_cases hkt : (200 : Int) < (s.length : Int)
 ·have dkt : decide ((200 : Int) < (s.length : Int)) = true := decide_eq_true hkt
  go_wp2_with (go_at_call 36; refine (awake18_any _).mono ?_; rintro e98 wz ⟨rfl, hbz⟩; replace HB := hide (HB.out.trans (hbz.mono HB.out.size)); clear hbz)
  go_ret
  exact LawOk.of HB.out
 have dkt : decide ((200 : Int) < (s.length : Int)) = false := decide_eq_false hkt
 by_cases hkma : (30 : Int) < (ma : Int)
 ·have dkma : decide ((30 : Int) < (ma : Int)) = true := decide_eq_true hkma
  go_wp2_with (go_at_call 36; refine (awake18_any _).mono ?_; rintro e98 wz ⟨rfl, hbz⟩; replace HB := hide (HB.out.trans (hbz.mono HB.out.size)); clear hbz)
  go_ret
  exact LawOk.of HB.out
 have dkma : decide ((30 : Int) < (ma : Int)) = false := decide_eq_false hkma
 by_cases hkmb : (30 : Int) < (mb : Int)
 ·have dkmb : decide ((30 : Int) < (mb : Int)) = true := decide_eq_true hkmb
  go_wp2_with (go_at_call 36; refine (awake18_any _).mono ?_; rintro e98 wz ⟨rfl, hbz⟩; replace HB := hide (HB.out.trans (hbz.mono HB.out.size)); clear hbz)
  go_ret
  exact LawOk.of HB.out
 have dkmb : decide ((30 : Int) < (mb : Int)) = false := decide_eq_false hkmb
 by_cases hkna : (300 : Int) < (na : Int)
 ·have dkna : decide ((300 : Int) < (na : Int)) = true := decide_eq_true hkna
  go_wp2_with (go_at_call 36; refine (awake18_any _).mono ?_; rintro e98 wz ⟨rfl, hbz⟩; replace HB := hide (HB.out.trans (hbz.mono HB.out.size)); clear hbz)
  go_ret
  exact LawOk.of HB.out
 have dkna : decide ((300 : Int) < (na : Int)) = false := decide_eq_false hkna
 by_cases hknb : (300 : Int) < (nb : Int)
 ·have dknb : decide ((300 : Int) < (nb : Int)) = true := decide_eq_true hknb
  go_wp2_with (go_at_call 36; refine (awake18_any _).mono ?_; rintro e98 wz ⟨rfl, hbz⟩; replace HB := hide (HB.out.trans (hbz.mono HB.out.size)); clear hbz)
  go_ret
  exact LawOk.of HB.out
 have dknb : decide ((300 : Int) < (nb : Int)) = false := decide_eq_false hknb
 obtain ⟨hF, hfew⟩ := HQP.out (by first | rfl | trivial)
 have HF := hide hF
 have HFU := hide (show FewU up from ⟨by have := hfew.1; omega, hfew.2⟩)
 have hof := of_few hF HFU.out s
 obtain ⟨⟨⟨k, d, nm⟩, r⟩, hO⟩ : ∃ O, ofM up ls s = O := ⟨_, rfl⟩
 have HO := hide hO
 rw [hO] at hof
 dsimp only at hof
 obtain ⟨hd1, hn1⟩ := hof
 have hsl : s.length ≤ 200 := by omega
 have hma : ma ≤ 30 := by omega
 have hna : na ≤ 300 := by omega
 clear hF hfew HQP HFN HFL hO hkt hkma hkmb hkna hknb
 go_wp2_with (first | (refine wpList_loadW rfl 29 (.tmp 4) rfl 6 stk_agg stk_size (w.heap.size) 29 rfl (stkC g (.slice AU nU cU) (.slice AL nL cL)) R4.out rfl ?_) | (go_at_call 42; refine (MOf_q HO.out w2 HU.out HL.out (by omega) HF.out HFU.out (by omega)).mono ?_; rintro e2 wO ⟨A9, n9, c9, C9, m9, d9, rfl, h9, k9, hbel⟩; clear q6_2 q7_2 q6_1 q7_1 q6_0 q7_0; replace HB := hide (HB.out.trans (hbel.mono HB.out.size)); replace R4 := hide (R4.out.on hbel); replace R6 := hide (R6.out.on hbel); replace R7 := hide (R7.out.on hbel); replace HU := hide (HU.out.under hbel (by omega)); replace HL := hide (HL.out.under hbel (by omega)); replace HA := hide (HA.out.under hbel (by omega)); replace HC := hide (HC.out.under hbel (by omega)); replace HX := hide (HX.out.under hbel (by omega)); replace HY := hide (HY.out.under hbel (by omega)); have hsz3 := hbel.size; have q6_2 : wO.cell? ⟨w.heap.size + 1, 2, none⟩ = some (.slice CA ma ea) := R6.out.cell 2; have q7_2 : wO.cell? ⟨w.heap.size + 1 + 1, 2, none⟩ = some (.slice CB mb eb) := R7.out.cell 2; have q6_1 : wO.cell? ⟨w.heap.size + 1, 1, none⟩ = some (.slice AA na ca) := R6.out.cell 1; have q7_1 : wO.cell? ⟨w.heap.size + 1 + 1, 1, none⟩ = some (.slice AB nb cb) := R7.out.cell 1; have q6_0 : wO.cell? ⟨w.heap.size + 1, 0, none⟩ = some (.int .i64 ka) := R6.out.cell 0; have q7_0 : wO.cell? ⟨w.heap.size + 1 + 1, 0, none⟩ = some (.int .i64 kb) := R7.out.cell 0; have H9 := hide h9; clear h9; have K9 := hide k9; clear k9; clear hbel) | (refine wpList_storeW rfl 77 (.tmp 9) (.tmp 50) rfl 3 seen_size (wO.heap.size) 77 rfl (seenC 0 (.slice none 0 0) (.slice none 0 0)) (seenC k (.slice A9 n9 c9) (.slice C9 m9 d9)) rfl (RowL.new wO 77 (seenC 0 (.slice none 0 0) (.slice none 0 0))) rfl rfl (seenC_one _ _ _ _ _ _ _) ?_; intro wS4 hr4 hg4 hs4; have hzb := below_stored' hg4; clear q6_2 q7_2 q6_1 q7_1 q6_0 q7_0; replace HB := hide (HB.out.trans (hzb.mono HB.out.size)); replace R4 := hide (R4.out.on hzb); replace R6 := hide (R6.out.on hzb); replace R7 := hide (R7.out.on hzb); replace HU := hide (HU.out.under hzb (by omega)); replace HL := hide (HL.out.under hzb (by omega)); replace HA := hide (HA.out.under hzb (by omega)); replace HC := hide (HC.out.under hzb (by omega)); replace HX := hide (HX.out.under hzb (by omega)); replace HY := hide (HY.out.under hzb (by omega)); replace H9 := hide (H9.out.under hzb (by omega)); replace K9 := hide (K9.out.under hzb (by omega)); have hsz5 := hzb.size; have q6_2 : wS4.cell? ⟨w.heap.size + 1, 2, none⟩ = some (.slice CA ma ea) := R6.out.cell 2; have q7_2 : wS4.cell? ⟨w.heap.size + 1 + 1, 2, none⟩ = some (.slice CB mb eb) := R7.out.cell 2; have q6_1 : wS4.cell? ⟨w.heap.size + 1, 1, none⟩ = some (.slice AA na ca) := R6.out.cell 1; have q7_1 : wS4.cell? ⟨w.heap.size + 1 + 1, 1, none⟩ = some (.slice AB nb cb) := R7.out.cell 1; have q6_0 : wS4.cell? ⟨w.heap.size + 1, 0, none⟩ = some (.int .i64 ka) := R6.out.cell 0; have q7_0 : wS4.cell? ⟨w.heap.size + 1 + 1, 0, none⟩ = some (.int .i64 kb) := R7.out.cell 0; have R9 := hide hr4; have hlt4 := hr4.lt; clear hzb hr4; clear hg4 hs4) | (refine wpList_loadW rfl 29 (.tmp 4) rfl 6 stk_agg stk_size (w.heap.size) 29 rfl (stkC g (.slice AU nU cU) (.slice AL nL cL)) R4.out rfl ?_) | (go_at_call 44; refine (RMOf_q HO.out wS4 HU.out HL.out (by omega) HF.out HFU.out (by omega)).mono ?_; rintro e6 wP ⟨A8, n8, c8, C8, m8, d8, rfl, h8, k8, hbel⟩; clear q6_2 q7_2 q6_1 q7_1 q6_0 q7_0; replace HB := hide (HB.out.trans (hbel.mono HB.out.size)); replace R4 := hide (R4.out.on hbel); replace R6 := hide (R6.out.on hbel); replace R7 := hide (R7.out.on hbel); replace HU := hide (HU.out.under hbel (by omega)); replace HL := hide (HL.out.under hbel (by omega)); replace HA := hide (HA.out.under hbel (by omega)); replace HC := hide (HC.out.under hbel (by omega)); replace HX := hide (HX.out.under hbel (by omega)); replace HY := hide (HY.out.under hbel (by omega)); replace H9 := hide (H9.out.under hbel (by omega)); replace K9 := hide (K9.out.under hbel (by omega)); replace R9 := hide (R9.out.on hbel); have hsz7 := hbel.size; have q6_2 : wP.cell? ⟨w.heap.size + 1, 2, none⟩ = some (.slice CA ma ea) := R6.out.cell 2; have q7_2 : wP.cell? ⟨w.heap.size + 1 + 1, 2, none⟩ = some (.slice CB mb eb) := R7.out.cell 2; have q6_1 : wP.cell? ⟨w.heap.size + 1, 1, none⟩ = some (.slice AA na ca) := R6.out.cell 1; have q7_1 : wP.cell? ⟨w.heap.size + 1 + 1, 1, none⟩ = some (.slice AB nb cb) := R7.out.cell 1; have q6_0 : wP.cell? ⟨w.heap.size + 1, 0, none⟩ = some (.int .i64 ka) := R6.out.cell 0; have q7_0 : wP.cell? ⟨w.heap.size + 1 + 1, 0, none⟩ = some (.int .i64 kb) := R7.out.cell 0; have H8 := hide h8; clear h8; have K8 := hide k8; clear k8; clear hbel) | (refine wpList_storeW rfl 77 (.tmp 11) (.tmp 56) rfl 3 seen_size (wP.heap.size) 77 rfl (seenC 0 (.slice none 0 0) (.slice none 0 0)) (seenC k (.slice A8 n8 c8) (.slice C8 m8 d8)) rfl (RowL.new wP 77 (seenC 0 (.slice none 0 0) (.slice none 0 0))) rfl rfl (seenC_one _ _ _ _ _ _ _) ?_; intro wS8 hr8 hg8 hs8; have hzb := below_stored' hg8; clear q6_2 q7_2 q6_1 q7_1 q6_0 q7_0; replace HB := hide (HB.out.trans (hzb.mono HB.out.size)); replace R4 := hide (R4.out.on hzb); replace R6 := hide (R6.out.on hzb); replace R7 := hide (R7.out.on hzb); replace HU := hide (HU.out.under hzb (by omega)); replace HL := hide (HL.out.under hzb (by omega)); replace HA := hide (HA.out.under hzb (by omega)); replace HC := hide (HC.out.under hzb (by omega)); replace HX := hide (HX.out.under hzb (by omega)); replace HY := hide (HY.out.under hzb (by omega)); replace H9 := hide (H9.out.under hzb (by omega)); replace K9 := hide (K9.out.under hzb (by omega)); replace R9 := hide (R9.out.on hzb); replace H8 := hide (H8.out.under hzb (by omega)); replace K8 := hide (K8.out.under hzb (by omega)); have hsz9 := hzb.size; have q6_2 : wS8.cell? ⟨w.heap.size + 1, 2, none⟩ = some (.slice CA ma ea) := R6.out.cell 2; have q7_2 : wS8.cell? ⟨w.heap.size + 1 + 1, 2, none⟩ = some (.slice CB mb eb) := R7.out.cell 2; have q6_1 : wS8.cell? ⟨w.heap.size + 1, 1, none⟩ = some (.slice AA na ca) := R6.out.cell 1; have q7_1 : wS8.cell? ⟨w.heap.size + 1 + 1, 1, none⟩ = some (.slice AB nb cb) := R7.out.cell 1; have q6_0 : wS8.cell? ⟨w.heap.size + 1, 0, none⟩ = some (.int .i64 ka) := R6.out.cell 0; have q7_0 : wS8.cell? ⟨w.heap.size + 1 + 1, 0, none⟩ = some (.int .i64 kb) := R7.out.cell 0; have R11 := hide hr8; have hlt8 := hr8.lt; clear hzb hr8; clear hg8 hs8))
 have hm9 : m9 ≤ 1000 := by have := K9.out.1; omega
 have hn9 : n9 ≤ 1000 := by have := H9.out.1; omega
 refine wp_region_planN (fun w' => Below wS8.heap.size wS8 w') [(0, true), (1, true), (2, false), (3, true), (4, true), (5, true), (6, true), (7, true), (8, true), (9, true), (10, true), (12, true), (13, true), (11, false), (14, false), (15, true), (16, true), (17, true), (18, false), (19, true), (20, true)] (by kernel_rfl) (by kernel_rfl) (by kernel_rfl) (by kernel_rfl) rfl (fun _ _ _ _ _ h => h) (below_drew (below_self wS8)) (fun hHeld => ?_)
 simp only [planOps, List.filterMap_cons, List.filterMap_nil, List.getElem?_toArray, List.getElem?_cons_succ, List.getElem?_cons_zero, Option.map_some]
 refine wpPlan_take (v := ?_) (by kernel_rfl) (fun wS hSw => ?_) ?_
 rotate_left
 ·refine execOp_load (x := .tmp 9) (k := 3) (g := wO.heap.size) (off := 0) (cs := (seenC k (.slice A9 n9 c9) (.slice C9 m9 d9))) ?_ seen_agg seen_size ?_ (fun j v hv => by rw [Nat.zero_add]; exact ((R9.out.on hSw).cell j).trans hv) rfl <;> rfl
 (try simp only [Act.put, pu1, pu2, pu3])
 refine wpPlan_take (v := ?_) (by kernel_rfl) (fun wS hSw => ?_) ?_
 rotate_left
 ·refine execOp_load (x := .tmp 11) (k := 3) (g := wP.heap.size) (off := 0) (cs := (seenC k (.slice A8 n8 c8) (.slice C8 m8 d8))) ?_ seen_agg seen_size ?_ (fun j v hv => by rw [Nat.zero_add]; exact ((R11.out.on hSw).cell j).trans hv) rfl <;> rfl
 (try simp only [Act.put, pu1, pu2, pu3])
 refine wpPlan_call (by kernel_rfl) (fun K hK => ?_)
 have hOld := hide hHeld
 clear hHeld
 go_simp
 go_at_call 45
 refine (RMSame_any (S := (k, d, nm)) (R := (k, d, nm)) (b := true) (by simp) _ (Bs.of_rd (und_up (H9.out.under hOld.out (by omega)) (by have := hOld.out.size; omega))) (Bs.of_rd (und_up (H8.out.under hOld.out (by omega)) (by have := hOld.out.size; omega))) (txt_rd (und_up (K9.out.under hOld.out (by omega)) (by have := hOld.out.size; omega))) (txt_rd (und_up (K8.out.under hOld.out (by omega)) (by have := hOld.out.size; omega))) (by omega) (by omega)).mono ?_
 rintro e w' ⟨rfl, hbel⟩
 refine hK.out _ _ (hOld.out.trans (hbel.mono hOld.out.size)) (fun hHeld => ?_)
 clear hK K
 (try simp only [Act.put, pu1, pu2, pu3])
 iterate 3
  refine wpPlan_take (v := ?_) (by kernel_rfl) (fun wS hSw => ?_) ?_
  rotate_left
  ·(try dsimp only at hSw); go_simp; (try with_reducible rfl)
  (try simp only [Act.put, pu1, pu2, pu3])
 refine wpPlan_take (v := ?_) (by kernel_rfl) (fun wS hSw => ?_) ?_
 rotate_left
 ·(try dsimp only at hSw); have qx : (r == r) = true := (by simp); go_simp; (try with_reducible rfl)
 (try simp only [Act.put, pu1, pu2, pu3])
 iterate 2
  refine wpPlan_take (v := ?_) (by kernel_rfl) (fun wS hSw => ?_) ?_
  rotate_left
  ·(try dsimp only at hSw); go_simp; (try with_reducible rfl)
  (try simp only [Act.put, pu1, pu2, pu3])
 refine wpPlan_take (v := ?_) (by kernel_rfl) (fun wS hSw => ?_) ?_
 rotate_left
 ·refine execOp_load (x := .tmp 6) (k := 3) (g := w.heap.size + 1) (off := 0) (cs := (seenC ka (.slice AA na ca) (.slice CA ma ea))) ?_ seen_agg seen_size ?_ (fun j v hv => by rw [Nat.zero_add]; exact ((R6.out.on hSw).cell j).trans hv) rfl <;> rfl
 (try simp only [Act.put, pu1, pu2, pu3])
 refine wpPlan_take (v := ?_) (by kernel_rfl) (fun wS hSw => ?_) ?_
 rotate_left
 ·refine execOp_load (x := .tmp 7) (k := 3) (g := w.heap.size + 1 + 1) (off := 0) (cs := (seenC kb (.slice AB nb cb) (.slice CB mb eb))) ?_ seen_agg seen_size ?_ (fun j v hv => by rw [Nat.zero_add]; exact ((R7.out.on hSw).cell j).trans hv) rfl <;> rfl
 (try simp only [Act.put, pu1, pu2, pu3])
 refine wpPlan_take (v := ?_) (by kernel_rfl) (fun wS hSw => ?_) ?_
 rotate_left
 ·refine execOp_load (x := .tmp 6) (k := 3) (g := w.heap.size + 1) (off := 0) (cs := (seenC ka (.slice AA na ca) (.slice CA ma ea))) ?_ seen_agg seen_size ?_ (fun j v hv => by rw [Nat.zero_add]; exact ((R6.out.on hSw).cell j).trans hv) rfl <;> rfl
 (try simp only [Act.put, pu1, pu2, pu3])
 refine wpPlan_take (v := ?_) (by kernel_rfl) (fun wS hSw => ?_) ?_
 rotate_left
 ·refine execOp_load (x := .tmp 7) (k := 3) (g := w.heap.size + 1 + 1) (off := 0) (cs := (seenC kb (.slice AB nb cb) (.slice CB mb eb))) ?_ seen_agg seen_size ?_ (fun j v hv => by rw [Nat.zero_add]; exact ((R7.out.on hSw).cell j).trans hv) rfl <;> rfl
 (try simp only [Act.put, pu1, pu2, pu3])
 refine wpPlan_call (by kernel_rfl) (fun K hK => ?_)
 have hOld := hide hHeld
 clear hHeld
 go_simp
 go_at_call 46
 refine (MSame_any (S := (ka, da, la)) (R := (kb, db, lb)) HQ.out _ (Bs.of_rd (und_up (HA.out.under hOld.out (by omega)) (by have := hOld.out.size; omega))) (Bs.of_rd (und_up (HX.out.under hOld.out (by omega)) (by have := hOld.out.size; omega))) (txt_rd (und_up (HC.out.under hOld.out (by omega)) (by have := hOld.out.size; omega))) (txt_rd (und_up (HY.out.under hOld.out (by omega)) (by have := hOld.out.size; omega))) (by omega)).mono ?_
 rintro e w' ⟨rfl, hbel⟩
 refine hK.out _ _ (hOld.out.trans (hbel.mono hOld.out.size)) (fun hHeld => ?_)
 clear hK K
 (try simp only [Act.put, pu1, pu2, pu3])
 refine wpPlan_call (by kernel_rfl) (fun K hK => ?_)
 have hOld := hide hHeld
 clear hHeld
 go_simp
 go_at_call 45
 refine (RMSame_any (S := (ka, da, la)) (R := (kb, db, lb)) HQ.out _ (Bs.of_rd (und_up (HA.out.under hOld.out (by omega)) (by have := hOld.out.size; omega))) (Bs.of_rd (und_up (HX.out.under hOld.out (by omega)) (by have := hOld.out.size; omega))) (txt_rd (und_up (HC.out.under hOld.out (by omega)) (by have := hOld.out.size; omega))) (txt_rd (und_up (HY.out.under hOld.out (by omega)) (by have := hOld.out.size; omega))) (by omega) (by omega)).mono ?_
 rintro e w' ⟨rfl, hbel⟩
 refine hK.out _ _ (hOld.out.trans (hbel.mono hOld.out.size)) (fun hHeld => ?_)
 clear hK K
 (try simp only [Act.put, pu1, pu2, pu3])
 refine wpPlan_take (v := ?_) (by kernel_rfl) (fun wS hSw => ?_) ?_
 rotate_left
 ·(try dsimp only at hSw); have qx : (b == b) = true := (by simp); go_simp; (try with_reducible rfl)
 (try simp only [Act.put, pu1, pu2, pu3])
 iterate 2
  refine wpPlan_take (v := ?_) (by kernel_rfl) (fun wS hSw => ?_) ?_
  rotate_left
  ·(try dsimp only at hSw); go_simp; (try with_reducible rfl)
  (try simp only [Act.put, pu1, pu2, pu3])
 refine wpPlan_call (by kernel_rfl) (fun K hK => ?_)
 have hOld := hide hHeld
 clear hHeld
 go_simp
 go_at_call 36
 refine (awake18_any _).mono ?_
 rintro e w' ⟨rfl, hbel⟩
 refine hK.out _ _ (hOld.out.trans (hbel.mono hOld.out.size)) (fun hHeld => ?_)
 clear hK K
 (try simp only [Act.put, pu1, pu2, pu3])
 iterate 2
  refine wpPlan_take (v := ?_) (by kernel_rfl) (fun wS hSw => ?_) ?_
  rotate_left
  ·(try dsimp only at hSw); go_simp; (try with_reducible rfl)
  (try simp only [Act.put, pu1, pu2, pu3])
 refine wpPlan_end ?_
 have HBX := hide (HB.out.trans (hHeld.mono HB.out.size))
 clear hHeld
 go_wp2_with fail
 go_ret
 exact LawOk.of HBX.out
end Go.Proofs.YtabhgoekpbmdlaaGreat

namespace Go.Proofs.YtabhgoekpbmdlaaGreat
open Go.RowKit Go.Shelf Plain Go.WideShapes Go.ChangeShapes

section
variable {H : Type} {enc : TypeId × Value → H} {w : World} {spare : Nat → Bool} {held : Bool}
theorem six_ {l : List Value} (h : l.length = 6) : ∃ a b c d e f, l = [a, b, c, d, e, f] := by
 match l, h with
 | [a, b, c, d, e, f], _ => exact ⟨a, b, c, d, e, f, rfl⟩
set_option maxRecDepth 100000 in
theorem trod_lay {fuel : Nat} {cs : List Value} {y : DataW H × List MemPlace} (hl : cs.length = 1) (h : DataW.trod enc Tryz.prog w 0 spare held fuel 26 cs = some y) : ∃ x : List NodV, layEn.R w (Under w.heap.size) cs x ∧ ∀ d ∈ x, d.ents.length ≤ maxLen := by
 obtain ⟨c0, rfl⟩ := one_cell hl
 obtain ⟨xs, n, -, -, -, hlen, hp⟩ := DataW.trod_struct Tryz.underlying26 h
 match xs, hlen, hp with
 | [x0], _, hp =>
  obtain ⟨A, n, c, ns, e1, hn, -, r, hfine⟩ := open_rdeF (e := 63) (cs := [c0]) nodEn (fun x => x.ents.length ≤ maxLen) Tryz.underlying24 (by kernel_rfl) (by decide) (fun _ cs _ hl hy => trod_node hl hy) (hp 0 _ rfl)
  cases e1
  exact ⟨ns, ⟨A, n, c, rfl, hn, r⟩, hfine⟩
set_option maxRecDepth 100000 in
theorem open_stack {r : Reach} {b0 : Nat} {v : Value} {d : DataW H} {p : List MemPlace} (hv : Value.okWide Tryz.prog w r b0 29 v) (h : DataW.Trod enc Tryz.prog w 0 spare held 29 v d p) :
  ∃ (g : GeoQ) (AU AL : Option Addr) (nU cU nL cL : Nat) (up : List NodV) (ls : List (List NodV)), v = .agg (stkC g (.slice AU nU cU) (.slice AL nL cL)).toArray ∧ nU ≤ cU ∧ nL ≤ cL ∧ RdE nodEn w (Under w.heap.size) AU nU up ∧ RdE layEn w (Under w.heap.size) AL nL ls ∧ (∀ x ∈ up, x.ents.length ≤ maxLen) ∧ ∀ ns ∈ ls, ∀ x ∈ ns, x.ents.length ≤ maxLen := by
 obtain ⟨cs, rfl, hsz⟩ := okWide_struct Tryz.underlying29 hv
 have hC : Tryz.prog.cellsOf 29 = 6 := by kernel_rfl
 obtain ⟨l⟩ := cs
 obtain ⟨c0, c1, c2, c3, c4, c5, rfl⟩ := six_ (l := l) (hsz.trans hC)
 obtain ⟨fuel, hf⟩ := h
 obtain ⟨xs, n, -, -, -, hlen, hp⟩ := DataW.trod_struct Tryz.underlying29 hf
 match xs, hlen, hp with
 | [x0, x1, x2], _, hp =>
  have p0 := hp 0 _ rfl
  have p1 := hp 1 _ rfl
  obtain ⟨ys, m, -, -, -, hyl, hq⟩ := DataW.trod_struct Tryz.underlying23 (cs := [c0, c1, c2, c3]) p0
  match ys, hyl, hq with
  | [y0, y1, y2, y3], _, hq =>
   obtain ⟨a0, rfl⟩ := cell_i64 (c := c0) (hq 0 _ rfl)
   obtain ⟨a1, rfl⟩ := cell_i64 (c := c1) (hq 1 _ rfl)
   obtain ⟨a2, rfl⟩ := cell_i64 (c := c2) (hq 2 _ rfl)
   obtain ⟨a3, rfl⟩ := cell_i64 (c := c3) (hq 3 _ rfl)
   obtain ⟨up, ⟨AU, nU, cU, eU, hU, rU⟩, fU⟩ := trod_lay (cs := [c4]) rfl p1
   obtain ⟨AL, nL, cL, ls, eL, hL, -, rL, fL⟩ := open_rdeF (e := 26) (cs := [c5]) layEn (fun ns => ∀ x ∈ ns, x.ents.length ≤ maxLen) Tryz.underlying27 (by kernel_rfl) (by decide) (fun _ cs _ hl hy => trod_lay hl hy) (hp 2 _ rfl)
   cases eU
   cases eL
   exact ⟨⟨a0, a1, a2, a3⟩, AU, AL, nU, cU, nL, cL, up, ls, rfl, hU, hL, rU, rL, fU, fL⟩
end
end Go.Proofs.YtabhgoekpbmdlaaGreat

namespace Go.Proofs.YtabhgoekpbmdlaaGreat
open Go.RowKit Go.Shelf Plain Go.WideShapes Go.ChangeShapes

section
variable {H : Type} {enc : TypeId × Value → H} {w : World} {spare : Nat → Bool} {held : Bool}
theorem three_ {l : List Value} (h : l.length = 3) : ∃ a b c, l = [a, b, c] := by
 match l, h with
 | [a, b, c], _ => exact ⟨a, b, c, rfl⟩
set_option maxRecDepth 100000 in
theorem open_seen {r : Reach} {b0 : Nat} {v : Value} {d : DataW H} {p : List MemPlace} (hv : Value.okWide Tryz.prog w r b0 77 v) (h : DataW.Trod enc Tryz.prog w 0 spare held 77 v d p) :
  ∃ (k : Int) (A C : Option Addr) (n c m e : Nat) (sd : List UInt8) (sn : List (List UInt8)), v = .agg (seenC k (.slice A n c) (.slice C m e)).toArray ∧ n ≤ c ∧ RdE Enc.byte w (Under w.heap.size) A n sd ∧ m ≤ e ∧ RdE Enc.text w (Under w.heap.size) C m sn := by
 obtain ⟨cs, rfl, hsz⟩ := okWide_struct Tryz.underlying77 hv
 have hC : Tryz.prog.cellsOf 77 = 3 := by kernel_rfl
 obtain ⟨l⟩ := cs
 obtain ⟨c0, c1, c2, rfl⟩ := three_ (l := l) (hsz.trans hC)
 obtain ⟨fuel, hf⟩ := h
 obtain ⟨xs, n, -, -, -, hlen, hp⟩ := DataW.trod_struct Tryz.underlying77 hf
 match xs, hlen, hp with
 | [x0, x1, x2], _, hp =>
  obtain ⟨a0, rfl⟩ := cell_i64 (c := c0) (hp 0 _ rfl)
  obtain ⟨A, n1, d1, l1, e1, hn1, -, r1, -⟩ := open_rdeF (e := 5) (cs := [c1]) Enc.byte (fun _ => True) Tryz.underlying56 (by kernel_rfl) (by decide) (fun _ cs _ hl hy => by
   obtain ⟨c, rfl⟩ := one_cell hl
   obtain ⟨b, rfl⟩ := cell_u8 hy
   exact ⟨b, rfl, trivial⟩) (hp 1 _ rfl)
  obtain ⟨C, n2, d2, l2, e2, hn2, -, r2, -⟩ := open_rdeF (e := 9) (cs := [c2]) Enc.text (fun _ => True) Tryz.underlying44 (by kernel_rfl) (by decide) (fun _ cs _ hl hy => by
   obtain ⟨c, rfl⟩ := one_cell hl
   obtain ⟨b, rfl⟩ := cell_str hy
   exact ⟨b, rfl, trivial⟩) (hp 2 _ rfl)
  cases e1
  cases e2
  exact ⟨a0, A, C, n1, d1, n2, d2, l1, l2, rfl, hn1, r1, hn2, r2⟩
end
end Go.Proofs.YtabhgoekpbmdlaaGreat

