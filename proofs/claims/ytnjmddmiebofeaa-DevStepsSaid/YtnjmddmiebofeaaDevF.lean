/- Writes that wait, in memory; the contract of the program's dev Waiting. -/
import Derived.Test.YtnjmddmiebofeaaDevE
namespace Go.Proofs.Ytnjmddmiebofeaa
open Go.RowKit Plain

theorem wrt_agg : ∀ w, (isAgg 90).run Try.prog w = .ok true w := fun w => by simp [go_sem]
theorem wrt_size : ∀ w, (Go.sizeOf 90).run Try.prog w = .ok 65 w := fun w => by simp [go_sem]
def zwrt : Value := .agg (Value.int .i64 0 :: bvs (zeros 64)).toArray
theorem wrt_zero : ∀ w, (zeroValue 90).run Try.prog w = .ok zwrt w := fun w => by simp [go_sem, zwrt, bvs, zeros, bv, List.replicate]; kernel_rfl
theorem wrt_info : (Try.prog.info? 90).map (fun i => (i.zero, i.size, i.bytes)) = some (some zwrt, 65, 72) := by kernel_rfl
def wcell (p : Int × List UInt8) : List Value := Value.int .i64 p.1 :: bvs p.2
theorem wcell_len {p : Int × List UInt8} (h : p.2.length = 64) : (wcell p).length = 65 := by simp [wcell, bvs_length, h]
theorem wcell_one (p : Int × List UInt8) : ∀ u ∈ wcell p, u.oneCell' = true := by
  intro u hu
  rcases List.mem_cons.1 hu with rfl | h
  · rfl
  · exact bvs_one _ u h
theorem wcells_flat (l : List (Int × List UInt8)) : wcells l = (l.map wcell).flatten := by unfold wcells; rw [List.flatMap_def]; rfl
theorem wcells_snoc (l : List (Int × List UInt8)) (p : Int × List UInt8) : wcells (l ++ [p]) = wcells l ++ wcell p := by simp [wcells, wcell]
theorem wt_get {w : World} {base m c k : Nat} {A : Option Addr} {wait : List (Int × List UInt8)} {p : Int × List UInt8} (h : w.ownsRow base 90 65 (.slice A m c) m (wcells wait)) (hm : wait.length = m) (h64 : ∀ p ∈ wait, p.2.length = 64) (hk : wait[k]? = some p) :
    ∃ g cs, A = some ⟨g, 0, none⟩ ∧ base ≤ g ∧ RowL w g 90 cs ∧ (cs.drop (k * 65)).take 65 = wcell p ∧ (wcell p).length = 65 := by
  have hkm : k < m := by have := (List.getElem?_eq_some_iff.1 hk).1; omega
  have hp := h64 p (List.mem_of_getElem? hk)
  rcases h.2 with ⟨_, h0⟩ | ⟨g, cap, cur, h1, h2, h3, h4, h5, h6, h7⟩
  · omega
  · cases h1
    refine ⟨g, cur.toList, rfl, h2, by simpa [RowL] using h3, ?_, wcell_len hp⟩
    have hlens : ∀ cs ∈ wait.map wcell, cs.length = 65 := by
      intro cs hcs
      obtain ⟨q, hq, rfl⟩ := List.mem_map.1 hcs
      exact wcell_len (h64 q hq)
    apply List.ext_getElem?
    intro j
    by_cases hj : j < 65
    · rw [List.getElem?_take_of_lt hj, List.getElem?_drop]
      have e := flat_get hlens (i := k) (j := j) (cs := wcell p) (by rw [List.getElem?_map, hk]; rfl) hj
      rw [← wcells_flat, ← h7] at e
      have hlt : k * 65 + j < m * 65 := by omega
      rw [List.getElem?_take_of_lt hlt] at e
      exact e
    · rw [List.getElem?_eq_none (by simp; omega), List.getElem?_eq_none (by rw [wcell_len hp]; omega)]
theorem box_wrt {w : World} {g : Nat} {p : Int × List UInt8} (h : RowL w g 90 (splice zwrt.cells.toList 0 (wcell p))) (hp : p.2.length = 64) : RowL w g 90 (wcell p) := by
  have e : splice zwrt.cells.toList 0 (wcell p) = wcell p := splice_all _ _ (by rw [wcell_len hp]; decide)
  rwa [e] at h
def iF (x : Int) : Value := .int .i64 x
theorem info_intD : (Try.prog.info? 3).map (fun i => (i.zero, i.size, i.bytes)) = some (some (.int .i64 0), 1, 8) := by kernel_rfl
theorem wpList_make_intsD {P : Program} (w : World) {ops : Array Oper} {rest : List Oper} {o : Oper} {a : Act} {Q : Exit → Act → World → Prop}
    (hg : o.guard = none) (l c : Operand) (t : TypeId) (hop : o.op = Op.makeSlice t l c) (e : TypeId) (h1 : P.underlying t = some (.slice e))
    (hinfo : (P.info? e).map (fun i => (i.zero, i.size, i.bytes)) = some (some (.int .i64 0), 1, 8))
    (kl kc : IntKind) (L C : Int) (n : Nat) (hl : a.eval l = .int kl L) (hc : a.eval c = .int kc C) (hL : L = (n : Int)) (hC : C = (n : Int)) (hn : n ≤ 1000000)
    (hK : ∀ w', RowL w' w.heap.size e (List.replicate n (.int .i64 0)) → Below w.heap.size w w' → wpList P ops Q rest (a.put o.dst (.slice (some ⟨w.heap.size, 0, none⟩) n n)) w') :
    wpList P ops Q (o :: rest) a w := by
  obtain ⟨i, hi, hz, hsz, hby⟩ := info_parts hinfo
  refine wpList_make_full w hg l c t hop w.heap.size e i (.int .i64 0) 1 h1 hi hz hsz kl kc L C n hl hc hL hC (by rw [hby]; omega) (by simp only [maxLen]; omega) (Nat.le_refl _) ?_
  intro w' hown hgr
  refine hK w' ?_ ((Below.refl _ _).grown hgr (Nat.le_refl _) (by simp))
  have := RowL.of_own hown
  rw [show (Value.int .i64 0).cells = #[Value.int .i64 0] from rfl, toList_madeCells_one, Nat.mul_one] at this
  exact this
/-- What Waiting has laid of its list. -/
def wv (wait : List (Int × List UInt8)) (m k : Nat) : List Value := ((wait.take k).map fun p => iF p.1) ++ List.replicate (m - k) (.int .i64 0)
theorem wv_zero (wait : List (Int × List UInt8)) (m : Nat) : wv wait m 0 = List.replicate m (.int .i64 0) := by simp [wv]
theorem wv_length {wait : List (Int × List UInt8)} {m k : Nat} (hm : wait.length = m) (hk : k ≤ m) : (wv wait m k).length = m := by simp [wv]; omega
theorem wv_set {wait : List (Int × List UInt8)} {m k : Nat} {p : Int × List UInt8} (hm : wait.length = m) (hk : wait[k]? = some p) : (wv wait m k).set k (.int .i64 p.1) = wv wait m (k + 1) := by
  have hkm : k < m := by have := (List.getElem?_eq_some_iff.1 hk).1; omega
  unfold wv
  have h1 : ((wait.take k).map fun p => iF p.1).length = k := by simp; omega
  rw [List.set_append_right _ _ (by omega), h1, Nat.sub_self]
  obtain ⟨q, hq⟩ : ∃ q, m - k = q + 1 := ⟨m - k - 1, by omega⟩
  rw [hq, List.replicate_succ, List.set_cons_zero, show m - (k + 1) = q from by omega]
  have h2 : wait.take (k + 1) = wait.take k ++ [p] := by
    rw [List.take_add_one, hk]
    rfl
  rw [h2, List.map_append]
  simp [iF]
/-- It returns numbers of its own. -/
def IRet (w : World) (l : List Int) (x : Ending) (w' : World) : Prop := ∃ A n c, x = .returned (.slice A n c) ∧ Ow iF w' w.heap.size 3 A n c l ∧ Below w.heap.size w w'

set_option maxRecDepth 100000 in
set_option maxHeartbeats 1600000 in
theorem DWaiting_any {w : World} {base dp : Nat} {s : DSt} (h : DK w base dp s) (ok : DOk s) :
    Calls Try.prog 17 #[dptr dp] w (IRet w (s.wait.map (·.1))) := by
  unfold dptr
  obtain ⟨safe, last, wait, armed, off, left, wn, fl⟩ := s
  obtain ⟨gs, cs, gl, cl, A, c, hne, hbd, hr, hs, hl, hw⟩ := h
  simp only [dcells] at hr hs hl hw
  have hm2 := ok.m
  have h64 : ∀ p ∈ wait, p.2.length = 64 := fun p hp => (ok.at_ p hp).2.2
  dsimp only at hm2 ⊢
  obtain ⟨m, hm⟩ : ∃ m, wait.length = m := ⟨_, rfl⟩
  rw [hm] at hr hw hm2
  obtain ⟨⟨c0, c1, c2, c3, c4, c5, c6, c7⟩, f0, f1, f2, f3, f4, f5, f6, f7⟩ := RowL.eight hr
  have HDP := hide hr.lt
  have HW := hide hw
  have H64 := hide h64
  have HM := hide hm
  clear hs hl hw hr h64 hm ok c0 c1 c3 c4 c5 c6 c7 f0 f1 f2 f3 f4 f5 f6 f7
  have h2 : ∀ W, Below w.heap.size w W → W.cell? ⟨dp, 2, none⟩ = some (.slice A m c) := fun W hb => (hb.cell (p := ⟨dp, 2, none⟩) HDP.out).trans c2
  have HC2 := hide h2
  clear h2
  go_enter Try.func17, Try.ntmps17
  go_wp2_with (at_make; refine wpList_make_intsD _ rfl (.tmp 12) (.tmp 12) 45 rfl 3 Try.underlying45 info_intD .i64 .i64 _ _ m rfl rfl rfl rfl (by omega) ?_; intro w1 hr1 hb1; have c21 := HC2.out _ hb1; have HR1 := hide hr1; have HB1 := hide hb1; clear hr1 hb1 c2)
  go_loopw [19] (fun iv wr => ∃ k : Nat, k ≤ m ∧ iv = .int .i64 k ∧ RowL wr w.heap.size 3 (wv wait m k) ∧ Below w.heap.size w wr) (fun iv _ => m - (intOf iv).toNat)
  case atStart => exact ⟨0, by omega, rfl, by rw [wv_zero]; exact HR1.out, HB1.out⟩
  case round =>
    obtain ⟨k, hk, rfl, hr, hbel⟩ := hrel
    have HR := hide hr
    have HB := hide hbel
    clear hr hbel
    by_cases hlt : k < m
    · obtain ⟨p, hp⟩ : ∃ p, wait[k]? = some p := ⟨_, List.getElem?_eq_getElem (by have := HM.out; omega)⟩
      obtain ⟨gw, ws, rfl, hgb, hgr, hgc, hg65⟩ := wt_get HW.out HM.out H64.out hp
      have HGR : Hid (RowL wr gw 90 ws) := hide ((HB.out.block gw hgr.lt).trans hgr)
      have HGC := hide hgc
      have HG65 := hide hg65
      have HP64 := hide (H64.out p (List.mem_of_getElem? hp))
      have HSET := hide (wv_set HM.out hp)
      have hcl := wv_length HM.out hk
      obtain ⟨u, hu⟩ : ∃ u, (wv wait m k)[k]? = some u := ⟨_, List.getElem?_eq_getElem (by omega)⟩
      have HU := hide hu
      clear hcl hu
      obtain ⟨q, hq⟩ : ∃ q, p.1 = q := ⟨_, rfl⟩
      have HQ := hide hq
      clear hgr hgc hg65 hp hgb hq
      go_wp2_with (first
        | (with_reducible refine wpList_loadC rfl 90 (.tmp 22) rfl 65 wrt_agg wrt_size gw (k * 65) 90 rfl ws (wcell p) HGR.out HGC.out HG65.out ?_)
        | (with_reducible refine wpList_allocC rfl 90 rfl zwrt wrt_zero ?_; intro w2 hr2 hb2 hz2; have HR2 := hide hr2; have HB2 := hide hb2; clear hr2 hb2 hz2)
        | ((with_reducible refine wpList_storeC rfl 90 (.tmp 5) (.tmp 23) rfl 65 wrt_size wr.heap.size 0 90 rfl _ (wcell p) rfl HR2.out HG65.out (by decide) (wcell_one _) ?_); intro w3 hr3 hb3 hz3; have hb0 := RowL.cell (box_wrt hr3 HP64.out) 0; have hbx : w3.cell? ⟨wr.heap.size, 0, none⟩ = some (.int .i64 q) := (by rw [← HQ.out]; exact hb0); have HB3 : Hid (Below wr.heap.size wr w3) := hide (HB2.out.grown hb3 HB2.out.size (by intro q hq; cases hq; exact Nat.le_refl _)); have HR3 : Hid (RowL w3 w.heap.size 3 (wv wait m k)) := hide ((HB3.out.block _ HR.out.lt).trans HR.out); have hcx : w3.cell? ⟨w.heap.size, k, none⟩ = some u := (by rw [HR3.out.cell, HU.out]); have hfx := HR3.out.frozen k; clear hr3 hb3 hz3 hb0))
      go_roundw
      case rel => exact ⟨k + 1, by omega, by go_num, by rw [← HSET.out, HQ.out]; exact HR3.out.set_ _ _, (HB.out.trans (HB3.out.mono HB.out.size)).setCell (Nat.le_refl _) _⟩
      case measure => simp [intOf]; omega
    · obtain rfl : k = m := by omega
      have HL : Hid (wv wait k k = (wait.map (·.1)).map iF) := hide (by
        unfold wv
        rw [List.take_of_length_le (by have := HM.out; omega), Nat.sub_self]
        simp)
      go_wp2_with fail
      go_ret
      have h := HR.out
      rw [HL.out] at h
      have hml := HM.out
      have := RowL.own (base := w.heap.size) (n := k) (cap := k) h (Nat.le_refl _) (Nat.le_refl _) (by unfold maxLen; omega) (by simp; omega)
      rw [List.take_of_length_le (by simp; omega)] at this
      exact ⟨_, _, _, rfl, this, HB.out⟩
end Go.Proofs.Ytnjmddmiebofeaa
