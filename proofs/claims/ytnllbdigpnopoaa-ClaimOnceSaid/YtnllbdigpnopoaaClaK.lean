/- claim: Used (layer 11): a range over a map. -/
import Derived.Test.YtnllbdigpnopoaaClaJ
import Derived.Maps.RangeWalk
namespace Go.Proofs.Ytnllbdigpnopoaa
open Go.RowKit Go.Shelf Plain Go.Maps

/-- make([]T, n) of one cell each. -/
theorem wpList_make_R {P : Program} (w : World) {ops : Array Oper} {rest : List Oper} {o : Oper} {a : Act} {Q : Exit → Act → World → Prop}
    (hg : o.guard = none) (l c : Operand) (t : TypeId) (hop : o.op = Op.makeSlice t l c) (e : TypeId) (h1 : P.underlying t = some (.slice e)) (z : Value) (hz1 : z.cells = #[z]) (k : Nat)
    (hinfo : (P.info? e).map (fun i => (i.zero, i.size, i.bytes)) = some (some z, 1, k))
    (kl kc : IntKind) (L C : Int) (n : Nat) (hl : a.eval l = .int kl L) (hc : a.eval c = .int kc C) (hL : L = (n : Int)) (hC : C = (n : Int)) (hn : k * n ≤ 140737488355328) (hn2 : n ≤ 140737488355328)
    (hK : ∀ w', RowL w' w.heap.size e (List.replicate n z) → Below w.heap.size w w' → wpList P ops Q rest (a.put o.dst (.slice (some ⟨w.heap.size, 0, none⟩) n n)) w') :
    wpList P ops Q (o :: rest) a w := by
  obtain ⟨i, hi, hz, hsz, hby⟩ := info_parts hinfo
  refine wpList_make_full w hg l c t hop w.heap.size e i z 1 h1 hi hz hsz kl kc L C n hl hc hL hC (by rw [hby]; omega) (by simp only [maxLen]; omega) (Nat.le_refl _) ?_
  intro w' hown hgr
  refine hK w' ?_ ((Below.refl _ _).grown hgr (Nat.le_refl _) (by simp))
  have := RowL.of_made hown
  rw [hz1, toList_madeCells_one, Nat.mul_one] at this
  exact this
/-- What was come to, of k. -/
def cameB (D : DataW Unit) (left : Lit → Bool) (k : Nat) : List Value := (List.range k).map (fun (i : Nat) => .bool (Maps.has D (.int .i64 ((i : Int) + 1)) && !left (.int .i64 ((i : Int) + 1))))
theorem cameB_len (D : DataW Unit) (left : Lit → Bool) (k : Nat) : (cameB D left k).length = k := by simp [cameB]
theorem cameB_start (D : DataW Unit) (k : Nat) : cameB D (Maps.has D) k = List.replicate k (.bool false) := by
  unfold cameB
  apply List.ext_getElem?
  intro i
  simp only [List.getElem?_map, List.getElem?_replicate]
  by_cases h : i < k
  · simp [h]
  · simp [h]
theorem cameB_step {D : DataW Unit} {left : Lit → Bool} {k j : Nat} (hj : j < k) (hh : Maps.has D (.int .i64 ((j : Int) + 1)) = true) : (cameB D left k).set j (.bool true) = cameB D (fun z => left z && !z.sameKey (.int .i64 ((j : Int) + 1))) k := by
  unfold cameB
  apply List.ext_getElem?
  intro i
  rw [List.getElem?_set]
  simp only [List.getElem?_map, List.length_map, List.length_range]
  by_cases e : j = i
  · subst e
    simp [hj, hh, Lit.sameKey]
  · rw [if_neg e]
    by_cases h : i < k
    · have hne : ¬ ((i : Int) = (j : Int)) := by omega
      simp [h, Lit.sameKey, hne]
    · simp [h]
theorem cameB_end {D : DataW Unit} {left : Lit → Bool} {ps : List Int} {k : Nat} (hl : ∀ kl, left kl = false) (hk : k ≤ 512) (hD : MapIs D (mapF ps k ps.length)) : cameB D left k = (usedQ ps k).map Value.bool := by
  unfold cameB usedQ
  rw [List.map_map]
  apply List.map_congr_left
  intro i hi
  have hi := List.mem_range.1 hi
  have h1 := (hD ((i : Int) + 1) (wf_64 (by unfold w64; omega))).1
  rw [hl, h1, mapF_all, if_pos (by omega)]
  simp
theorem has_in {D : DataW Unit} {ps : List Int} {m x : Int} (hD : MapIs D (mapF ps m ps.length)) (hx : (Lit.int .i64 x).wf = true) {y : DataW Unit} (hat : ∀ zd, D.atKey (.int .i64 x) zd = y) : Maps.has D (.int .i64 x) = true ∧ 1 ≤ x ∧ x ≤ m := by
  have hh := has_true_of_atKey hat
  refine ⟨hh, ?_⟩
  have h1 := (hD x hx).1
  rw [hh, mapF_all] at h1
  by_cases h : 1 ≤ x ∧ x ≤ m
  · exact h
  · rw [if_neg h] at h1; cases h1
set_option maxRecDepth 100000 in
set_option maxHeartbeats 1000000 in
theorem Used_any {A : Option Addr} {n c : Nat} {l : List InoV} {m : Int} (w : World) (h : RdE inoEn w (Under w.heap.size) A n l) (hn : n ≤ 100) : Calls Try.prog 15 #[.slice A n c, .int .i64 m] w (ORet Value.bool w 4 (usedS (flatP l) m).length (usedS (flatP l) m)) := by
  by_cases h1 : m < 1
  · rw [usedS_no (by omega)]
    go_enter Try.func15, Try.ntmps15
    go_wp2
    go_ret
    exact (Ow.nil_ Value.bool w w.heap.size 4).ret (below_self w)
  have d1 : decide (m < 1) = false := by simpa using h1
  by_cases h2 : 512 < m
  · rw [usedS_no (by omega)]
    go_enter Try.func15, Try.ntmps15
    go_wp2
    go_ret
    exact (Ow.nil_ Value.bool w w.heap.size 4).ret (below_self w)
  have d2 : decide (512 < m) = false := by simpa using h2
  obtain ⟨k, rfl⟩ := Int.eq_ofNat_of_zero_le (by omega : 0 ≤ m)
  rw [usedS_yes (by omega) (by omega), usedQ_len]
  have HLEN := hide (show 5 * n = (flatP l).length by rw [flatP_len, h.len])
  have H := hide h
  clear h
  go_enter Try.func15, Try.ntmps15
  go_wp2_with (first | (with_reducible refine wpList_make_R _ rfl _ _ 33 rfl 4 Try.underlying33 (.bool false) rfl 1 info_bool' _ _ _ _ k rfl rfl rfl rfl (by omega) (by omega) ?_; intro w1 hr1 hb1; have HR1 := hide hr1; have HB1 := hide hb1; clear hr1 hb1) | (go_at_call 20; refine (owners_any _ (H.out.on HB1.out) hn).mono ?_; rintro e w2 ⟨b, rfl, hb, ⟨D, hown, hD⟩, hbel⟩; have HR2 := hide (HR1.out.on hbel); have HB2 := hide (below_step HB1.out hbel); have HD := hide hD; have HOW := hide hown; clear hD hown hbel) | (at_range; refine wpList_range_own _ rfl _ 46 rfl 3 41 key_law Try.underlying46 placeR b (5 * n) D rfl HOW.out ?_; intro w3 hrg hg3 hs3; have HRG := hide hrg; have HG3 := hide hg3; clear hrg hg3))
  have hbg : w.heap.size < b := by have := HR1.out.lt; omega
  clear hb
  have hsz2 := HB2.out.size
  have hlt0 : w.heap.size < w2.heap.size := HR2.out.lt
  have hr3 : RowL w3 w.heap.size 4 (cameB D (Maps.has D) k) := by rw [cameB_start]; exact HR2.out.grown HG3.out (by simp)
  have hb3 : Below w.heap.size w w3 := HB2.out.grown HG3.out hsz2 (fun _ e => by cases e)
  have HRG3 := HRG.out
  clear HRG HR2 HB2 HG3 HR1 HB1 HOW
  go_frame
  go_loopw [19] (fun _ wr => ∃ left cnt, wr.ranges Try.prog 3 placeR b w2.heap.size (5 * n) D left cnt ∧ RowL wr w.heap.size 4 (cameB D left k) ∧ Below w.heap.size w wr) (fun _ wr => wr.rangeLeft b w2.heap.size)
  case atStart => exact ⟨_, _, HRG3, hr3, hb3⟩
  case round =>
    obtain ⟨left, cnt, hrg, hrow, hbr⟩ := hrel
    clear HRG3 hr3 hb3 hs3
    go_wp2_with (at_next; refine wpList_next_ranges _ rfl _ rfl 3 key_law placeR (Value.int .i64) (fun (p : Int × Int) => .agg #[.int .i64 p.1, .int .i64 p.2]) (fun key kl hkey => by obtain ⟨x, rfl, _⟩ := Maps.keyOf_int_inv Try.underlying3 hkey; exact ⟨x, rfl⟩) (fun v y hv => by obtain ⟨a, b, rfl, _⟩ := placeR_any hv; exact ⟨(a, b), rfl⟩) b w2.heap.size (5 * n) D left cnt rfl hrg ?_ ?_)
    · intro _ hl0
      have HE := hide (show RowL wr w.heap.size 4 ((usedQ (flatP l) k).map Value.bool) by
        have h3 := HD.out
        rw [HLEN.out] at h3
        rw [← cameB_end hl0 (by omega) h3]
        exact hrow)
      clear hl0 hrg hrow
      go_wp2
      go_ret
      refine Ow.ret ?_ hbr
      have := HE.out.own (base := w.heap.size) (n := k) (cap := k) (Nat.le_refl _) (Nat.le_refl _) (by simp only [maxLen]; omega) (by simp [usedQ_len])
      rw [List.take_of_length_le (by simp [usedQ_len])] at this
      exact this
    · intro x a1 b1 kl y1 y2 w4 cnt4 hkey hlk hv hat hrg4 hlt4 hg4 hs4 hen
      obtain ⟨x', e1, rfl, hwx⟩ := Maps.keyOf_int_inv Try.underlying3 hkey
      cases e1
      have hin := has_in (ps := flatP l) (m := k) (by have h3 := HD.out; rw [HLEN.out] at h3; exact h3) hwx hat
      obtain ⟨j, rfl⟩ : ∃ j : Nat, x = (j : Int) + 1 := ⟨(x - 1).toNat, by omega⟩
      have hjk : j < k := by omega
      have hr4 : RowL w4 w.heap.size 4 (cameB D left k) := hrow.grown hg4 (fun e => by have := Option.some.inj e; omega)
      have hb4 : Below w.heap.size w w4 := hbr.grown hg4 hbr.size (fun q e => by have := Option.some.inj e; omega)
      obtain ⟨bv0, hcell⟩ : ∃ q, w4.cell? ⟨w.heap.size, j, none⟩ = some (.bool q) := by rw [hr4.cell]; unfold cameB; simp [hjk]
      have hfz : w4.frozen? ⟨w.heap.size, j, none⟩ = false := hr4.frozen j
      have hbn := hrg4.owns.lt
      have hjt : ((j : Nat) : Int).toNat = j := by omega
      have HR4 := hide hr4
      have HB4 := hide hb4
      have HRG4 := hide hrg4
      have HLE := hide hrg.left_eq
      have HIN := hide hin.1
      clear hr4 hb4 hrg4 hin hkey hlk hv hat hg4 hrow hbr hwx hrg
      go_wp2
      have hgc := grown_cell w4 w.heap.size j (.bool true)
      have hrg5 := HRG4.out.kept hgc (fun e => by have := Option.some.inj e; omega) (fun e => by have := Option.some.inj e; omega)
      refine ⟨⟨_, cnt4, hrg5, ?_, ?_⟩, ?_⟩
      · rw [← cameB_step hjk HIN.out]
        exact HR4.out.set_ j _
      · exact HB4.out.grown hgc HB4.out.size (fun q e => by have := Option.some.inj e; omega)
      · rw [hrg5.left_eq, HLE.out]
        exact hlt4
end Go.Proofs.Ytnllbdigpnopoaa
