import Derived.Test.YtabhgoekpbmdlaaGreatVa33
import Derived.Test.YtabhgoekpbmdlaaGreatVa21

/- The references' Places and SameView over what is the same (layer 17). -/
namespace Go.Proofs.YtabhgoekpbmdlaaGreat
open Go.RowKit Go.Shelf Plain

theorem RVRoot_e {g : GeoQ} {AU AL : Option Addr} {nU cU nL cL B : Nat} {up : List NodV} {ls : List (List NodV)} {V : ViewV} (hV : rootV up ls = V) (w : World) (hu : RdE nodEn w (Under B) AU nU up) (h : RdE layEn w (Under B) AL nL ls) (hB : B ≤ w.heap.size) (hF : FewL ls) (hup : FewU up) : Calls Tryz.prog 18 #[.agg (stkC g (.slice AU nU cU) (.slice AL nL cL)).toArray] w (ViewF w.heap.size w V) := by rw [← hV]; exact RVRoot_any w hu h hB hF hup
theorem RVNames_e {g : GeoQ} {AU AL : Option Addr} {nU cU nL cL B : Nat} {up : List NodV} {ls : List (List NodV)} {u : Int} {AV : Option Addr} {nV cV BV : Nat} {vl : List (Int × Int)} {L : List (List UInt8)} (hL : namesV up ls (u, vl) = L) (w : World) (hu : RdE nodEn w (Under B) AU nU up) (h : RdE layEn w (Under B) AL nL ls) (hB : B ≤ w.heap.size) (hF : FewL ls) (hup : FewU up) (hv : RdE prEn w (Under BV) AV nV vl) (hBV : BV ≤ w.heap.size) (hnV : nV ≤ 1000) : Calls Tryz.prog 24 #[.agg (stkC g (.slice AU nU cU) (.slice AL nL cL)).toArray, .agg (viwC u (.slice AV nV cV)).toArray] w (NamesO w L) := by rw [← hL]; exact RVNames_any w hu h hB hF hup hv hBV hnV
set_option maxRecDepth 100000 in
set_option maxHeartbeats 4000000 in
theorem Places_same {A B : Option Addr} {n m c d : Nat} {L : List (Int × Int)} (w : World) (ha : RdE prEn w (Under w.heap.size) A n L) (hb : RdE prEn w (Under w.heap.size) B m L) (hn : n ≤ 100000) :
  Calls Tryz.prog 69 #[.slice A n c, .slice B m d] w (BoolB w true) := by
 obtain rfl : n = m := by rw [← ha.1, ← hb.1]
 have HA := hide ha
 have HB := hide hb
 have hln := ha.1
 clear ha hb
 have hd : ((n : Int) != (n : Int)) = false := by simp
 go_enter Tryz.func69, Tryz.ntmps69
 go_wp2_with fail
 go_loopw [5] (fun i wr => ∃ j : Nat, j ≤ n ∧ i = .int .i64 j ∧ Below w.heap.size w wr) (fun i _ => n - (intOf i).toNat)
 case atStart => exact ⟨0, by omega, rfl, below_self w⟩
 case round =>
  obtain ⟨j, hj, rfl, hbr⟩ := hrel
  have HBR := hide hbr
  have hbsz := hbr.size
  by_cases hlt : j < n
  ·have hl1 : j < L.length := by omega
   obtain ⟨b1, o1, rfl, hb1, hc1⟩ := pr_get (HA.out.under hbr (Nat.le_refl _)) (List.getElem?_eq_getElem hl1)
   obtain ⟨b2, o2, rfl, hb2, hc2⟩ := pr_get (HB.out.under hbr (Nat.le_refl _)) (List.getElem?_eq_getElem hl1)
   have hb1' : b1 < w.heap.size := hb1
   have hb2' : b2 < w.heap.size := hb2
   generalize L[j] = y at hc1 hc2
   obtain ⟨ya, yb⟩ := y
   have HC1 := hide hc1
   have HC2 := hide hc2
   have hji : (j : Int) < (n : Int) := by omega
   clear hc1 hc2 hb1 hb2 hbr
   go_wp2_with fail
   refine wp_region_planN (fun w' => Below wr.heap.size wr w') [(0, true), (1, true), (2, true), (3, true), (4, true), (5, true), (6, true), (7, true), (8, true)] (by kernel_rfl) (by kernel_rfl) (by kernel_rfl) (by kernel_rfl) rfl (fun _ _ _ _ _ h => h) (below_drew (below_self wr)) (fun hHeld => ?_)
   simp only [planOps, List.filterMap_cons, List.filterMap_nil, List.getElem?_toArray, List.getElem?_cons_succ, List.getElem?_cons_zero, Option.map_some]
   refine wpPlan_take (v := ?_) (by kernel_rfl) (fun wS hSw => ?_) ?_
   rotate_left
   ·(try dsimp only at hSw); go_simp; (try with_reducible rfl)
   (try simp only [Act.put, pu1, pu2, pu3])
   refine wpPlan_take (v := ?_) (by kernel_rfl) (fun wS hSw => ?_) ?_
   rotate_left
   ·(try dsimp only at hSw); go_simp; (try with_reducible rfl)
   (try simp only [Act.put, pu1, pu2, pu3])
   refine wpPlan_take (v := ?_) (by kernel_rfl) (fun wS hSw => ?_) ?_
   rotate_left
   ·(try dsimp only at hSw); go_simp; (try with_reducible rfl)
   (try simp only [Act.put, pu1, pu2, pu3])
   refine wpPlan_take (v := ?_) (by kernel_rfl) (fun wS hSw => ?_) ?_
   rotate_left
   ·refine execOp_load (x := .tmp 19) (k := 2) (g := b1) (off := o1 + j * 2) (cs := prC (ya, yb)) ?_ plc_agg plc_size ?_ (fun k v hv => (hSw.cell (p := ⟨b1, o1 + j * 2 + k, none⟩) (show b1 < wr.heap.size by omega)).trans (HC1.out k v hv)) rfl <;> rfl
   (try simp only [Act.put, pu1, pu2, pu3])
   refine wpPlan_take (v := ?_) (by kernel_rfl) (fun wS hSw => ?_) ?_
   rotate_left
   ·(try dsimp only at hSw); go_simp; (try with_reducible rfl)
   (try simp only [Act.put, pu1, pu2, pu3])
   refine wpPlan_take (v := ?_) (by kernel_rfl) (fun wS hSw => ?_) ?_
   rotate_left
   ·(try dsimp only at hSw); go_simp; (try with_reducible rfl)
   (try simp only [Act.put, pu1, pu2, pu3])
   refine wpPlan_take (v := ?_) (by kernel_rfl) (fun wS hSw => ?_) ?_
   rotate_left
   ·(try dsimp only at hSw); go_simp; (try with_reducible rfl)
   (try simp only [Act.put, pu1, pu2, pu3])
   refine wpPlan_take (v := ?_) (by kernel_rfl) (fun wS hSw => ?_) ?_
   rotate_left
   ·refine execOp_load (x := .tmp 23) (k := 2) (g := b2) (off := o2 + j * 2) (cs := prC (ya, yb)) ?_ plc_agg plc_size ?_ (fun k v hv => (hSw.cell (p := ⟨b2, o2 + j * 2 + k, none⟩) (show b2 < wr.heap.size by omega)).trans (HC2.out k v hv)) rfl <;> rfl
   (try simp only [Act.put, pu1, pu2, pu3])
   refine wpPlan_take (v := ?_) (by kernel_rfl) (fun wS hSw => ?_) ?_
   rotate_left
   ·(try simp only [prC]); have qx := neq_plc ya yb wS; go_simp; (try with_reducible rfl)
   (try simp only [Act.put, pu1, pu2, pu3])
   refine wpPlan_end ?_
   have HBX := hide (HBR.out.trans (hHeld.mono hbsz))
   clear hHeld
   go_wp2_with fail
   go_roundw
   case rel => exact ⟨j + 1, by omega, by go_num, HBX.out⟩
   case measure => simp [intOf]; omega
  ·obtain rfl : j = n := by omega
   clear hbr
   go_wp2_with fail
   go_ret
   exact BoolB.of HBR.out
set_option maxRecDepth 100000 in
set_option maxHeartbeats 4000000 in
theorem SameView_same {u : Int} {A1 A2 : Option Addr} {n m c1 c2 : Nat} {L : List (Int × Int)} (w : World) (ha : RdE prEn w (Under w.heap.size) A1 n L) (hb : RdE prEn w (Under w.heap.size) A2 m L) (hn : n ≤ 100000) :
  Calls Tryz.prog 16 #[.agg (viwC u (.slice A1 n c1)).toArray, .agg (viwC u (.slice A2 m c2)).toArray] w (BoolB w true) := by
 obtain ⟨W1, hW1⟩ : ∃ W1, ((w.alloc (.cells (viwC u (.slice A1 n c1)).toArray 32)).alloc (.cells (viwC u (.slice A2 m c2)).toArray 32)) = W1 := ⟨_, rfl⟩
 obtain ⟨r0, r1, hb1, hs1⟩ := rowA2 w _ _ _ _ hW1
 have hW1' : ((w.alloc (.cells #[.int .i64 u, .slice A1 n c1] 32)).alloc (.cells #[.int .i64 u, .slice A2 m c2] 32)) = W1 := hW1
 have R2 := hide r0
 have R3 := hide r1
 have HB := hide hb1
 have hsz0 := hb1.size
 have HX := hide (ha.under hb1 (Nat.le_refl _))
 have HY := hide (hb.under hb1 (Nat.le_refl _))
 have huu : (u == u) = true := by simp
 have q2_0 : W1.cell? ⟨w.heap.size, 0, none⟩ = some (.int .i64 u) := R2.out.cell 0
 have q3_0 : W1.cell? ⟨w.heap.size + 1, 0, none⟩ = some (.int .i64 u) := R3.out.cell 0
 have q2_1 : W1.cell? ⟨w.heap.size, 1, none⟩ = some (.slice A1 n c1) := R2.out.cell 1
 have q3_1 : W1.cell? ⟨w.heap.size + 1, 1, none⟩ = some (.slice A2 m c2) := R3.out.cell 1
 unfold viwC
 clear r0 r1 hb1 hW1 ha hb
 go_enter Tryz.func16, Tryz.ntmps16
 go_wp2_with (first | (go_at_call 69; refine (Places_same W1 (und_up HX.out (by omega)) (und_up HY.out (by omega)) hn).mono ?_; rintro e1 wP ⟨rfl, hbel⟩; clear q2_0 q3_0 q2_1 q3_1; replace HB := hide (HB.out.trans (hbel.mono HB.out.size)); replace R2 := hide (R2.out.on hbel); replace R3 := hide (R3.out.on hbel); replace HX := hide (HX.out.under hbel (by omega)); replace HY := hide (HY.out.under hbel (by omega)); have hsz2 := hbel.size; have q2_0 : wP.cell? ⟨w.heap.size, 0, none⟩ = some (.int .i64 u) := R2.out.cell 0; have q3_0 : wP.cell? ⟨w.heap.size + 1, 0, none⟩ = some (.int .i64 u) := R3.out.cell 0; have q2_1 : wP.cell? ⟨w.heap.size, 1, none⟩ = some (.slice A1 n c1) := R2.out.cell 1; have q3_1 : wP.cell? ⟨w.heap.size + 1, 1, none⟩ = some (.slice A2 m c2) := R3.out.cell 1; clear hbel))
 go_ret
 exact BoolB.of HB.out
end Go.Proofs.YtabhgoekpbmdlaaGreat

/- plain.Base, and the law's awake (layer 16). -/
namespace Go.Proofs.YtabhgoekpbmdlaaGreat
open Go.RowKit Go.Shelf Plain

/-- Base's nodes. -/
def ndD : NodV := { nod0 with k := 1, n := 2 }
def ndA : NodV := { nod0 with k := 1, n := 2, ents := [⟨0, 2, [97]⟩] }
def ndF : NodV := { nod0 with k := 2, n := 1, g := 3, data := [120] }
def lyB : List NodV := [ndA, ndF, nod0, nod0, nod0]
def lsB : List (List NodV) := [lyB]
def gB : GeoQ := ⟨1, 5, 6, 5⟩
theorem ba_few : FewL lsB := by
 refine ⟨by decide, fun ns hns => ?_⟩
 rw [List.mem_singleton.1 hns]
 refine ⟨by decide, fun x hx => ?_⟩
 simp only [lyB, List.mem_cons, List.not_mem_nil, or_false] at hx
 rcases hx with rfl | rfl | rfl | rfl | rfl
 ·refine ⟨fun i e hi he => ?_, by decide, by decide, by decide, by decide, by decide, fun e he => ?_⟩
  ·obtain rfl : i = 0 := by have : i < 1 := hi; omega
   cases he
   exact ⟨by decide, by decide, fun p h => absurd h (by omega)⟩
  ·rw [List.mem_singleton.1 he]
   decide
 ·exact ⟨fun i e hi he => absurd hi (by simp [ndF, nod0]), by decide, by decide, by decide, by decide, by decide, fun e he => by simp [ndF, nod0] at he⟩
 ·exact plain0
 ·exact plain0
 ·exact plain0
/-- It returns a stack. -/
def StkRet (w : World) (g : GeoQ) (up : List NodV) (ls : List (List NodV)) (e : Ending) (w' : World) : Prop := ∃ AU nU cU AL nL cL, e = .returned (.agg (stkC g (.slice AU nU cU) (.slice AL nL cL)).toArray) ∧ RdE nodEn w' (Under w'.heap.size) AU nU up ∧ RdE layEn w' (Under w'.heap.size) AL nL ls ∧ Below w.heap.size w w'
def AggRet (w : World) (cs : List Value) (e : Ending) (w' : World) : Prop := e = .returned (.agg cs.toArray) ∧ Below w.heap.size w w'
set_option maxRecDepth 100000 in
set_option maxHeartbeats 1600000 in
theorem Dir_any {C : Option Addr} {m d : Nat} (w : World) : Calls Tryz.prog 116 #[.slice C m d] w (AggRet w (nodC ndD (.slice none 0 0) (.slice C m d))) := by
 have hz := RowL.new w 63 (nodC nod0 (.slice none 0 0) (.slice none 0 0))
 have hb := below_new (below_self w) (.cells (nodC nod0 (.slice none 0 0) (.slice none 0 0)).toArray 63)
 have HZ := hide hz
 have HB := hide hb
 clear hz hb
 go_enter Tryz.func116, Tryz.ntmps116
 go_wp2_with (refine wpList_storeW rfl 63 (.tmp 2) (.tmp 4) rfl 13 nod_size w.heap.size 63 rfl (nodC nod0 (.slice none 0 0) (.slice none 0 0)) (nodC ndD (.slice none 0 0) (.slice C m d)) rfl HZ.out rfl rfl (nodC_one _ _ _ _ _ _ _) ?_; intro w9 hr9 hg9 hs9; have HR9 := hide hr9; have HB9 := hide (HB.out.grown hg9 HB.out.size (fun k hk => by have := Option.some.inj hk; omega)); clear hr9 hg9 hs9)
 exact bodyPost_ret (res_cell Tryz.results116 rfl nod_agg nod_size HR9.out rfl) rfl ⟨rfl, HB9.out⟩
set_option maxRecDepth 100000 in
theorem lit_nods {c0 c1 c2 c3 c4 : List Value} (h0 : c0.length = 13) (h1 : c1.length = 13) (h2 : c2.length = 13) (h3 : c3.length = 13) (h4 : c4.length = 13) (W : World) : (Instr.buildSlice 24 5 #[(0, .agg c0.toArray), (1, .agg c1.toArray), (2, .agg c2.toArray), (3, .agg c3.toArray), (4, .agg c4.toArray)]).run Tryz.prog W = .ok (.slice (some ⟨W.heap.size, 0, none⟩) 5 5) (W.alloc (.cells (c0 ++ (c1 ++ (c2 ++ (c3 ++ c4)))).toArray 63)) := by
 obtain ⟨it, hi, hz, hsz, -⟩ := info_parts nodw_info
 refine run_buildSlice W _ 63 5 _ _ it _ Tryz.underlying24 hi hz (by omega) (by omega) ?_
 rw [hsz]
 have := Great.fill_whole (s := 13) (by omega) [.agg c0.toArray, .agg c1.toArray, .agg c2.toArray, .agg c3.toArray, .agg c4.toArray] ((Array.range (5 * 13)).map ((Value.agg nodZ.toArray).cells[· % (Value.agg nodZ.toArray).cells.size]!)) (by intro v hv; simp only [List.mem_cons, List.not_mem_nil, or_false] at hv; rcases hv with rfl | rfl | rfl | rfl | rfl <;> simp [Value.cells, h0, h1, h2, h3, h4]) (by simp)
 simpa [Value.cells] using this
/-- A literal of five, as the walk meets it. -/
theorem wpList_lit5 {P : Program} {w w' : World} {ops : Array Oper} {rest : List Oper} {o : Oper} {a : Act} {Q : Exit → Act → World → Prop} (hgd : o.guard = none) (t : Nat) (x0 x1 x2 x3 x4 : Operand) (ho : o.op = .buildSlice t 5 #[(0, x0), (1, x1), (2, x2), (3, x3), (4, x4)]) (v0 v1 v2 v3 v4 v : Value) (h0 : a.eval x0 = v0) (h1 : a.eval x1 = v1) (h2 : a.eval x2 = v2) (h3 : a.eval x3 = v3) (h4 : a.eval x4 = v4) (hr : (Instr.buildSlice t 5 #[(0, v0), (1, v1), (2, v2), (3, v3), (4, v4)]).run P w = .ok v w') (hK : wpList P ops Q rest (a.put o.dst v) w') : wpList P ops Q (o :: rest) a w := by
 refine wpList_plain hgd fun K hK' => ?_
 unfold Oper.wp execOp
 simp only [ho, List.map_toArray, List.map_cons, List.map_nil, h0, h1, h2, h3, h4, Sem.run_bind, Sem.run_pure, Result.andThen_ok, hr]
 exact hK' _ _ hK
/-- A row of five nodes, read. -/
theorem nods_row {W : World} {D : Nat → Prop} {g : Nat} {c0 c1 c2 c3 c4 : List Value} {x0 x1 x2 x3 x4 : NodV} (h : RowL W g 63 (c0 ++ (c1 ++ (c2 ++ (c3 ++ c4))))) (hD : D g) (h0 : NodR W D c0 x0) (h1 : NodR W D c1 x1) (h2 : NodR W D c2 x2) (h3 : NodR W D c3 x3) (h4 : NodR W D c4 x4) : RdE nodEn W D (some ⟨g, 0, none⟩) 5 [x0, x1, x2, x3, x4] := by
 have hcs : CellsE nodEn W D [c0, c1, c2, c3, c4] [x0, x1, x2, x3, x4] := by
  refine ⟨rfl, fun i cs x hc hx => ?_⟩
  have hi : i < 5 := (List.getElem?_eq_some_iff.1 hx).1
  obtain rfl | rfl | rfl | rfl | rfl : i = 0 ∨ i = 1 ∨ i = 2 ∨ i = 3 ∨ i = 4 := by omega
  all_goals (cases hc; cases hx; assumption)
 refine ⟨rfl, fun _ => ⟨g, 0, rfl, hD, fun i x hx => ?_⟩⟩
 have hi : i < 5 := (List.getElem?_eq_some_iff.1 hx).1
 have hc : [c0, c1, c2, c3, c4][i]? = some ([c0, c1, c2, c3, c4][i]'hi) := List.getElem?_eq_getElem (l := [c0, c1, c2, c3, c4]) hi
 have hR := hcs.2 i _ x hc hx
 refine ⟨_, hR, fun j v hv => ?_⟩
 have hj : j < 13 := by have := (List.getElem?_eq_some_iff.1 hv).1; have h13 := nodEn.len hR; rw [h13] at this; exact this
 rw [Nat.zero_add, h.cell]
 have := flat_get hcs.lens hc hj
 rw [show [c0, c1, c2, c3, c4].flatten = c0 ++ (c1 ++ (c2 ++ (c3 ++ c4))) from by simp] at this
 exact this.trans hv
theorem nod0R (W : World) (D : Nat → Prop) : NodR W D (nodC nod0 (.slice none 0 0) (.slice none 0 0)) nod0 := ⟨none, 0, 0, none, 0, 0, rfl, Nat.le_refl _, RdE.none_ _ _ _ _, Nat.le_refl _, RdE.none_ _ _ _ _⟩
theorem ndDR (W : World) (D : Nat → Prop) : NodR W D (nodC ndD (.slice none 0 0) (.slice none 0 0)) ndD := ⟨none, 0, 0, none, 0, 0, rfl, Nat.le_refl _, RdE.none_ _ _ _ _, Nat.le_refl _, RdE.none_ _ _ _ _⟩
theorem lay_row {W : World} {D : Nat → Prop} {g t n c : Nat} {A : Option Addr} {ns : List NodV} (h : RowL W g t [.slice A n c]) (hD : D g) (hc : n ≤ c) (hr : RdE nodEn W D A n ns) : RdE layEn W D (some ⟨g, 0, none⟩) 1 [ns] := by
 refine ⟨rfl, fun _ => ⟨g, 0, rfl, hD, fun i x hx => ?_⟩⟩
 have hi : i = 0 := by have := (List.getElem?_eq_some_iff.1 hx).1; simpa using this
 subst hi
 cases hx
 refine ⟨[.slice A n c], ⟨A, n, c, rfl, hc, hr⟩, fun j v hv => ?_⟩
 rw [Nat.zero_mul, Nat.zero_add, Nat.zero_add]
 exact (h.cell j).trans hv
/-- Blocks from base on. -/
def Fr (base : Nat) (W : World) (b : Nat) : Prop := base ≤ b ∧ b < W.heap.size
theorem RdE.onF {α : Type} {E : Enc α} {W W' : World} {base n : Nat} {A : Option Addr} {l : List α} (h : RdE E W (Fr base W) A n l) (hb : Below W.heap.size W W') : RdE E W' (Fr base W') A n l := h.mono (fun b hb' => hb.block b hb'.2) (fun _ hb' => ⟨hb'.1, Nat.lt_of_lt_of_le hb'.2 hb.size⟩)
theorem RdE.grF {α : Type} {E : Enc α} {W W' : World} {base n g : Nat} {A : Option Addr} {l : List α} (h : RdE E W (Fr base W) A n l) (hg : W.grownBy W' (some g)) (hgb : g < base) : RdE E W' (Fr base W') A n l := h.mono (fun b hb' => hg.block b hb'.2 (fun e => by have := Option.some.inj e; have := hb'.1; omega)) (fun _ hb' => ⟨hb'.1, Nat.lt_of_lt_of_le hb'.2 hg.size⟩)
/-- A literal of five nodes, its world left open. -/
theorem wpList_lit5N {w : World} {ops : Array Oper} {rest : List Oper} {o : Oper} {a : Act} {Q : Exit → Act → World → Prop} (hgd : o.guard = none) (x0 x1 x2 x3 x4 : Operand) (ho : o.op = .buildSlice 24 5 #[(0, x0), (1, x1), (2, x2), (3, x3), (4, x4)]) {c0 c1 c2 c3 c4 : List Value} (h0 : a.eval x0 = .agg c0.toArray) (h1 : a.eval x1 = .agg c1.toArray) (h2 : a.eval x2 = .agg c2.toArray) (h3 : a.eval x3 = .agg c3.toArray) (h4 : a.eval x4 = .agg c4.toArray) (k0 : c0.length = 13) (k1 : c1.length = 13) (k2 : c2.length = 13) (k3 : c3.length = 13) (k4 : c4.length = 13)
  (hK : ∀ w', RowL w' w.heap.size 63 (c0 ++ (c1 ++ (c2 ++ (c3 ++ c4)))) → Below w.heap.size w w' → wpList Tryz.prog ops Q rest (a.put o.dst (.slice (some ⟨w.heap.size, 0, none⟩) 5 5)) w') : wpList Tryz.prog ops Q (o :: rest) a w :=
 wpList_lit5 hgd 24 x0 x1 x2 x3 x4 ho _ _ _ _ _ _ h0 h1 h2 h3 h4 (lit_nods k0 k1 k2 k3 k4 w) (hK _ (RowL.new w 63 _) (below_new (below_self w) _))
theorem byte_row {W : World} {D : Nat → Prop} {g t : Nat} {l : List UInt8} (h : RowL W g t (bvs l)) (hD : D g) : RdE Enc.byte W D (some ⟨g, 0, none⟩) l.length l :=
 RdE.of_bs (B := W.heap.size) ⟨rfl, fun _ => ⟨g, 0, rfl, h.lt, fun i x hx => by rw [Nat.zero_add, h.cell]; exact bvs_get hx⟩⟩ (fun _ a ha => by cases ha; exact hD)
end Go.Proofs.YtabhgoekpbmdlaaGreat

