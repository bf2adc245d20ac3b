import Derived.Test.YtabhgoekpbmdlaaGreatMt27
import Derived.Test.YtabhgoekpbmdlaaGreatMt26
import Derived.Test.YtabhgoekpbmdlaaGreatMt16
import Derived.Test.YtabhgoekpbmdlaaGreatMt2

namespace Go.Proofs.YtabhgoekpbmdlaaGreat
open Go.RowKit Go.Shelf Plain

def beginM (up : List NodV) (ls : List (List NodV)) : StepV := (1, rootV up ls, if (rootV up ls).1 = 0 then (rootV up ls).2.headD (0, 0) else (0, 1))
def goM (up : List NodV) (ls : List (List NodV)) (c : StepV) (nm : List UInt8) : StepV := if c.1 = 1 then stepV up ls c.2.1 nm else noStep
def atM (up : List NodV) (ls : List (List NodV)) (l : List (List UInt8)) : StepV := l.foldl (goM up ls) (beginM up ls)
theorem go_few {up : List NodV} {ls : List (List NodV)} {c : StepV} {nm : List UInt8} (h : c.2.1.2.length ≤ ls.length) : (goM up ls c nm).2.1.2.length ≤ ls.length := by
 unfold goM
 split
 ·have := stepV_len up ls c.2.1 nm
  omega
 ·simp [noStep]
theorem fold_few {up : List NodV} {ls : List (List NodV)} : ∀ (l : List (List UInt8)) (c : StepV), c.2.1.2.length ≤ ls.length → (l.foldl (goM up ls) c).2.1.2.length ≤ ls.length
 | [], _, h => h
 | _ :: r, _, h => fold_few r _ (go_few h)
theorem at_few (up : List NodV) (ls : List (List NodV)) (l : List (List UInt8)) : (atM up ls l).2.1.2.length ≤ ls.length := fold_few l _ (rootV_len up ls)
theorem at_take (up : List NodV) (ls : List (List NodV)) {l : List (List UInt8)} {j : Nat} {x : List UInt8} (h : l[j]? = some x) : atM up ls (l.take (j + 1)) = goM up ls (atM up ls (l.take j)) x := by
 unfold atM
 rw [List.take_add_one, h, List.foldl_append]
 rfl
def comC (S : StepV) (s : Value) : List Value := [.int .i64 S.2.1.1, s, .int .i64 S.2.2.1, .int .i64 S.2.2.2, .int .i64 S.1]
theorem comC_one (S : StepV) (A : Option Addr) (n c : Nat) : ∀ v ∈ comC S (.slice A n c), v.oneCell' = true := by
 intro v hv
 simp only [comC, List.mem_cons, List.not_mem_nil, or_false] at hv
 rcases hv with h | h | h | h | h <;> (subst h; rfl)
set_option maxRecDepth 100000 in
theorem com_agg : ∀ w, (isAgg 135).run Tryz.prog w = .ok true w := fun _ => rfl
set_option maxRecDepth 100000 in
theorem com_size : ∀ w, (Go.sizeOf 135).run Tryz.prog w = .ok 5 w := fun _ => rfl
def ComF (lo : Nat) (w : World) (S : StepV) (e : Ending) (w' : World) : Prop := ∃ A c, e = .returned (.agg (comC S (.slice A S.2.1.2.length c)).toArray) ∧ RdE prEn w' (fun b => lo ≤ b ∧ b < w'.heap.size) A S.2.1.2.length S.2.1.2 ∧ Below w.heap.size w w'
theorem fr_btw {α : Type} {E : Enc α} {w : World} {lo hi : Nat} {A : Option Addr} {n : Nat} {l : List α} (h : RdE E w (fun b => lo ≤ b ∧ b < hi) A n l) (hh : hi ≤ w.heap.size) : RdE E w (fun b => lo ≤ b ∧ b < w.heap.size) A n l := h.mono (fun _ _ => rfl) (fun _ hb => ⟨hb.1, Nat.lt_of_lt_of_le hb.2 hh⟩)
theorem hcel {w w' : World} {b o B : Nat} {p : Int × Int} (h : ∀ (j : Nat) (v : Value), (prC p)[j]? = some v → w.cell? ⟨b, o + j, none⟩ = some v) (hb : Below B w w') (hlt : b < B) : ∀ (j : Nat) (v : Value), (prC p)[j]? = some v → w'.cell? ⟨b, o + j, none⟩ = some v := fun j v hv => (hb.cell (p := ⟨b, o + j, none⟩) hlt).trans (h j v hv)
set_option maxRecDepth 100000 in
set_option maxHeartbeats 8000000 in
theorem MBegin_any {g : GeoQ} {AU AL : Option Addr} {nU cU nL cL B : Nat} {up : List NodV} {ls : List (List NodV)} (w : World) (hu : RdE nodEn w (Under B) AU nU up) (h : RdE layEn w (Under B) AL nL ls) (hB : B ≤ w.heap.size) (hF : FewL ls) (hup : FewU up) : Calls Tryz.prog 91 #[.agg (stkC g (.slice AU nU cU) (.slice AL nL cL)).toArray] w (ComF w.heap.size w (beginM up ls)) := by
 obtain ⟨W1, hW1⟩ : ∃ W1, ((w.alloc (.cells (stkC g (.slice AU nU cU) (.slice AL nL cL)).toArray 29)).alloc (.cells (comC noStep (.slice none 0 0)).toArray 135)) = W1 := ⟨_, rfl⟩
 obtain ⟨r0, r1, hb1, hs1⟩ := rowA2 w _ _ _ _ hW1
 have hW1' : ((w.alloc (.cells #[.int .i64 g.a, .int .i64 g.b, .int .i64 g.c, .int .i64 g.d, .slice AU nU cU, .slice AL nL cL] 29)).alloc (.cells #[.int .i64 0, .slice none 0 0, .int .i64 0, .int .i64 0, .int .i64 0] 135)) = W1 := hW1
 have R1 := hide r0
 have R2 := hide r1
 have HB := hide hb1
 have hsz0 := hb1.size
 have HU := hide (hu.under hb1 hB)
 have HL := hide (h.under hb1 hB)
 have HF := hide hF
 have HFU := hide hup
 obtain ⟨V, hV⟩ : ∃ V, rootV up ls = V := ⟨_, rfl⟩
 have HV := hide hV
 unfold beginM
 rw [hV]
 obtain ⟨u, vl⟩ := V
 unfold stkC
 clear r0 r1 hb1 hW1 hu h hF hup hV
 dsimp only
 by_cases hu0 : u = 0
 ·have hu1 : (u != 0) = false := by simpa using hu0
  rw [if_pos hu0]
  clear hu0
  by_cases hl0 : vl.length = 0
  ·obtain rfl := List.eq_nil_of_length_eq_zero hl0
   rw [show ([] : List (Int × Int)).headD (0, 0) = (0, 0) from rfl]
   clear hl0
   go_enter Tryz.func91, Tryz.ntmps91
   go_wp2_with (first | (refine wpList_loadW rfl 29 (.tmp 1) rfl 6 stk_agg stk_size (w.heap.size) 29 rfl (stkC g (.slice AU nU cU) (.slice AL nL cL)) R1.out rfl ?_) | (go_at_call 17; refine (VRoot_e HV.out W1 HU.out HL.out (by omega) HF.out HFU.out).mono ?_; rintro e1 wR ⟨A6, c6, rfl, h6, hbel⟩; replace HB := hide (HB.out.trans (hbel.mono HB.out.size)); replace R1 := hide (R1.out.on hbel); replace R2 := hide (R2.out.on hbel); replace HU := hide (HU.out.under hbel (by omega)); replace HL := hide (HL.out.under hbel (by omega)); have hsz2 := hbel.size; have H6 := hide h6; clear h6; simp only [viwC, List.length_nil]; clear hbel) | (refine wpList_storeW rfl 135 (.tmp 3) (.tmp 6) rfl 5 com_size (wR.heap.size) 135 rfl (comC noStep (.slice none 0 0)) (comC (1, (u, []), (0, 0)) (.slice A6 0 c6)) rfl (RowL.new wR 135 (comC noStep (.slice none 0 0))) rfl rfl (comC_one _ _ _ _) ?_; intro wS3 hr3 hg3 hs3; have hzb := below_stored' hg3; replace HB := hide (HB.out.trans (hzb.mono HB.out.size)); replace R1 := hide (R1.out.on hzb); replace R2 := hide (R2.out.on hzb); replace HU := hide (HU.out.under hzb (by omega)); replace HL := hide (HL.out.under hzb (by omega)); replace H6 := hide (btw_on H6.out hzb (by omega)); have hsz4 := hzb.size; have R3 := hide hr3; have hlt3 := hr3.lt; have q3_0 : wS3.cell? ⟨wR.heap.size, 0, none⟩ = some (.int .i64 u) := R3.out.cell 0; have q3_1 : wS3.cell? ⟨wR.heap.size, 1, none⟩ = some (.slice A6 0 c6) := R3.out.cell 1; clear hzb hr3; clear hg3 hs3) | (refine wpList_loadW rfl 135 (.tmp 3) rfl 5 com_agg com_size (wR.heap.size) 135 rfl (comC (1, (u, []), (0, 0)) (.slice A6 0 c6)) R3.out rfl ?_) | (refine wpList_storeW rfl 135 (.tmp 2) (.tmp 26) rfl 5 com_size (w.heap.size + 1) 135 rfl (comC noStep (.slice none 0 0)) (comC (1, (u, []), (0, 0)) (.slice A6 0 c6)) rfl R2.out rfl rfl (comC_one _ _ _ _) ?_; intro wS5 hr5 hg5 hs5; clear q3_0 q3_1; replace HB := hide (HB.out.grown hg5 (by omega) (pu4 (by omega))); replace R1 := hide (R1.out.grown hg5 (pu5 (by omega))); replace HU := hide (und_grown HU.out hg5 (by omega) (by omega)); replace HL := hide (und_grown HL.out hg5 (by omega) (by omega)); replace H6 := hide (btw_grown H6.out hg5 (by omega) (by omega)); replace R3 := hide (R3.out.grown hg5 (pu5 (by omega))); have hsz6 := hg5.size; replace R2 := hide hr5; have q3_0 : wS5.cell? ⟨wR.heap.size, 0, none⟩ = some (.int .i64 u) := R3.out.cell 0; have q3_1 : wS5.cell? ⟨wR.heap.size, 1, none⟩ = some (.slice A6 0 c6) := R3.out.cell 1; clear hr5 hg5 hs5))
   exact bodyPost_ret (res_cell Tryz.results91 rfl com_agg com_size R2.out rfl) rfl ⟨_, c6, rfl, fr_low (fr_btw H6.out (by omega)) (by omega), HB.out⟩
  ·have hl1 : decide ((0 : Int) < (vl.length : Int)) = true := decide_eq_true (by omega)
   have hl2 : 0 < vl.length := by omega
   obtain ⟨p, hp0⟩ : ∃ p, vl[0]? = some p := ⟨_, List.getElem?_eq_getElem hl2⟩
   rw [show vl.headD (0, 0) = p from by cases vl with | nil => simp at hl2 | cons a r => simpa using hp0]
   clear hl0
   go_enter Tryz.func91, Tryz.ntmps91
   go_wp2_with (first | (refine wpList_loadW rfl 29 (.tmp 1) rfl 6 stk_agg stk_size (w.heap.size) 29 rfl (stkC g (.slice AU nU cU) (.slice AL nL cL)) R1.out rfl ?_) | (go_at_call 17; refine (VRoot_e HV.out W1 HU.out HL.out (by omega) HF.out HFU.out).mono ?_; rintro e1 wR ⟨A6, c6, rfl, h6, hbel⟩; replace HB := hide (HB.out.trans (hbel.mono HB.out.size)); replace R1 := hide (R1.out.on hbel); replace R2 := hide (R2.out.on hbel); replace HU := hide (HU.out.under hbel (by omega)); replace HL := hide (HL.out.under hbel (by omega)); have hsz2 := hbel.size; have H6 := hide h6; clear h6; simp only [viwC]; obtain ⟨bP, oP, rfl, hbP, hcP⟩ := pr_get H6.out hp0; have hbP2 : bP < wR.heap.size := hbP.2; have HCP := hide (fun (j : Nat) (v : Value) (hv : (prC p)[j]? = some v) => show wR.cell? ⟨bP, oP + j, none⟩ = some v from by have := hcP j v hv; simpa using this); clear hcP hbP; clear hbel) | (refine wpList_storeW rfl 135 (.tmp 3) (.tmp 6) rfl 5 com_size (wR.heap.size) 135 rfl (comC noStep (.slice none 0 0)) (comC (1, (u, vl), (0, 0)) (.slice (some ⟨bP, oP, none⟩) vl.length c6)) rfl (RowL.new wR 135 (comC noStep (.slice none 0 0))) rfl rfl (comC_one _ _ _ _) ?_; intro wS3 hr3 hg3 hs3; have hzb := below_stored' hg3; replace HB := hide (HB.out.trans (hzb.mono HB.out.size)); replace R1 := hide (R1.out.on hzb); replace R2 := hide (R2.out.on hzb); replace HU := hide (HU.out.under hzb (by omega)); replace HL := hide (HL.out.under hzb (by omega)); replace H6 := hide (btw_on H6.out hzb (by omega)); replace HCP := hide (hcel HCP.out hzb (by omega)); have hsz4 := hzb.size; have R3 := hide hr3; have hlt3 := hr3.lt; have q3_0 : wS3.cell? ⟨wR.heap.size, 0, none⟩ = some (.int .i64 u) := R3.out.cell 0; have q3_1 : wS3.cell? ⟨wR.heap.size, 1, none⟩ = some (.slice (some ⟨bP, oP, none⟩) vl.length c6) := R3.out.cell 1; clear hzb hr3; clear hg3 hs3) | (refine wpList_loadX rfl 36 (.tmp 23) rfl 2 plc_agg plc_size bP oP rfl (prC p) HCP.out rfl ?_) | (refine wpList_storeC rfl 36 (.tmp 25) (.tmp 24) rfl 2 plc_size (wR.heap.size) 2 135 rfl (comC (1, (u, vl), (0, 0)) (.slice (some ⟨bP, oP, none⟩) vl.length c6)) (prC p) rfl R3.out rfl (by show 4 ≤ 5; omega) (prC_one _) ?_; intro wS5 hr5 hg5 hs5; replace hr5 : RowL wS5 (wR.heap.size) 135 (comC (1, (u, vl), p) (.slice (some ⟨bP, oP, none⟩) vl.length c6)) := hr5; clear q3_0 q3_1; replace HB := hide (HB.out.grown hg5 (by omega) (pu4 (by omega))); replace R1 := hide (R1.out.grown hg5 (pu5 (by omega))); replace R2 := hide (R2.out.grown hg5 (pu5 (by omega))); replace HU := hide (und_grown HU.out hg5 (by omega) (by omega)); replace HL := hide (und_grown HL.out hg5 (by omega) (by omega)); replace H6 := hide (btw_grown H6.out hg5 (by omega) (by omega)); have hsz6 := hg5.size; replace R3 := hide hr5; have q3_0 : wS5.cell? ⟨wR.heap.size, 0, none⟩ = some (.int .i64 u) := R3.out.cell 0; have q3_1 : wS5.cell? ⟨wR.heap.size, 1, none⟩ = some (.slice (some ⟨bP, oP, none⟩) vl.length c6) := R3.out.cell 1; clear hr5 hg5 hs5) | (refine wpList_loadW rfl 135 (.tmp 3) rfl 5 com_agg com_size (wR.heap.size) 135 rfl (comC (1, (u, vl), p) (.slice (some ⟨bP, oP, none⟩) vl.length c6)) R3.out rfl ?_) | (refine wpList_storeW rfl 135 (.tmp 2) (.tmp 26) rfl 5 com_size (w.heap.size + 1) 135 rfl (comC noStep (.slice none 0 0)) (comC (1, (u, vl), p) (.slice (some ⟨bP, oP, none⟩) vl.length c6)) rfl R2.out rfl rfl (comC_one _ _ _ _) ?_; intro wS7 hr7 hg7 hs7; clear q3_0 q3_1; replace HB := hide (HB.out.grown hg7 (by omega) (pu4 (by omega))); replace R1 := hide (R1.out.grown hg7 (pu5 (by omega))); replace HU := hide (und_grown HU.out hg7 (by omega) (by omega)); replace HL := hide (und_grown HL.out hg7 (by omega) (by omega)); replace H6 := hide (btw_grown H6.out hg7 (by omega) (by omega)); replace R3 := hide (R3.out.grown hg7 (pu5 (by omega))); have hsz8 := hg7.size; replace R2 := hide hr7; have q3_0 : wS7.cell? ⟨wR.heap.size, 0, none⟩ = some (.int .i64 u) := R3.out.cell 0; have q3_1 : wS7.cell? ⟨wR.heap.size, 1, none⟩ = some (.slice (some ⟨bP, oP, none⟩) vl.length c6) := R3.out.cell 1; clear hr7 hg7 hs7))
   exact bodyPost_ret (res_cell Tryz.results91 rfl com_agg com_size R2.out rfl) rfl ⟨_, c6, rfl, fr_low (fr_btw H6.out (by omega)) (by omega), HB.out⟩
 ·have hu1 : (u != 0) = true := by simpa using hu0
  rw [if_neg hu0]
  clear hu0
  go_enter Tryz.func91, Tryz.ntmps91
  go_wp2_with (first | (refine wpList_loadW rfl 29 (.tmp 1) rfl 6 stk_agg stk_size (w.heap.size) 29 rfl (stkC g (.slice AU nU cU) (.slice AL nL cL)) R1.out rfl ?_) | (go_at_call 17; refine (VRoot_e HV.out W1 HU.out HL.out (by omega) HF.out HFU.out).mono ?_; rintro e1 wR ⟨A6, c6, rfl, h6, hbel⟩; replace HB := hide (HB.out.trans (hbel.mono HB.out.size)); replace R1 := hide (R1.out.on hbel); replace R2 := hide (R2.out.on hbel); replace HU := hide (HU.out.under hbel (by omega)); replace HL := hide (HL.out.under hbel (by omega)); have hsz2 := hbel.size; have H6 := hide h6; clear h6; simp only [viwC]; clear hbel) | (refine wpList_storeW rfl 135 (.tmp 3) (.tmp 6) rfl 5 com_size (wR.heap.size) 135 rfl (comC noStep (.slice none 0 0)) (comC (1, (u, vl), (0, 0)) (.slice A6 vl.length c6)) rfl (RowL.new wR 135 (comC noStep (.slice none 0 0))) rfl rfl (comC_one _ _ _ _) ?_; intro wS3 hr3 hg3 hs3; have hzb := below_stored' hg3; replace HB := hide (HB.out.trans (hzb.mono HB.out.size)); replace R1 := hide (R1.out.on hzb); replace R2 := hide (R2.out.on hzb); replace HU := hide (HU.out.under hzb (by omega)); replace HL := hide (HL.out.under hzb (by omega)); replace H6 := hide (btw_on H6.out hzb (by omega)); have hsz4 := hzb.size; have R3 := hide hr3; have hlt3 := hr3.lt; have q3_0 : wS3.cell? ⟨wR.heap.size, 0, none⟩ = some (.int .i64 u) := R3.out.cell 0; have q3_1 : wS3.cell? ⟨wR.heap.size, 1, none⟩ = some (.slice A6 vl.length c6) := R3.out.cell 1; clear hzb hr3; clear hg3 hs3) | (refine wpList_storeV rfl 3 (.tmp 13) (Operand.const (Value.int IntKind.i64 1)) rfl int_size (wR.heap.size) 3 135 rfl (.int .i64 1) rfl rfl rfl (comC (1, (u, vl), (0, 0)) (.slice A6 vl.length c6)) R3.out (by show 3 < 5; omega) ?_; intro wS5 hr5 hg5 hs5; replace hr5 : RowL wS5 (wR.heap.size) 135 (comC (1, (u, vl), (0, 1)) (.slice A6 vl.length c6)) := hr5; clear q3_0 q3_1; replace HB := hide (HB.out.grown hg5 (by omega) (pu4 (by omega))); replace R1 := hide (R1.out.grown hg5 (pu5 (by omega))); replace R2 := hide (R2.out.grown hg5 (pu5 (by omega))); replace HU := hide (und_grown HU.out hg5 (by omega) (by omega)); replace HL := hide (und_grown HL.out hg5 (by omega) (by omega)); replace H6 := hide (btw_grown H6.out hg5 (by omega) (by omega)); have hsz6 := hg5.size; replace R3 := hide hr5; have q3_0 : wS5.cell? ⟨wR.heap.size, 0, none⟩ = some (.int .i64 u) := R3.out.cell 0; have q3_1 : wS5.cell? ⟨wR.heap.size, 1, none⟩ = some (.slice A6 vl.length c6) := R3.out.cell 1; clear hr5 hg5 hs5) | (refine wpList_loadW rfl 135 (.tmp 3) rfl 5 com_agg com_size (wR.heap.size) 135 rfl (comC (1, (u, vl), (0, 1)) (.slice A6 vl.length c6)) R3.out rfl ?_) | (refine wpList_storeW rfl 135 (.tmp 2) (.tmp 26) rfl 5 com_size (w.heap.size + 1) 135 rfl (comC noStep (.slice none 0 0)) (comC (1, (u, vl), (0, 1)) (.slice A6 vl.length c6)) rfl R2.out rfl rfl (comC_one _ _ _ _) ?_; intro wS7 hr7 hg7 hs7; clear q3_0 q3_1; replace HB := hide (HB.out.grown hg7 (by omega) (pu4 (by omega))); replace R1 := hide (R1.out.grown hg7 (pu5 (by omega))); replace HU := hide (und_grown HU.out hg7 (by omega) (by omega)); replace HL := hide (und_grown HL.out hg7 (by omega) (by omega)); replace H6 := hide (btw_grown H6.out hg7 (by omega) (by omega)); replace R3 := hide (R3.out.grown hg7 (pu5 (by omega))); have hsz8 := hg7.size; replace R2 := hide hr7; have q3_0 : wS7.cell? ⟨wR.heap.size, 0, none⟩ = some (.int .i64 u) := R3.out.cell 0; have q3_1 : wS7.cell? ⟨wR.heap.size, 1, none⟩ = some (.slice A6 vl.length c6) := R3.out.cell 1; clear hr7 hg7 hs7))
  exact bodyPost_ret (res_cell Tryz.results91 rfl com_agg com_size R2.out rfl) rfl ⟨_, c6, rfl, fr_low (fr_btw H6.out (by omega)) (by omega), HB.out⟩
end Go.Proofs.YtabhgoekpbmdlaaGreat

namespace Go.Proofs.YtabhgoekpbmdlaaGreat
open Go.RowKit
variable {α β : Type} {E : Enc α}

def KeepS (wX : World) (B b o : Nat) (vc : List Value) (W : World) : Prop := Below B wX W ∧ (∀ k, k < wX.heap.size → k ≠ b → W.heap[k]? = wX.heap[k]?) ∧ ∀ k x, vc[k]? = some x → W.cell? ⟨b, o + k, none⟩ = some x
theorem KeepS.start {wX : World} {B b o : Nat} {vc : List Value} (hc : ∀ k x, vc[k]? = some x → wX.cell? ⟨b, o + k, none⟩ = some x) : KeepS wX B b o vc wX.drew := ⟨(Below.refl B wX).drew, fun _ _ _ => rfl, hc⟩
theorem KeepS.on {wX W W' : World} {B b o : Nat} {vc : List Value} (h : KeepS wX B b o vc W) (hb : Below W.heap.size W W') (hB : B ≤ wX.heap.size) (hlt : b < wX.heap.size) : KeepS wX B b o vc W' := by
 have hs := h.1.size
 exact ⟨h.1.trans (hb.mono (by omega)), fun k hk hne => (hb.block k (by omega)).trans (h.2.1 k hk hne), fun k x hx => (hb.cell (p := ⟨b, o + k, none⟩) (by exact Nat.lt_of_lt_of_le hlt hs)).trans (h.2.2 k x hx)⟩
theorem KeepS.row {wX W : World} {B b o g t : Nat} {vc cs : List Value} (h : KeepS wX B b o vc W) (hr : RowL wX g t cs) (hg : g ≠ b) : RowL W g t cs := (h.2.1 g hr.lt hg).trans hr
theorem KeepS.rd {α : Type} {E : Enc α} {wX W : World} {B b o : Nat} {vc : List Value} {D : Nat → Prop} {A : Option Addr} {n : Nat} {l : List α} (h : KeepS wX B b o vc W) (hr : RdE E wX D A n l) (hD : ∀ k, D k → k < wX.heap.size ∧ k ≠ b) : RdE E W D A n l :=
 hr.mono (fun k hk => h.2.1 k (hD k hk).1 (hD k hk).2) (fun _ h => h)
theorem und_at {α : Type} {E : Enc α} {w w' : World} {B C : Nat} {A : Option Addr} {n : Nat} {l : List α} (h : RdE E w (Under B) A n l) (hb : Below C w w') (hBC : B ≤ C) : RdE E w' (Under B) A n l :=
 h.mono (fun b hb' => hb.block b (by unfold Under at hb'; omega)) (fun _ h => h)
end Go.Proofs.YtabhgoekpbmdlaaGreat

