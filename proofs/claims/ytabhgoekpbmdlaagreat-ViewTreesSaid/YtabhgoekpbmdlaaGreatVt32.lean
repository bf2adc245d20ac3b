import Derived.Test.YtabhgoekpbmdlaaGreatVt20
import Derived.Test.YtabhgoekpbmdlaaGreatVt30
import Derived.Test.YtabhgoekpbmdlaaGreatVt28
import Derived.Test.YtabhgoekpbmdlaaGreatVt31
import Derived.Test.YtabhgoekpbmdlaaGreatVt29
import Derived.Test.YtabhgoekpbmdlaaGreatVt2

/- The references' Places and SameView over what is the same (layer 17). -/
namespace Go.Proofs.YtabhgoekpbmdlaaGreat
open Go.RowKit Go.Shelf Plain

theorem RVRoot_e {g : GeoQ} {AU AL : Option Addr} {nU cU nL cL B : Nat} {up : List NodV} {ls : List (List NodV)} {V : ViewV} (hV : rootV up ls = V) (w : World) (hu : RdE nodEn w (Under B) AU nU up) (h : RdE layEn w (Under B) AL nL ls) (hB : B ≤ w.heap.size) (hF : FewL ls) (hup : FewU up) : Calls Tryz.prog 18 #[.agg (stkC g (.slice AU nU cU) (.slice AL nL cL)).toArray] w (ViewF w.heap.size w V) := by rw [← hV]; exact RVRoot_any w hu h hB hF hup
set_option maxRecDepth 100000 in
set_option maxHeartbeats 4000000 in
theorem Places_same {A B : Option Addr} {n m c d : Nat} {L : List (Int × Int)} (w : World) (ha : RdE prEn w (Under w.heap.size) A n L) (hb : RdE prEn w (Under w.heap.size) B m L) (hn : n ≤ 100000) :
  Calls Tryz.prog 69 #[.slice A n c, .slice B m d] w (BoolB w true) := by
 obtain rfl : n = m := by rw [← ha.1, ← hb.1]
 have HA := hide ha
 have HB := hide hb
 have hln := ha.1
 clear ha hb
 have hd : ((n : Int) != (n : Int)) = false := by simp
 go_enter Tryz.func69, Tryz.ntmps69
 go_wp2_with fail
 go_loopw [5] (fun i wr => ∃ j : Nat, j ≤ n ∧ i = .int .i64 j ∧ Below w.heap.size w wr) (fun i _ => n - (intOf i).toNat)
 case atStart => exact ⟨0, by omega, rfl, below_self w⟩
 case round =>
  obtain ⟨j, hj, rfl, hbr⟩ := hrel
  have HBR := hide hbr
  have hbsz := hbr.size
  by_cases hlt : j < n
  ·have hl1 : j < L.length := by omega
   obtain ⟨b1, o1, rfl, hb1, hc1⟩ := pr_get (HA.out.under hbr (Nat.le_refl _)) (List.getElem?_eq_getElem hl1)
   obtain ⟨b2, o2, rfl, hb2, hc2⟩ := pr_get (HB.out.under hbr (Nat.le_refl _)) (List.getElem?_eq_getElem hl1)
   have hb1' : b1 < w.heap.size := hb1
   have hb2' : b2 < w.heap.size := hb2
   generalize L[j] = y at hc1 hc2
   obtain ⟨ya, yb⟩ := y
   have HC1 := hide hc1
   have HC2 := hide hc2
   have hji : (j : Int) < (n : Int) := by omega
   clear hc1 hc2 hb1 hb2 hbr
   go_wp2_with fail
   refine wp_region_planN (fun w' => Below wr.heap.size wr w') [(0, true), (1, true), (2, true), (3, true), (4, true), (5, true), (6, true), (7, true), (8, true)] (by kernel_rfl) (by kernel_rfl) (by kernel_rfl) (by kernel_rfl) rfl (fun _ _ _ _ _ h => h) (below_drew (below_self wr)) (fun hHeld => ?_)
   simp only [planOps, List.filterMap_cons, List.filterMap_nil, List.getElem?_toArray, List.getElem?_cons_succ, List.getElem?_cons_zero, Option.map_some]
   refine wpPlan_take (v := ?_) (by kernel_rfl) (fun wS hSw => ?_) ?_
   rotate_left
   ·(try dsimp only at hSw); go_simp; (try with_reducible rfl)
   (try simp only [Act.put, pu1, pu2, pu3])
   refine wpPlan_take (v := ?_) (by kernel_rfl) (fun wS hSw => ?_) ?_
   rotate_left
   ·(try dsimp only at hSw); go_simp; (try with_reducible rfl)
   (try simp only [Act.put, pu1, pu2, pu3])
   refine wpPlan_take (v := ?_) (by kernel_rfl) (fun wS hSw => ?_) ?_
   rotate_left
   ·(try dsimp only at hSw); go_simp; (try with_reducible rfl)
   (try simp only [Act.put, pu1, pu2, pu3])
   refine wpPlan_take (v := ?_) (by kernel_rfl) (fun wS hSw => ?_) ?_
   rotate_left
   ·refine execOp_load (x := .tmp 19) (k := 2) (g := b1) (off := o1 + j * 2) (cs := prC (ya, yb)) ?_ plc_agg plc_size ?_ (fun k v hv => (hSw.cell (p := ⟨b1, o1 + j * 2 + k, none⟩) (show b1 < wr.heap.size by omega)).trans (HC1.out k v hv)) rfl <;> rfl
   (try simp only [Act.put, pu1, pu2, pu3])
   refine wpPlan_take (v := ?_) (by kernel_rfl) (fun wS hSw => ?_) ?_
   rotate_left
   ·(try dsimp only at hSw); go_simp; (try with_reducible rfl)
   (try simp only [Act.put, pu1, pu2, pu3])
   refine wpPlan_take (v := ?_) (by kernel_rfl) (fun wS hSw => ?_) ?_
   rotate_left
   ·(try dsimp only at hSw); go_simp; (try with_reducible rfl)
   (try simp only [Act.put, pu1, pu2, pu3])
   refine wpPlan_take (v := ?_) (by kernel_rfl) (fun wS hSw => ?_) ?_
   rotate_left
   ·(try dsimp only at hSw); go_simp; (try with_reducible rfl)
   (try simp only [Act.put, pu1, pu2, pu3])
   refine wpPlan_take (v := ?_) (by kernel_rfl) (fun wS hSw => ?_) ?_
   rotate_left
   ·refine execOp_load (x := .tmp 23) (k := 2) (g := b2) (off := o2 + j * 2) (cs := prC (ya, yb)) ?_ plc_agg plc_size ?_ (fun k v hv => (hSw.cell (p := ⟨b2, o2 + j * 2 + k, none⟩) (show b2 < wr.heap.size by omega)).trans (HC2.out k v hv)) rfl <;> rfl
   (try simp only [Act.put, pu1, pu2, pu3])
   refine wpPlan_take (v := ?_) (by kernel_rfl) (fun wS hSw => ?_) ?_
   rotate_left
   ·(try simp only [prC]); have qx := neq_plc ya yb wS; go_simp; (try with_reducible rfl)
   (try simp only [Act.put, pu1, pu2, pu3])
   refine wpPlan_end ?_
   have HBX := hide (HBR.out.trans (hHeld.mono hbsz))
   clear hHeld
   go_wp2_with fail
   go_roundw
   case rel => exact ⟨j + 1, by omega, by go_num, HBX.out⟩
   case measure => simp [intOf]; omega
  ·obtain rfl : j = n := by omega
   clear hbr
   go_wp2_with fail
   go_ret
   exact BoolB.of HBR.out
set_option maxRecDepth 100000 in
set_option maxHeartbeats 4000000 in
theorem SameView_same {u : Int} {A1 A2 : Option Addr} {n m c1 c2 : Nat} {L : List (Int × Int)} (w : World) (ha : RdE prEn w (Under w.heap.size) A1 n L) (hb : RdE prEn w (Under w.heap.size) A2 m L) (hn : n ≤ 100000) :
  Calls Tryz.prog 16 #[.agg (viwC u (.slice A1 n c1)).toArray, .agg (viwC u (.slice A2 m c2)).toArray] w (BoolB w true) := by
 obtain ⟨W1, hW1⟩ : ∃ W1, ((w.alloc (.cells (viwC u (.slice A1 n c1)).toArray 32)).alloc (.cells (viwC u (.slice A2 m c2)).toArray 32)) = W1 := ⟨_, rfl⟩
 obtain ⟨r0, r1, hb1, hs1⟩ := rowA2 w _ _ _ _ hW1
 have hW1' : ((w.alloc (.cells #[.int .i64 u, .slice A1 n c1] 32)).alloc (.cells #[.int .i64 u, .slice A2 m c2] 32)) = W1 := hW1
 have R2 := hide r0
 have R3 := hide r1
 have HB := hide hb1
 have hsz0 := hb1.size
 have HX := hide (ha.under hb1 (Nat.le_refl _))
 have HY := hide (hb.under hb1 (Nat.le_refl _))
 have huu : (u == u) = true := by simp
 have q2_0 : W1.cell? ⟨w.heap.size, 0, none⟩ = some (.int .i64 u) := R2.out.cell 0
 have q3_0 : W1.cell? ⟨w.heap.size + 1, 0, none⟩ = some (.int .i64 u) := R3.out.cell 0
 have q2_1 : W1.cell? ⟨w.heap.size, 1, none⟩ = some (.slice A1 n c1) := R2.out.cell 1
 have q3_1 : W1.cell? ⟨w.heap.size + 1, 1, none⟩ = some (.slice A2 m c2) := R3.out.cell 1
 unfold viwC
 clear r0 r1 hb1 hW1 ha hb
 go_enter Tryz.func16, Tryz.ntmps16
 go_wp2_with (first | (go_at_call 69; refine (Places_same W1 (und_up HX.out (by omega)) (und_up HY.out (by omega)) hn).mono ?_; rintro e1 wP ⟨rfl, hbel⟩; clear q2_0 q3_0 q2_1 q3_1; replace HB := hide (HB.out.trans (hbel.mono HB.out.size)); replace R2 := hide (R2.out.on hbel); replace R3 := hide (R3.out.on hbel); replace HX := hide (HX.out.under hbel (by omega)); replace HY := hide (HY.out.under hbel (by omega)); have hsz2 := hbel.size; have q2_0 : wP.cell? ⟨w.heap.size, 0, none⟩ = some (.int .i64 u) := R2.out.cell 0; have q3_0 : wP.cell? ⟨w.heap.size + 1, 0, none⟩ = some (.int .i64 u) := R3.out.cell 0; have q2_1 : wP.cell? ⟨w.heap.size, 1, none⟩ = some (.slice A1 n c1) := R2.out.cell 1; have q3_1 : wP.cell? ⟨w.heap.size + 1, 1, none⟩ = some (.slice A2 m c2) := R3.out.cell 1; clear hbel))
 go_ret
 exact BoolB.of HB.out
end Go.Proofs.YtabhgoekpbmdlaaGreat

/- slices.EqualFunc of views that are the same, by SameView (layer 17). -/
namespace Go.Proofs.YtabhgoekpbmdlaaGreat
open Go.RowKit Go.Shelf Plain

theorem hcell {w w' : World} {b o : Nat} {cs : List Value} (h : ∀ k x, cs[k]? = some x → w.cell? ⟨b, o + k, none⟩ = some x) {B : Nat} (hb : Below B w w') (hlt : b < B) : ∀ k x, cs[k]? = some x → w'.cell? ⟨b, o + k, none⟩ = some x := fun k x hx => (hb.cell (p := ⟨b, o + k, none⟩) hlt).trans (h k x hx)
theorem view_get {w : World} {D : Nat → Prop} {A : Option Addr} {n j : Nat} {l : List ViewV} {v : ViewV} (h : RdE viewEn w D A n l) (hv : l[j]? = some v) : ∃ b o A2 c2, A = some ⟨b, o, none⟩ ∧ D b ∧ (∀ k x, (viwC v.1 (.slice A2 v.2.length c2))[k]? = some x → w.cell? ⟨b, o + j * 2 + k, none⟩ = some x) ∧ RdE prEn w D A2 v.2.length v.2 := by
 have hj : j < l.length := (List.getElem?_eq_some_iff.1 hv).1
 obtain ⟨b, o, e, hD, hc⟩ := h.2 (by have := h.1; omega)
 obtain ⟨cs, ⟨A2, c2, rfl, hr⟩, hcs⟩ := hc j v hv
 exact ⟨b, o, A2, c2, e, hD, fun k x hx => by have h1 := hcs k x hx; rw [show viewEn.k = 2 from rfl, ← Nat.add_assoc] at h1; exact h1, hr⟩
set_option maxRecDepth 100000 in
set_option maxHeartbeats 4000000 in
theorem EqVF_same {A B : Option Addr} {n m c d : Nat} {L : List ViewV} (w : World) (ha : RdE viewEn w (Under w.heap.size) A n L) (hb : RdE viewEn w (Under w.heap.size) B m L) (hn : n ≤ 100000) (hl : ∀ v ∈ L, v.2.length ≤ 100000) :
  Calls Tryz.prog 28 #[.slice A n c, .slice B m d, .func (.func 16) #[] #[]] w (BoolB w true) := by
 obtain rfl : n = m := by rw [← ha.1, ← hb.1]
 have HX := hide ha
 have HY := hide hb
 have HLL := hide hl
 have hln := ha.1
 clear ha hb hl
 have hd : ((n : Int) != (n : Int)) = false := by simp
 go_enter Tryz.func28, Tryz.ntmps28
 go_wp2_with fail
 go_loopw [17] (fun i wr => ∃ j : Nat, j ≤ n ∧ i = .int .i64 j ∧ Below w.heap.size w wr) (fun i _ => n - (intOf i).toNat)
 case atStart => exact ⟨0, by omega, rfl, below_self w⟩
 case round =>
  obtain ⟨j, hj, rfl, hbr⟩ := hrel
  have HB := hide hbr
  have hbsz := hbr.size
  by_cases hlt : j < n
  ·have hl1 : j < L.length := by omega
   obtain ⟨v, hv⟩ : ∃ v, L[j]? = some v := ⟨_, List.getElem?_eq_getElem hl1⟩
   have hvl : v.2.length ≤ 100000 := HLL.out v (List.mem_of_getElem? hv)
   replace HX := hide (HX.out.under hbr (Nat.le_refl _))
   replace HY := hide (HY.out.under hbr (Nat.le_refl _))
   obtain ⟨b1, o1, A1, c1, rfl, hb1, hc1, hr1⟩ := view_get HX.out hv
   obtain ⟨b2, o2, A2, c2, rfl, hb2, hc2, hr2⟩ := view_get HY.out hv
   have h1l : b1 < wr.heap.size := Nat.lt_of_lt_of_le hb1 hbsz
   have h2l : b2 < wr.heap.size := Nat.lt_of_lt_of_le hb2 hbsz
   have HC1 := hide hc1
   have HC2 := hide hc2
   have HP := hide hr1
   have HQ := hide hr2
   have hji : (j : Int) < (n : Int) := by omega
   clear hc1 hc2 hb1 hb2 hr1 hr2 hbr hv
   go_wp2_with (first | (refine wpList_loadX rfl 32 (.tmp 20) rfl 2 viw_agg viw_size b1 (o1 + j * 2) rfl (viwC v.1 (.slice A1 v.2.length c1)) HC1.out rfl ?_) | (refine wpList_storeW rfl 32 (.tmp 8) (.tmp 21) rfl 2 viw_size (wr.heap.size) 32 rfl (viwC 0 (.slice none 0 0)) (viwC v.1 (.slice A1 v.2.length c1)) rfl (RowL.new wr 32 (viwC 0 (.slice none 0 0))) rfl rfl (viwC_one _ _ _ _) ?_; intro wS1 hr1 hg1 hs1; have hzb := below_stored' hg1; replace HB := hide (HB.out.trans (hzb.mono HB.out.size)); replace HX := hide (HX.out.under hzb (by omega)); replace HY := hide (HY.out.under hzb (by omega)); replace HP := hide (HP.out.under hzb (by omega)); replace HQ := hide (HQ.out.under hzb (by omega)); replace HC1 := hide (hcell HC1.out hzb (by omega)); replace HC2 := hide (hcell HC2.out hzb (by omega)); have hsz2 := hzb.size; have R8 := hide hr1; have hlt1 := hr1.lt; clear hzb hr1; clear hg1 hs1) | (refine wpList_loadX rfl 32 (.tmp 24) rfl 2 viw_agg viw_size b2 (o2 + j * 2) rfl (viwC v.1 (.slice A2 v.2.length c2)) HC2.out rfl ?_) | (refine wpList_storeW rfl 32 (.tmp 9) (.tmp 25) rfl 2 viw_size (wS1.heap.size) 32 rfl (viwC 0 (.slice none 0 0)) (viwC v.1 (.slice A2 v.2.length c2)) rfl (RowL.new wS1 32 (viwC 0 (.slice none 0 0))) rfl rfl (viwC_one _ _ _ _) ?_; intro wS3 hr3 hg3 hs3; have hzb := below_stored' hg3; replace HB := hide (HB.out.trans (hzb.mono HB.out.size)); replace HX := hide (HX.out.under hzb (by omega)); replace HY := hide (HY.out.under hzb (by omega)); replace HP := hide (HP.out.under hzb (by omega)); replace HQ := hide (HQ.out.under hzb (by omega)); replace HC1 := hide (hcell HC1.out hzb (by omega)); replace HC2 := hide (hcell HC2.out hzb (by omega)); replace R8 := hide (R8.out.on hzb); have hsz4 := hzb.size; have R9 := hide hr3; have hlt3 := hr3.lt; clear hzb hr3; clear hg3 hs3) | (refine wpList_loadW rfl 32 (.tmp 8) rfl 2 viw_agg viw_size (wr.heap.size) 32 rfl (viwC v.1 (.slice A1 v.2.length c1)) R8.out rfl ?_) | (refine wpList_loadW rfl 32 (.tmp 9) rfl 2 viw_agg viw_size (wS1.heap.size) 32 rfl (viwC v.1 (.slice A2 v.2.length c2)) R9.out rfl ?_) | (go_at_call 16; refine (SameView_same wS3 (und_up HP.out (by omega)) (und_up HQ.out (by omega)) hvl).mono ?_; rintro e77 wE ⟨rfl, hbel⟩; replace HB := hide (HB.out.trans (hbel.mono HB.out.size)); clear hbel))
   go_roundw
   case rel => exact ⟨j + 1, by omega, by go_num, HB.out⟩
   case measure => simp [intOf]; omega
  ·obtain rfl : j = n := by omega
   clear hbr
   go_wp2_with fail
   go_ret
   exact BoolB.of HB.out
end Go.Proofs.YtabhgoekpbmdlaaGreat

/- An append keeps the cells of the row that it grows. Nothing here speaks of a program. -/
namespace Go.Proofs.YtabhgoekpbmdlaaGreat
open Go.RowKit
variable {α β : Type} {E : Enc α}

theorem append_stays {P : Program} {w w' : World} {base : Nat} {t ty e : TypeId} {i : TypeInfo} {z : Value} {size k : Nat} (ht : P.underlying t = some (.slice e)) (hi : P.info? e = some i) (hz : i.zero = some z) (hsz : i.size = size) (hby : i.bytes = k)
  {v v' : Value} {n : Nat} {xs : List Value} (hown : w.ownsRow base e size v n xs) {a : Addr} {m c : Nat} (hr : (Builtin.append_ #[t, t] ty #[v, .slice (some a) m c]).run P w = .ok v' w') {news : List Value} (hl : news.length = m * size)
  (hnews : ∀ j u, news[j]? = some u → w.cell? (a.add j) = some u) (h1 : ∀ u ∈ news, u.oneCell' = true) (hbytes : (n + m) * k ≤ 140737488355328) (hnm : n + m ≤ 140737488355328) :
  v'.ownBlock = v.ownBlock ∨ Below w.heap.size w w' := by
 subst hsz
 subst hby
 rcases hown.2 with ⟨rfl, rfl⟩ | ⟨g, cap, cur, rfl, hbg, hg, hnc, hcm, hcs, htake⟩
 ·by_cases hm : m = 0
  ·subst hm
   have h2 : (Builtin.append_ #[t, t] ty #[.slice none 0 0, .slice (some a) 0 c]).run P w = .ok (.slice none 0 0) w := by
    simp [Builtin.append_, run_underlying ht, sizeOf, typeInfo, hi, Builtin.lenOf, Builtin.firstCells, loadCells, loadCellsFrom]
   rw [h2] at hr
   cases hr
   exact .inl rfl
  ·have h2 := run_append_nil (P := P) w t ty e i z ht hi hz a m c news hl hnews (by omega) (by omega) (by have hb := hbytes; simp only [Nat.zero_add] at hb; omega)
   rw [h2] at hr
   cases hr
   exact .inr ((Below.refl w.heap.size w).drew.alloc (Nat.le_refl _) _)
 ·by_cases hroom : n + m ≤ cap
  ·have hfit : n * i.size + news.length ≤ cur.size := by rw [hl, hcs, ← Nat.add_mul]; exact Nat.mul_le_mul_right _ hroom
   have h2 := run_append_room (P := P) w t ty e i ht hi g n cap cur hg a m c news hl hnews h1 hroom hfit
   rw [h2] at hr
   cases hr
   exact .inl rfl
  ·have holds : ∀ j u, xs[j]? = some u → w.cell? ((⟨g, 0, none⟩ : Addr).add j) = some u := hown.cells (g := g) rfl
   have h2 := run_append_grow (P := P) w t ty e i z ht hi hz ⟨g, 0, none⟩ n cap xs hown.1 holds a m c news hl hnews (by omega) (by omega) (growslice_fits (by omega) hbytes)
   rw [h2] at hr
   cases hr
   exact .inr ((Below.refl w.heap.size w).drew.alloc (Nat.le_refl _) _)
theorem add_flat (g j : Nat) : (⟨g, 0, none⟩ : Addr).add j = ⟨g, j, none⟩ := by
 unfold Addr.add
 split
 ·rename_i h0; subst h0; rfl
 ·simp
theorem run_append_OwK [Tags] {P : Program} (w : World) (base : Nat) (t ty e : TypeId) (z : Value) (k : Nat) (ht : P.underlying t = some (.slice e)) (hinfo : (P.info? e).map (fun i => (i.zero, i.size, i.bytes)) = some (some z, E.k, k)) (hzs : z.cells.size = E.k) (hk : 0 < E.k)
  (A0 : Option Addr) (n c0 : Nat) (l0 : List α) (hown : OwE E w base e A0 n c0 l0) (D : Nat → Prop) (A : Option Addr) (m c : Nat) (l1 : List α) (hb : RdE E w D A m l1) (hD : ∀ b, D b → But w A0 b) (hm : 0 < m)
  (hbytes : (n + m) * k ≤ 140737488355328) (hnm : n + m ≤ 140737488355328) (hbase : base ≤ w.heap.size) :
  ∃ A' c' w', (Builtin.append_ #[t, t] ty #[.slice A0 n c0, .slice A m c]).run P w = .ok (.slice A' (n + m) c') w' ∧ OwE E w' base e A' (n + m) c' (l0 ++ l1) ∧ Below base w w' ∧
   (∀ g j u, A0 = some ⟨g, 0, none⟩ → j < n * E.k → w.cell? ⟨g, j, none⟩ = some u → w'.cell? ⟨g, j, none⟩ = some u) ∧ w.grownBy w' (Value.slice A0 n c0).ownBlock := by
 obtain ⟨A', c', w', hr, h2, h3⟩ := run_append_OwE (P := P) w base t ty e z k ht hinfo hzs hk A0 n c0 l0 hown D A m c l1 hb hD hbytes hnm hbase
 obtain ⟨css, hrow, hc, hl⟩ := hown
 obtain ⟨v', w2, dss, hr2, hrow2, -, -, hgr, -⟩ := run_append_E (P := P) w base t ty e z k ht hinfo hzs hk _ n css hrow D A m c l1 hb hbytes hnm hbase
 rw [hr] at hr2
 cases hr2
 refine ⟨A', c', w', hr, h2, h3, ?_, hgr⟩
 intro g j u hA hj hu
 subst hA
 obtain ⟨i, hi, hz, hsz, hby⟩ := info_parts hinfo
 obtain ⟨b, o, ess, rfl, _, hC, hcell⟩ := hb.cells hm
 have hfl := flat_len hC.lens
 have hfc := flat_len hc.lens
 have hs := append_stays (P := P) ht hi hz hsz hby hrow hr (news := ess.flatten) (by rw [hfl, hC.1, hb.1]) (fun j u hu => by
  have := hcell j u hu
  rw [← this]
  congr 1
  unfold Addr.add
  split
  ·rename_i h0; subst h0; rfl
  ·rfl) hC.ones hbytes hnm
 have hjl : j < css.flatten.length := by rw [hfc, hc.1, hl]; exact hj
 obtain ⟨x, hx⟩ : ∃ x, css.flatten[j]? = some x := ⟨_, List.getElem?_eq_getElem hjl⟩
 have h4 := hrow.cells (g := g) rfl j x hx
 rw [add_flat] at h4
 obtain rfl : u = x := Option.some.inj (hu.symm.trans h4)
 rcases hs with hs | hs
 ·have h5 := hrow2.cells (g := g) (by rw [hs]; rfl) j u (by rw [List.flatten_append, List.getElem?_append_left hjl]; exact hx)
  rw [add_flat] at h5
  exact h5
 ·rcases hrow.2 with ⟨h0, -⟩ | ⟨g', cap, cur, h0, -, hg, -⟩
  ·cases h0
  ·cases h0
   exact (hs.cell (p := ⟨g, j, none⟩) (by have := Array.getElem?_eq_some_iff.1 hg; exact this.1)).trans hu
theorem wp_append_OwK [Tags] {P : Program} (w : World) {o : Oper} {a : Act} {K : Act → World → Prop} {Q : Exit → Act → World → Prop} (s x : Operand) (t : TypeId)
  (ho : o.op = .call { callee := .builtin .append, args := #[s, x], argTypes := #[t, t] })
  (base : Nat) (e : TypeId) (z : Value) (k : Nat) (ht : P.underlying t = some (.slice e)) (hinfo : (P.info? e).map (fun i => (i.zero, i.size, i.bytes)) = some (some z, E.k, k)) (hzs : z.cells.size = E.k) (hk : 0 < E.k)
  (A0 : Option Addr) (n c0 : Nat) (l0 : List α) (hs : a.eval s = .slice A0 n c0) (hown : OwE E w base e A0 n c0 l0) (D : Nat → Prop) (A : Option Addr) (m c : Nat) (l1 : List α) (hx : a.eval x = .slice A m c) (hb : RdE E w D A m l1) (hD : ∀ b, D b → But w A0 b) (hm : 0 < m)
  (N : Nat) (hN : n + m = N) (hbytes : N * k ≤ 140737488355328) (hnm : N ≤ 140737488355328) (hbase : base ≤ w.heap.size)
  (h : ∀ A' c' w', OwE E w' base e A' N c' (l0 ++ l1) → Below base w w' → (∀ g j u, A0 = some ⟨g, 0, none⟩ → j < n * E.k → w.cell? ⟨g, j, none⟩ = some u → w'.cell? ⟨g, j, none⟩ = some u) → w.grownBy w' (Value.slice A0 n c0).ownBlock → K (a.put o.dst (.slice A' N c')) w') : o.wp P a w K Q := by
 subst hN
 obtain ⟨A', c', w', hr, h2, h3, h4, h5⟩ := run_append_OwK (P := P) w base t o.type e z k ht hinfo hzs hk A0 n c0 l0 hown D A m c l1 hb hD hm hbytes hnm hbase
 unfold Oper.wp execOp
 simp only [ho, resolve, invoke, builtin, Sem.run_bind, Sem.run_pure, Result.andThen_ok, List.map_toArray, List.map_cons, List.map_nil, hs, hx, hr]
 exact h A' c' w' h2 h3 h4 h5
/-- What is kept while a row in block b grows: all below B, all other blocks, and some cells of the row. -/
def KeepS (wX : World) (B b o : Nat) (vc : List Value) (W : World) : Prop := Below B wX W ∧ (∀ k, k < wX.heap.size → k ≠ b → W.heap[k]? = wX.heap[k]?) ∧ ∀ k x, vc[k]? = some x → W.cell? ⟨b, o + k, none⟩ = some x
theorem KeepS.start {wX : World} {B b o : Nat} {vc : List Value} (hc : ∀ k x, vc[k]? = some x → wX.cell? ⟨b, o + k, none⟩ = some x) : KeepS wX B b o vc wX.drew := ⟨(Below.refl B wX).drew, fun _ _ _ => rfl, hc⟩
theorem KeepS.on {wX W W' : World} {B b o : Nat} {vc : List Value} (h : KeepS wX B b o vc W) (hb : Below W.heap.size W W') (hB : B ≤ wX.heap.size) (hlt : b < wX.heap.size) : KeepS wX B b o vc W' := by
 have hs := h.1.size
 exact ⟨h.1.trans (hb.mono (by omega)), fun k hk hne => (hb.block k (by omega)).trans (h.2.1 k hk hne), fun k x hx => (hb.cell (p := ⟨b, o + k, none⟩) (by exact Nat.lt_of_lt_of_le hlt hs)).trans (h.2.2 k x hx)⟩
theorem KeepS.row {wX W : World} {B b o g t : Nat} {vc cs : List Value} (h : KeepS wX B b o vc W) (hr : RowL wX g t cs) (hg : g ≠ b) : RowL W g t cs := (h.2.1 g hr.lt hg).trans hr
theorem KeepS.rd {α : Type} {E : Enc α} {wX W : World} {B b o : Nat} {vc : List Value} {D : Nat → Prop} {A : Option Addr} {n : Nat} {l : List α} (h : KeepS wX B b o vc W) (hr : RdE E wX D A n l) (hD : ∀ k, D k → k < wX.heap.size ∧ k ≠ b) : RdE E W D A n l :=
 hr.mono (fun k hk => h.2.1 k (hD k hk).1 (hD k hk).2) (fun _ h => h)
theorem KeepS.grow {wX W W' : World} {B b o m : Nat} {vc : List Value} (h : KeepS wX B b o vc W) (hb : Below B W W') (hg : W.grownBy W' (some b)) (hk : o + vc.length ≤ m) (hc : ∀ j u, j < m → W.cell? ⟨b, j, none⟩ = some u → W'.cell? ⟨b, j, none⟩ = some u) : KeepS wX B b o vc W' := by
 have hs := h.1.size
 exact ⟨h.1.trans hb, fun k hk hne => (hg.block k (by omega) (fun e => hne (Option.some.inj e))).trans (h.2.1 k hk hne), fun j x hx => hc _ _ (by have := (List.getElem?_eq_some_iff.1 hx).1; omega) (h.2.2 j x hx)⟩
end Go.Proofs.YtabhgoekpbmdlaaGreat

