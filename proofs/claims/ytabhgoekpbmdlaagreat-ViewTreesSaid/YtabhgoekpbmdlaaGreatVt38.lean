import Derived.Test.YtabhgoekpbmdlaaGreatVt36
import Derived.Test.YtabhgoekpbmdlaaGreatVt37
import Derived.Test.YtabhgoekpbmdlaaGreatVt10
import Derived.BigRegion

/- The law ViewTrees: its walk (layer 17). -/
namespace Go.Proofs.YtabhgoekpbmdlaaGreat
open Go.RowKit Go.Shelf Plain

theorem wcell {w w' : World} {b o B : Nat} {cs : List Value} (h : ∀ (k : Nat) (x : Value), cs[k]? = some x → w.cell? ⟨b, o + k, none⟩ = some x) (hb : Below B w w') (hlt : b < B) : ∀ (k : Nat) (x : Value), cs[k]? = some x → w'.cell? ⟨b, o + k, none⟩ = some x := fun k x hx => (hb.cell (p := ⟨b, o + k, none⟩) hlt).trans (h k x hx)
theorem tree_get (up : List NodV) (ls : List (List NodV)) {l : List WayV} {j : Nat} {y : WayV} (h : l[j]? = some y) : (treeV up ls l)[j]? = some (wayView up ls (treeV up ls (l.take j)) y) := by
 have h1 := tree_succ up ls h
 have hj := (List.getElem?_eq_some_iff.1 h).1
 have h2 : treeV up ls l = treeV up ls (l.take (j + 1)) ++ (l.drop (j + 1)).foldl (fun vs x => vs ++ [wayView up ls (treeV up ls (l.take (j + 1)) ++ vs) x]) [] := by
  have key : ∀ (r : List WayV) (p q : List ViewV), r.foldl (fun vs x => vs ++ [wayView up ls vs x]) (p ++ q) = p ++ r.foldl (fun vs x => vs ++ [wayView up ls (p ++ vs) x]) q := by
   intro r
   induction r with
   | nil => intro p q; rfl
   | cons a r ih => intro p q; simp only [List.foldl_cons]; rw [List.append_assoc]; exact ih p _
  have h3 := key (l.drop (j + 1)) (treeV up ls (l.take (j + 1))) []
  rw [List.append_nil] at h3
  rw [← h3]
  show treeV up ls l = _
  unfold treeV
  rw [← List.foldl_append, List.take_append_drop]
 rw [h2, h1, List.append_assoc, List.getElem?_append_right (by rw [tree_take, List.length_take]; omega)]
 rw [tree_take, List.length_take, Nat.min_eq_left (by omega), Nat.sub_self]
 rfl
theorem tree_ino {up : List NodV} {ls : List (List NodV)} {l : List WayV} {j : Nat} {y : WayV} (hl : (walkW up [1]).1 = l) (h : l[j]? = some y) : (wayView up ls (treeV up ls (l.take j)) y).1 = y.ino ∧ (opqD (nodAt up y.ino) = true → (wayView up ls (treeV up ls (l.take j)) y).2 = []) := by
 have hup := walk_upv up
 have hok := walk_ok up [1]
 rw [hl] at hup hok
 have hd := hok.1 y (List.mem_of_getElem? h)
 have hk : (nodAt up y.ino).k = 1 := of_decide_eq_true hd
 obtain ⟨h0, h1⟩ := hup j y h
 unfold wayView
 by_cases hj : j = 0
 ·obtain ⟨hu, hi⟩ := h0 hj
  rw [hu, if_pos (by decide)]
  rw [hi] at hk ⊢
  unfold rootV
  rw [if_pos hk]
  exact ⟨rfl, fun ho => by dsimp only; rw [if_pos ho]⟩
 ·obtain ⟨p, hp, -⟩ := h1 (by omega)
  rw [hp, if_neg (by omega)]
  refine ⟨rfl, fun ho => ?_⟩
  dsimp only
  unfold partV
  have ho' : opq (nodAt up y.ino) = true := by unfold opqD at ho; simp at ho; exact ho.2
  rw [if_pos hk, if_pos ho']
def TreeP (w : World) (n : Nat) (ws : List WayV) (vs : List ViewV) (e : Ending) (w' : World) : Prop := ∃ A c A' c', e = .returned (.tuple #[.slice A n c, .slice A' n c']) ∧ RdE wayEn w' (fun b => w.heap.size ≤ b ∧ b < w'.heap.size) A n ws ∧ RdE viewEn w' (Under w'.heap.size) A' n vs ∧ Below w.heap.size w w'
theorem TreeF.p {w w' : World} {ws : List WayV} {vs : List ViewV} {n : Nat} {e : Ending} (h : TreeF w ws vs e w') (h1 : ws.length = n) (h2 : vs.length = n) : TreeP w n ws vs e w' := by
 obtain ⟨A, c, A', c', he, ha, hb, hbl⟩ := h
 rw [h1] at he ha
 rw [h2] at he hb
 exact ⟨A, c, A', c', he, ha, hb, hbl⟩
theorem VTree_p {g : GeoQ} {AU AL : Option Addr} {nU cU nL cL B : Nat} {up : List NodV} {ls : List (List NodV)} {ws : List WayV} {T : List ViewV} {n : Nat} (hw : (walkW up [1]).1 = ws) (hT : treeV up ls ws = T) (hn : ws.length = n) (w : World) (hu : RdE nodEn w (Under B) AU nU up) (h : RdE layEn w (Under B) AL nL ls) (hB : B ≤ w.heap.size) (hF : FewL ls) (hup : FewU up) : Calls Tryz.prog 25 #[.agg (stkC g (.slice AU nU cU) (.slice AL nL cL)).toArray] w (TreeP w n ws T) :=
 (VTree_any hw w hu h hB hF hup).mono (fun e w' he => TreeF.p (by rw [← hT]; exact he) hn (by rw [← hT, tree_len]; exact hn))
theorem RVTree_p {g : GeoQ} {AU AL : Option Addr} {nU cU nL cL B : Nat} {up : List NodV} {ls : List (List NodV)} {ws : List WayV} {T : List ViewV} {n : Nat} (hw : (walkW up [1]).1 = ws) (hT : treeV up ls ws = T) (hn : ws.length = n) (w : World) (hu : RdE nodEn w (Under B) AU nU up) (h : RdE layEn w (Under B) AL nL ls) (hB : B ≤ w.heap.size) (hF : FewL ls) (hup : FewU up) : Calls Tryz.prog 26 #[.agg (stkC g (.slice AU nU cU) (.slice AL nL cL)).toArray] w (TreeP w n ws T) :=
 (RVTree_any hw w hu h hB hF hup).mono (fun e w' he => TreeF.p (by rw [← hT]; exact he) hn (by rw [← hT, tree_len]; exact hn))
set_option maxRecDepth 100000 in
set_option maxHeartbeats 16000000 in
theorem law_ViewTrees {g : GeoQ} {AU AL : Option Addr} {nU cU nL cL : Nat} {up : List NodV} {ls : List (List NodV)} (w : World) (hu : RdE nodEn w (Under w.heap.size) AU nU up) (h : RdE layEn w (Under w.heap.size) AL nL ls) (hfu : FineN up) (hfl : ∀ ns ∈ ls, FineN ns) :
  Calls Tryz.prog 4 #[.agg (stkC g (.slice AU nU cU) (.slice AL nL cL)).toArray] w (LawOk w) := by
 obtain ⟨W1, hW1⟩ : ∃ W1, (w.alloc (.cells (stkC g (.slice AU nU cU) (.slice AL nL cL)).toArray 29)) = W1 := ⟨_, rfl⟩
 obtain ⟨r0, hb1, hs1⟩ := rowA1 w _ _ hW1
 have hW1' : (w.alloc (.cells #[.int .i64 g.a, .int .i64 g.b, .int .i64 g.c, .int .i64 g.d, .slice AU nU cU, .slice AL nL cL] 29)) = W1 := hW1
 have R1 := hide r0
 have HB := hide hb1
 have hsz0 := hb1.size
 have HU := hide (hu.under hb1 (Nat.le_refl _))
 have HL := hide (h.under hb1 (Nat.le_refl _))
 have HFN := hide hfu
 have HFL := hide hfl
 have q1_4 : W1.cell? ⟨w.heap.size, 4, none⟩ = some (.slice AU nU cU) := R1.out.cell 4
 unfold stkC
 clear r0 hb1 hW1 hu h hfu hfl
 go_enter Tryz.func4, Tryz.ntmps4
 go_wp2_with (first | (refine wpList_loadW rfl 29 (.tmp 1) rfl 6 stk_agg stk_size (w.heap.size) 29 rfl (stkC g (.slice AU nU cU) (.slice AL nL cL)) R1.out rfl ?_))
 clear hW1'
 refine (PStack_any W1 (und_up HU.out (by omega)) (und_up HL.out (by omega)) HFN.out HFL.out).mono ?_
 rintro e w2 ⟨p, rfl, hb2, hq⟩
 have HQ := hide hq
 clear q1_4
 replace HB := hide (HB.out.trans (hb2.mono HB.out.size))
 replace R1 := hide (R1.out.on hb2)
 replace HU := hide (HU.out.under hb2 (by omega))
 replace HL := hide (HL.out.under hb2 (by omega))
 have hsz1 := hb2.size
 have q1_4 : w2.cell? ⟨w.heap.size, 4, none⟩ = some (.slice AU nU cU) := R1.out.cell 4
 clear hq hb2
 cases p
 ·go_wp2_with (go_at_call 13; refine (awake17_any _).mono ?_; rintro e98 wz ⟨rfl, hbz⟩; replace HB := hide (HB.out.trans (hbz.mono HB.out.size)); clear hbz)
  go_ret
  exact LawOk.of HB.out
 obtain ⟨hF, hfew⟩ := HQ.out (by first | rfl | trivial)
 have HF := hide hF
 have HFU := hide (show FewU up from ⟨by have := hfew.1; omega, hfew.2⟩)
 obtain ⟨ws, hws⟩ : ∃ ws, (walkW up [1]).1 = ws := ⟨_, rfl⟩
 have HW := hide hws
 have hwl : ws.length ≤ 24 := by have h1 := (walk_ok up [1]).le; rw [hws] at h1; have := hfew.1; omega
 obtain ⟨T, hT⟩ : ∃ T, treeV up ls ws = T := ⟨_, rfl⟩
 have HVF := hide (show ∀ v ∈ T, v.2.length ≤ 100000 from fun v hv => by rw [← hT] at hv; have h1 := tree_few up ls ws v hv; have := hF.1; omega)
 have HT := hide hT
 obtain ⟨nV, hnw⟩ : ∃ nV, ws.length = nV := ⟨_, rfl⟩
 clear hF hfew HQ HFN HFL hws hT
 go_wp2_with (first | (refine wpList_loadW rfl 29 (.tmp 1) rfl 6 stk_agg stk_size (w.heap.size) 29 rfl (stkC g (.slice AU nU cU) (.slice AL nL cL)) R1.out rfl ?_) | (go_at_call 25; refine (VTree_p HW.out HT.out hnw w2 HU.out HL.out (by omega) HF.out HFU.out).mono ?_; rintro e2 wV ⟨A3, c3, A4, c4, rfl, h3, h4, hbel⟩; replace h3 := fr_under h3; clear q1_4; replace HB := hide (HB.out.trans (hbel.mono HB.out.size)); replace R1 := hide (R1.out.on hbel); replace HU := hide (HU.out.under hbel (by omega)); replace HL := hide (HL.out.under hbel (by omega)); have hsz3 := hbel.size; have q1_4 : wV.cell? ⟨w.heap.size, 4, none⟩ = some (.slice AU nU cU) := R1.out.cell 4; have H3 := hide h3; clear h3; have H4 := hide h4; clear h4; clear hbel) | (refine wpList_loadW rfl 29 (.tmp 1) rfl 6 stk_agg stk_size (w.heap.size) 29 rfl (stkC g (.slice AU nU cU) (.slice AL nL cL)) R1.out rfl ?_) | (go_at_call 26; refine (RVTree_p HW.out HT.out hnw wV HU.out HL.out (by omega) HF.out HFU.out).mono ?_; rintro e4 wT ⟨A5, c5, A6, c6, rfl, h5, h6, hbel⟩; replace h5 := fr_under h5; clear q1_4; replace HB := hide (HB.out.trans (hbel.mono HB.out.size)); replace R1 := hide (R1.out.on hbel); replace HU := hide (HU.out.under hbel (by omega)); replace HL := hide (HL.out.under hbel (by omega)); replace H3 := hide (H3.out.under hbel (by omega)); replace H4 := hide (H4.out.under hbel (by omega)); have hsz5 := hbel.size; have q1_4 : wT.cell? ⟨w.heap.size, 4, none⟩ = some (.slice AU nU cU) := R1.out.cell 4; have H5 := hide h5; clear h5; have H6 := hide h6; clear h6; clear hbel) | (go_at_call 27; refine (EqWay_same wT H3.out H5.out (by omega)).mono ?_; rintro e71 wE ⟨rfl, hbel⟩; clear q1_4; replace HB := hide (HB.out.trans (hbel.mono HB.out.size)); replace R1 := hide (R1.out.on hbel); replace HU := hide (HU.out.under hbel (by omega)); replace HL := hide (HL.out.under hbel (by omega)); replace H3 := hide (H3.out.under hbel (by omega)); replace H4 := hide (H4.out.under hbel (by omega)); replace H5 := hide (H5.out.under hbel (by omega)); replace H6 := hide (H6.out.under hbel (by omega)); have hsz6 := hbel.size; have q1_4 : wE.cell? ⟨w.heap.size, 4, none⟩ = some (.slice AU nU cU) := R1.out.cell 4; clear hbel) | (go_at_call 28; refine (EqVF_same wE (und_up H4.out (by omega)) (und_up H6.out (by omega)) (by omega) HVF.out).mono ?_; rintro e72 wF ⟨rfl, hbel⟩; clear q1_4; replace HB := hide (HB.out.trans (hbel.mono HB.out.size)); replace R1 := hide (R1.out.on hbel); replace HU := hide (HU.out.under hbel (by omega)); replace HL := hide (HL.out.under hbel (by omega)); replace H3 := hide (H3.out.under hbel (by omega)); replace H4 := hide (H4.out.under hbel (by omega)); replace H5 := hide (H5.out.under hbel (by omega)); replace H6 := hide (H6.out.under hbel (by omega)); have hsz7 := hbel.size; have q1_4 : wF.cell? ⟨w.heap.size, 4, none⟩ = some (.slice AU nU cU) := R1.out.cell 4; clear hbel) | (go_at_call 29; refine (Dirs_any _ (und_up (HU.out.under (below_new (below_self wF) (.cells #[.int .i64 1] 3)) (by omega)) (by simp; omega)) (int_one wF) (plain_many HFU.out.1 HFU.out.2).1 (by omega)).mono ?_; rintro e73 wD ⟨A7, n7, c7, rfl, -, h7, hbel0⟩; have hbel : Below wF.heap.size wF wD := (below_new (below_self wF) (.cells #[.int .i64 1] 3)).trans (hbel0.mono (by simp)); rw [HW.out] at h7; obtain rfl : nV = n7 := hnw.symm.trans h7.1; clear q1_4; replace HB := hide (HB.out.trans (hbel.mono HB.out.size)); replace R1 := hide (R1.out.on hbel); replace HU := hide (HU.out.under hbel (by omega)); replace HL := hide (HL.out.under hbel (by omega)); replace H3 := hide (H3.out.under hbel (by omega)); replace H4 := hide (H4.out.under hbel (by omega)); replace H5 := hide (H5.out.under hbel (by omega)); replace H6 := hide (H6.out.under hbel (by omega)); have hsz8 := hbel.size; have q1_4 : wD.cell? ⟨w.heap.size, 4, none⟩ = some (.slice AU nU cU) := R1.out.cell 4; have H7 := hide h7; clear h7 hbel hbel0) | (go_at_call 27; refine (EqWay_same wD H3.out H7.out (by omega)).mono ?_; rintro e74 wG ⟨rfl, hbel⟩; clear q1_4; replace HB := hide (HB.out.trans (hbel.mono HB.out.size)); replace R1 := hide (R1.out.on hbel); replace HU := hide (HU.out.under hbel (by omega)); replace HL := hide (HL.out.under hbel (by omega)); replace H3 := hide (H3.out.under hbel (by omega)); replace H4 := hide (H4.out.under hbel (by omega)); replace H5 := hide (H5.out.under hbel (by omega)); replace H6 := hide (H6.out.under hbel (by omega)); have hsz9 := hbel.size; have q1_4 : wG.cell? ⟨w.heap.size, 4, none⟩ = some (.slice AU nU cU) := R1.out.cell 4; clear hbel))
 go_loopw [45] (fun v45 wr => ∃ j : Nat, j ≤ nV ∧ v45 = .int .i64 j ∧ Below wG.heap.size wG wr) (fun v45 _ => nV - (intOf v45).toNat)
 case atStart => exact ⟨0, by omega, rfl, below_self _⟩
 case round =>
  obtain ⟨j, hj, rfl, hbr⟩ := hrel
  have HBL := hide hbr
  replace HB := hide (HB.out.trans (hbr.mono HB.out.size))
  replace R1 := hide (R1.out.on hbr)
  replace HU := hide (HU.out.under hbr (by omega))
  replace HL := hide (HL.out.under hbr (by omega))
  replace H3 := hide (H3.out.under hbr (by omega))
  replace H4 := hide (H4.out.under hbr (by omega))
  replace H5 := hide (H5.out.under hbr (by omega))
  replace H6 := hide (H6.out.under hbr (by omega))
  have hsz61 := hbr.size
  clear hbr
  by_cases hlt : j < nV
  ·have hjn : (j : Int) < (nV : Int) := by omega
   obtain ⟨y, hy⟩ : ∃ y, ws[j]? = some y := ⟨_, List.getElem?_eq_getElem (by omega)⟩
   obtain ⟨hv1, hv2⟩ := tree_ino (ls := ls) HW.out hy
   have hv := tree_get up ls hy
   rw [HT.out] at hv
   obtain ⟨⟨u, vl⟩, hV⟩ : ∃ V, wayView up ls (treeV up ls (ws.take j)) y = V := ⟨_, rfl⟩
   rw [hV] at hv hv1 hv2
   dsimp only at hv1 hv2
   obtain rfl : y.ino = u := hv1.symm
   obtain ⟨bW, oW, rfl, hbW, hcW⟩ := way_get H3.out hy
   obtain ⟨bV, oV, AV, cv, rfl, hbV, hcV, -⟩ := view_get H4.out hv
   have hdir : isDir up y.ino = true := by have h1 := (walk_ok up [1]).1; rw [HW.out] at h1; exact h1 y (List.mem_of_getElem? hy)
   have hin := isDir_in hdir
   obtain ⟨m, hm⟩ := Int.eq_ofNat_of_zero_le (show 0 ≤ y.ino - 1 by omega)
   obtain ⟨x, hx⟩ : ∃ x, nodAt up y.ino = x := ⟨_, rfl⟩
   have hxm : up[m]? = some x := by
    rw [← hx]
    unfold nodAt
    rw [if_pos hin, hm, Int.toNat_natCast]
    obtain ⟨z, hz⟩ : ∃ z, up[m]? = some z := ⟨_, List.getElem?_eq_getElem (by omega)⟩
    rw [hz]
    rfl
   obtain ⟨bN, oN, csN, rfl, hbN, hRN, hcN⟩ := HU.out.get_nod hxm
   obtain ⟨AD, nD, cD, AE, nE, cE, rfl, -, -, -, -⟩ := hRN
   have hat : 0 ≤ x.att.h ∧ x.att.h ≤ 31 := by rw [← hx]; exact (nodAt_plain HFU.out.2 _).2.2.1
   obtain ⟨b, hb⟩ : ∃ b, opqD x = b := ⟨_, rfl⟩
   have HOP := hide hb
   obtain ⟨nv, hnv⟩ : ∃ nv, vl.length = nv := ⟨_, rfl⟩
   have hv0 : b = true → nv = 0 := fun e => by rw [← hnv, hv2 (by rw [hx, hb, e])]; rfl
   rw [hnv] at hcV
   have HCV := hide hcV
   have HCW := hide (show ∀ (k : Nat) (z : Value), (wayC y)[k]? = some z → wr.cell? ⟨bW, oW + j * 3 + k, none⟩ = some z from hcW)
   have HCN := hide hcN
   have hun := HU.out.1
   have hws3 : (j : Int) < (ws.length : Int) := by omega
   have hmn : (m : Int) < (nU : Int) := by have := hin.2; omega
   have hm0 : (0 : Int) ≤ (m : Int) := by omega
   have hnU : nU ≤ 24 := by have := HFU.out.1; omega
   have hwr : IntKind.i64.wrap (y.ino - 1) = (m : Int) := by rw [hm]; exact IntWalk.i64_in _ (by omega)
   have hbW2 : bW < wr.heap.size := by have h1 : bW < wV.heap.size := hbW; omega
   have hbV2 : bV < wr.heap.size := by have h1 : bV < wV.heap.size := hbV; omega
   have hbN2 : bN < wr.heap.size := by have h1 : bN < w.heap.size := hbN; omega
   clear hm hws3 hv hv2 hV hcV hcW hcN hbW hbV hbN hxm hdir hx hb hnv hin hy
   go_wp2_with (first | (refine wpList_loadX rfl 32 (.tmp 48) rfl 2 viw_agg viw_size bV (oV + j * 2) rfl (viwC y.ino (.slice AV nv cv)) HCV.out rfl ?_) | (refine wpList_storeW rfl 32 (.tmp 8) (.tmp 49) rfl 2 viw_size (wr.heap.size) 32 rfl (viwC 0 (.slice none 0 0)) (viwC y.ino (.slice AV nv cv)) rfl (RowL.new wr 32 (viwC 0 (.slice none 0 0))) rfl rfl (viwC_one _ _ _ _) ?_; intro wS62 hr62 hg62 hs62; have hzb := below_stored' hg62; replace HB := hide (HB.out.trans (hzb.mono HB.out.size)); replace R1 := hide (R1.out.on hzb); replace HU := hide (HU.out.under hzb (by omega)); replace HL := hide (HL.out.under hzb (by omega)); replace H3 := hide (H3.out.under hzb (by omega)); replace H4 := hide (H4.out.under hzb (by omega)); replace H5 := hide (H5.out.under hzb (by omega)); replace H6 := hide (H6.out.under hzb (by omega)); replace HBL := hide (HBL.out.trans (hzb.mono (by omega))); replace HCV := hide (hcell HCV.out hzb (by omega)); replace HCW := hide (wcell HCW.out hzb (by omega)); replace HCN := hide (hcell HCN.out hzb (by omega)); have hsz63 := hzb.size; have R8 := hide hr62; have hlt62 := hr62.lt; have q8_0 : wS62.cell? ⟨wr.heap.size, 0, none⟩ = some (.int .i64 y.ino) := R8.out.cell 0; have q8_1 : wS62.cell? ⟨wr.heap.size, 1, none⟩ = some (.slice AV nv cv) := R8.out.cell 1; clear hzb hr62; clear hg62 hs62))
   refine wp_region_planN (fun w' => Below wS62.heap.size wS62 w') [(0, true), (1, true), (2, true), (3, true), (4, true), (5, true), (6, true), (7, true), (8, true), (9, true), (10, true), (11, false), (12, false)] (by kernel_rfl) (by kernel_rfl) (by kernel_rfl) (by kernel_rfl) rfl (fun _ _ _ _ _ h => h) (below_drew (below_self wS62)) (fun hHeld => ?_)
   simp only [planOps, List.filterMap_cons, List.filterMap_nil, List.getElem?_toArray, List.getElem?_cons_succ, List.getElem?_cons_zero, Option.map_some]
   refine wpPlan_take (v := ?_) (by kernel_rfl) (fun wS hSw => ?_) ?_
   rotate_left
   ·(try dsimp only at hSw); go_simp; (try with_reducible rfl)
   (try simp only [Act.put, pu1, pu2, pu3])
   refine wpPlan_take (v := ?_) (by kernel_rfl) (fun wS hSw => ?_) ?_
   rotate_left
   ·(try dsimp only at hSw); go_simp; (try with_reducible rfl)
   (try simp only [Act.put, pu1, pu2, pu3])
   refine wpPlan_take (v := ?_) (by kernel_rfl) (fun wS hSw => ?_) ?_
   rotate_left
   ·have qx := ((R1.out.on hSw).cell 4).trans (show (stkC g (.slice (some ⟨bN, oN, none⟩) nU cU) (.slice AL nL cL))[4]? = some (.slice (some ⟨bN, oN, none⟩) nU cU) from rfl); go_simp; (try with_reducible rfl)
   (try simp only [Act.put, pu1, pu2, pu3])
   refine wpPlan_take (v := ?_) (by kernel_rfl) (fun wS hSw => ?_) ?_
   rotate_left
   ·(try dsimp only at hSw); go_simp; (try with_reducible rfl)
   (try simp only [Act.put, pu1, pu2, pu3])
   refine wpPlan_take (v := ?_) (by kernel_rfl) (fun wS hSw => ?_) ?_
   rotate_left
   ·(try dsimp only at hSw); go_simp; (try with_reducible rfl)
   (try simp only [Act.put, pu1, pu2, pu3])
   refine wpPlan_take (v := ?_) (by kernel_rfl) (fun wS hSw => ?_) ?_
   rotate_left
   ·(try dsimp only at hSw); go_simp; (try with_reducible rfl)
   (try simp only [Act.put, pu1, pu2, pu3])
   refine wpPlan_take (v := ?_) (by kernel_rfl) (fun wS hSw => ?_) ?_
   rotate_left
   ·(try dsimp only at hSw); go_simp; (try with_reducible rfl)
   (try simp only [Act.put, pu1, pu2, pu3])
   refine wpPlan_take (v := ?_) (by kernel_rfl) (fun wS hSw => ?_) ?_
   rotate_left
   ·have qx : wS.cell? ⟨bW, oW + j * 3, none⟩ = some (.int .i64 y.ino) := (hSw.cell (p := ⟨bW, oW + j * 3, none⟩) (by show bW < _; omega)).trans (HCW.out 0 _ rfl); go_simp; (try with_reducible rfl)
   (try simp only [Act.put, pu1, pu2, pu3])
   refine wpPlan_take (v := ?_) (by kernel_rfl) (fun wS hSw => ?_) ?_
   rotate_left
   ·(try dsimp only at hSw); go_simp; (try with_reducible rfl)
   (try simp only [Act.put, pu1, pu2, pu3])
   refine wpPlan_take (v := ?_) (by kernel_rfl) (fun wS hSw => ?_) ?_
   rotate_left
   ·(try dsimp only at hSw); go_simp; (try with_reducible rfl)
   (try simp only [Act.put, pu1, pu2, pu3])
   refine wpPlan_take (v := ?_) (by kernel_rfl) (fun wS hSw => ?_) ?_
   rotate_left
   ·refine execOp_load (x := .tmp 59) (k := 13) (g := bN) (off := oN + m * 13) (cs := (nodC x (.slice AD nD cD) (.slice AE nE cE))) ?_ nod_agg nod_size ?_ (fun j v hv => (hSw.cell (p := ⟨bN, oN + m * 13 + j, none⟩) (by show bN < _; omega)).trans (HCN.out j v hv)) rfl <;> rfl
   (try simp only [Act.put, pu1, pu2, pu3])
   refine wpPlan_call (by kernel_rfl) (fun K hK => ?_)
   have hOld := hide hHeld
   clear hHeld
   unfold Oper.wp execOp
   go_simp
   have hal := below_new (below_self wS62.drew) (.cells #[.int .i64 0, .int .i64 0, .int .i64 0, .int .i64 0, .slice none 0 0, .slice none 0 0, .int .i64 0, .int .i64 0, .string ⟨#[]⟩, .int .i64 0, .int .i64 0, .int .i64 0, .int .i64 0] 63)
   refine hK.out _ _ (hOld.out.trans hal) (fun hHeld => ?_)
   clear hK K
   have hR := RowL.new wS62.drew 63 (nodC nod0 (.slice none 0 0) (.slice none 0 0))
   clear hal hOld
   (try simp only [Act.put, pu1, pu2, pu3])
   refine wpPlan_call (by kernel_rfl) (fun K hK => ?_)
   have hOld := hide hHeld
   clear hHeld
   refine wp_storeC 63 (.tmp 9) (.tmp 60) rfl 13 nod_size wS62.heap.size 0 63 rfl (nodC nod0 (.slice none 0 0) (.slice none 0 0)) (nodC x (.slice AD nD cD) (.slice AE nE cE)) rfl hR rfl (by exact Nat.le_refl _) (nodC_one _ _ _ _ _ _ _) ?_
   intro w' hr' hg' hs'
   rw [splice_all (nodC nod0 (.slice none 0 0) (.slice none 0 0)) (nodC x (.slice AD nD cD) (.slice AE nE cE)) rfl] at hr'
   refine hK.out _ _ (hOld.out.grown hg' (by simp) (fun k hk => by have := Option.some.inj hk; omega)) (fun hHeld => ?_)
   clear hK K
   have R9 := hide hr'
   clear hr' hg' hs' hR hOld
   (try simp only [Act.put])
   refine wpPlan_end ?_
   have hh := hHeld
   clear hHeld
   rename World => wn
   replace HB := hide (HB.out.trans (hh.mono HB.out.size))
   replace R1 := hide (R1.out.on hh)
   replace HU := hide (HU.out.under hh (by omega))
   replace HL := hide (HL.out.under hh (by omega))
   replace H3 := hide (H3.out.under hh (by omega))
   replace H4 := hide (H4.out.under hh (by omega))
   replace H5 := hide (H5.out.under hh (by omega))
   replace H6 := hide (H6.out.under hh (by omega))
   replace HBL := hide (HBL.out.trans (hh.mono (by omega)))
   replace HCV := hide (hcell HCV.out hh (by omega))
   replace HCW := hide (wcell HCW.out hh (by omega))
   replace R8 := hide (R8.out.on hh)
   have hsz64 := hh.size
   replace R9 := hide R9.out
   clear hh
   go_wp2_with fail
   cases b
   ·skip
    refine wp_region_planN (fun w' => Below wn.heap.size wn w') [(0, true), (1, true), (2, true), (3, true), (4, true), (5, true), (6, true), (7, true), (8, true), (9, true), (11, true), (10, false), (12, false), (13, true), (14, true), (15, true), (16, true), (17, false), (18, true), (19, true), (20, true), (21, true), (22, true), (23, true), (24, true)] (by kernel_rfl) (by kernel_rfl) (by kernel_rfl) (by kernel_rfl) rfl (fun _ _ _ _ _ h => h) (below_drew (below_self wn)) (fun hHeld => ?_)
    simp only [planOps, List.filterMap_cons, List.filterMap_nil, List.getElem?_toArray, List.getElem?_cons_succ, List.getElem?_cons_zero, Option.map_some]
    refine wpPlan_take (v := ?_) (by kernel_rfl) (fun wS hSw => ?_) ?_
    rotate_left
    ·(try dsimp only at hSw); go_simp; (try with_reducible rfl)
    (try simp only [Act.put, pu1, pu2, pu3])
    refine wpPlan_take (v := ?_) (by kernel_rfl) (fun wS hSw => ?_) ?_
    rotate_left
    ·have qx := ((R8.out.on hSw).cell 0).trans (show (viwC y.ino (.slice AV nv cv))[0]? = some (.int .i64 y.ino) from rfl); go_simp; (try with_reducible rfl)
    (try simp only [Act.put, pu1, pu2, pu3])
    refine wpPlan_take (v := ?_) (by kernel_rfl) (fun wS hSw => ?_) ?_
    rotate_left
    ·(try dsimp only at hSw); go_simp; (try with_reducible rfl)
    (try simp only [Act.put, pu1, pu2, pu3])
    refine wpPlan_take (v := ?_) (by kernel_rfl) (fun wS hSw => ?_) ?_
    rotate_left
    ·(try dsimp only at hSw); go_simp; (try with_reducible rfl)
    (try simp only [Act.put, pu1, pu2, pu3])
    refine wpPlan_take (v := ?_) (by kernel_rfl) (fun wS hSw => ?_) ?_
    rotate_left
    ·(try dsimp only at hSw); go_simp; (try with_reducible rfl)
    (try simp only [Act.put, pu1, pu2, pu3])
    refine wpPlan_take (v := ?_) (by kernel_rfl) (fun wS hSw => ?_) ?_
    rotate_left
    ·(try dsimp only at hSw); go_simp; (try with_reducible rfl)
    (try simp only [Act.put, pu1, pu2, pu3])
    refine wpPlan_take (v := ?_) (by kernel_rfl) (fun wS hSw => ?_) ?_
    rotate_left
    ·have qx : wS.cell? ⟨bW, oW + j * 3, none⟩ = some (.int .i64 y.ino) := (hSw.cell (p := ⟨bW, oW + j * 3, none⟩) (by show bW < _; omega)).trans (HCW.out 0 _ rfl); go_simp; (try with_reducible rfl)
    (try simp only [Act.put, pu1, pu2, pu3])
    refine wpPlan_take (v := ?_) (by kernel_rfl) (fun wS hSw => ?_) ?_
    rotate_left
    ·(try dsimp only at hSw); have qx : (y.ino != y.ino) = false := (by simp); go_simp; (try with_reducible rfl)
    (try simp only [Act.put, pu1, pu2, pu3])
    refine wpPlan_take (v := ?_) (by kernel_rfl) (fun wS hSw => ?_) ?_
    rotate_left
    ·(try dsimp only at hSw); go_simp; (try with_reducible rfl)
    (try simp only [Act.put, pu1, pu2, pu3])
    refine wpPlan_take (v := ?_) (by kernel_rfl) (fun wS hSw => ?_) ?_
    rotate_left
    ·refine execOp_load (x := .tmp 9) (k := 13) (g := wS62.heap.size) (off := 0) (cs := (nodC x (.slice AD nD cD) (.slice AE nE cE))) ?_ nod_agg nod_size ?_ (fun j v hv => by rw [Nat.zero_add]; exact ((R9.out.on hSw).cell j).trans hv) rfl <;> rfl
    (try simp only [Act.put, pu1, pu2, pu3])
    refine wpPlan_take (v := ?_) (by kernel_rfl) (fun wS hSw => ?_) ?_
    rotate_left
    ·refine execOp_load (x := .tmp 9) (k := 13) (g := wS62.heap.size) (off := 0) (cs := (nodC x (.slice AD nD cD) (.slice AE nE cE))) ?_ nod_agg nod_size ?_ (fun j v hv => by rw [Nat.zero_add]; exact ((R9.out.on hSw).cell j).trans hv) rfl <;> rfl
    (try simp only [Act.put, pu1, pu2, pu3])
    refine wpPlan_call (by kernel_rfl) (fun K hK => ?_)
    have hOld := hide hHeld
    clear hHeld
    go_simp
    go_at_call 30
    refine (VOpq_b HOP.out hat.1 hat.2 _).mono ?_
    rintro e w' ⟨rfl, hbel⟩
    refine hK.out _ _ (hOld.out.trans (hbel.mono hOld.out.size)) (fun hHeld => ?_)
    clear hK K
    (try dsimp only)
    refine wpPlan_call (by kernel_rfl) (fun K hK => ?_)
    have hOld := hide hHeld
    clear hHeld
    go_simp
    go_at_call 31
    refine (RVOpq_b HOP.out hat.1 hat.2 _).mono ?_
    rintro e w' ⟨rfl, hbel⟩
    refine hK.out _ _ (hOld.out.trans (hbel.mono hOld.out.size)) (fun hHeld => ?_)
    clear hK K
    (try dsimp only)
    refine wpPlan_take (v := ?_) (by kernel_rfl) (fun wS hSw => ?_) ?_
    rotate_left
    ·(try dsimp only at hSw); go_simp; (try with_reducible rfl)
    (try simp only [Act.put, pu1, pu2, pu3])
    refine wpPlan_take (v := ?_) (by kernel_rfl) (fun wS hSw => ?_) ?_
    rotate_left
    ·(try dsimp only at hSw); go_simp; (try with_reducible rfl)
    (try simp only [Act.put, pu1, pu2, pu3])
    refine wpPlan_take (v := ?_) (by kernel_rfl) (fun wS hSw => ?_) ?_
    rotate_left
    ·(try dsimp only at hSw); go_simp; (try with_reducible rfl)
    (try simp only [Act.put, pu1, pu2, pu3])
    refine wpPlan_take (v := ?_) (by kernel_rfl) (fun wS hSw => ?_) ?_
    rotate_left
    ·refine execOp_load (x := .tmp 9) (k := 13) (g := wS62.heap.size) (off := 0) (cs := (nodC x (.slice AD nD cD) (.slice AE nE cE))) ?_ nod_agg nod_size ?_ (fun j v hv => by rw [Nat.zero_add]; exact ((R9.out.on hSw).cell j).trans hv) rfl <;> rfl
    (try simp only [Act.put, pu1, pu2, pu3])
    refine wpPlan_call (by kernel_rfl) (fun K hK => ?_)
    have hOld := hide hHeld
    clear hHeld
    go_simp
    go_at_call 30
    refine (VOpq_b HOP.out hat.1 hat.2 _).mono ?_
    rintro e w' ⟨rfl, hbel⟩
    refine hK.out _ _ (hOld.out.trans (hbel.mono hOld.out.size)) (fun hHeld => ?_)
    clear hK K
    (try dsimp only)
    refine wpPlan_take (v := ?_) (by kernel_rfl) (fun wS hSw => ?_) ?_
    rotate_left
    ·(try dsimp only at hSw); go_simp; (try with_reducible rfl)
    (try simp only [Act.put, pu1, pu2, pu3])
    refine wpPlan_skip (by kernel_rfl) ?_
    (try simp only [Act.put, pu1, pu2, pu3])
    refine wpPlan_skip (by kernel_rfl) ?_
    (try simp only [Act.put, pu1, pu2, pu3])
    refine wpPlan_skip (by kernel_rfl) ?_
    (try simp only [Act.put, pu1, pu2, pu3])
    refine wpPlan_skip (by kernel_rfl) ?_
    (try simp only [Act.put, pu1, pu2, pu3])
    refine wpPlan_take (v := ?_) (by kernel_rfl) (fun wS hSw => ?_) ?_
    rotate_left
    ·(try dsimp only at hSw); go_simp; (try with_reducible rfl)
    (try simp only [Act.put, pu1, pu2, pu3])
    refine wpPlan_take (v := ?_) (by kernel_rfl) (fun wS hSw => ?_) ?_
    rotate_left
    ·(try dsimp only at hSw); go_simp; (try with_reducible rfl)
    (try simp only [Act.put, pu1, pu2, pu3])
    refine wpPlan_end ?_
    have HBX := hide hHeld
    clear hHeld
    go_wp2_with fail
    go_roundw
    case rel => exact ⟨j + 1, by omega, by go_num, HBL.out.trans (HBX.out.mono (by omega))⟩
    case measure => simp [intOf]; omega
   ·obtain rfl : nv = 0 := hv0 rfl
    refine wp_region_planN (fun w' => Below wn.heap.size wn w') [(0, true), (1, true), (2, true), (3, true), (4, true), (5, true), (6, true), (7, true), (8, true), (9, true), (11, true), (10, false), (12, false), (13, true), (14, true), (15, true), (16, true), (17, false), (18, true), (19, true), (20, true), (21, true), (22, true), (23, true), (24, true)] (by kernel_rfl) (by kernel_rfl) (by kernel_rfl) (by kernel_rfl) rfl (fun _ _ _ _ _ h => h) (below_drew (below_self wn)) (fun hHeld => ?_)
    simp only [planOps, List.filterMap_cons, List.filterMap_nil, List.getElem?_toArray, List.getElem?_cons_succ, List.getElem?_cons_zero, Option.map_some]
    refine wpPlan_take (v := ?_) (by kernel_rfl) (fun wS hSw => ?_) ?_
    rotate_left
    ·(try dsimp only at hSw); go_simp; (try with_reducible rfl)
    (try simp only [Act.put, pu1, pu2, pu3])
    refine wpPlan_take (v := ?_) (by kernel_rfl) (fun wS hSw => ?_) ?_
    rotate_left
    ·have qx := ((R8.out.on hSw).cell 0).trans (show (viwC y.ino (.slice AV 0 cv))[0]? = some (.int .i64 y.ino) from rfl); go_simp; (try with_reducible rfl)
    (try simp only [Act.put, pu1, pu2, pu3])
    refine wpPlan_take (v := ?_) (by kernel_rfl) (fun wS hSw => ?_) ?_
    rotate_left
    ·(try dsimp only at hSw); go_simp; (try with_reducible rfl)
    (try simp only [Act.put, pu1, pu2, pu3])
    refine wpPlan_take (v := ?_) (by kernel_rfl) (fun wS hSw => ?_) ?_
    rotate_left
    ·(try dsimp only at hSw); go_simp; (try with_reducible rfl)
    (try simp only [Act.put, pu1, pu2, pu3])
    refine wpPlan_take (v := ?_) (by kernel_rfl) (fun wS hSw => ?_) ?_
    rotate_left
    ·(try dsimp only at hSw); go_simp; (try with_reducible rfl)
    (try simp only [Act.put, pu1, pu2, pu3])
    refine wpPlan_take (v := ?_) (by kernel_rfl) (fun wS hSw => ?_) ?_
    rotate_left
    ·(try dsimp only at hSw); go_simp; (try with_reducible rfl)
    (try simp only [Act.put, pu1, pu2, pu3])
    refine wpPlan_take (v := ?_) (by kernel_rfl) (fun wS hSw => ?_) ?_
    rotate_left
    ·have qx : wS.cell? ⟨bW, oW + j * 3, none⟩ = some (.int .i64 y.ino) := (hSw.cell (p := ⟨bW, oW + j * 3, none⟩) (by show bW < _; omega)).trans (HCW.out 0 _ rfl); go_simp; (try with_reducible rfl)
    (try simp only [Act.put, pu1, pu2, pu3])
    refine wpPlan_take (v := ?_) (by kernel_rfl) (fun wS hSw => ?_) ?_
    rotate_left
    ·(try dsimp only at hSw); have qx : (y.ino != y.ino) = false := (by simp); go_simp; (try with_reducible rfl)
    (try simp only [Act.put, pu1, pu2, pu3])
    refine wpPlan_take (v := ?_) (by kernel_rfl) (fun wS hSw => ?_) ?_
    rotate_left
    ·(try dsimp only at hSw); go_simp; (try with_reducible rfl)
    (try simp only [Act.put, pu1, pu2, pu3])
    refine wpPlan_take (v := ?_) (by kernel_rfl) (fun wS hSw => ?_) ?_
    rotate_left
    ·refine execOp_load (x := .tmp 9) (k := 13) (g := wS62.heap.size) (off := 0) (cs := (nodC x (.slice AD nD cD) (.slice AE nE cE))) ?_ nod_agg nod_size ?_ (fun j v hv => by rw [Nat.zero_add]; exact ((R9.out.on hSw).cell j).trans hv) rfl <;> rfl
    (try simp only [Act.put, pu1, pu2, pu3])
    refine wpPlan_take (v := ?_) (by kernel_rfl) (fun wS hSw => ?_) ?_
    rotate_left
    ·refine execOp_load (x := .tmp 9) (k := 13) (g := wS62.heap.size) (off := 0) (cs := (nodC x (.slice AD nD cD) (.slice AE nE cE))) ?_ nod_agg nod_size ?_ (fun j v hv => by rw [Nat.zero_add]; exact ((R9.out.on hSw).cell j).trans hv) rfl <;> rfl
    (try simp only [Act.put, pu1, pu2, pu3])
    refine wpPlan_call (by kernel_rfl) (fun K hK => ?_)
    have hOld := hide hHeld
    clear hHeld
    go_simp
    go_at_call 30
    refine (VOpq_b HOP.out hat.1 hat.2 _).mono ?_
    rintro e w' ⟨rfl, hbel⟩
    refine hK.out _ _ (hOld.out.trans (hbel.mono hOld.out.size)) (fun hHeld => ?_)
    clear hK K
    (try dsimp only)
    refine wpPlan_call (by kernel_rfl) (fun K hK => ?_)
    have hOld := hide hHeld
    clear hHeld
    go_simp
    go_at_call 31
    refine (RVOpq_b HOP.out hat.1 hat.2 _).mono ?_
    rintro e w' ⟨rfl, hbel⟩
    refine hK.out _ _ (hOld.out.trans (hbel.mono hOld.out.size)) (fun hHeld => ?_)
    clear hK K
    (try dsimp only)
    refine wpPlan_take (v := ?_) (by kernel_rfl) (fun wS hSw => ?_) ?_
    rotate_left
    ·(try dsimp only at hSw); go_simp; (try with_reducible rfl)
    (try simp only [Act.put, pu1, pu2, pu3])
    refine wpPlan_take (v := ?_) (by kernel_rfl) (fun wS hSw => ?_) ?_
    rotate_left
    ·(try dsimp only at hSw); go_simp; (try with_reducible rfl)
    (try simp only [Act.put, pu1, pu2, pu3])
    refine wpPlan_take (v := ?_) (by kernel_rfl) (fun wS hSw => ?_) ?_
    rotate_left
    ·(try dsimp only at hSw); go_simp; (try with_reducible rfl)
    (try simp only [Act.put, pu1, pu2, pu3])
    refine wpPlan_take (v := ?_) (by kernel_rfl) (fun wS hSw => ?_) ?_
    rotate_left
    ·refine execOp_load (x := .tmp 9) (k := 13) (g := wS62.heap.size) (off := 0) (cs := (nodC x (.slice AD nD cD) (.slice AE nE cE))) ?_ nod_agg nod_size ?_ (fun j v hv => by rw [Nat.zero_add]; exact ((R9.out.on hSw).cell j).trans hv) rfl <;> rfl
    (try simp only [Act.put, pu1, pu2, pu3])
    refine wpPlan_call (by kernel_rfl) (fun K hK => ?_)
    have hOld := hide hHeld
    clear hHeld
    go_simp
    go_at_call 30
    refine (VOpq_b HOP.out hat.1 hat.2 _).mono ?_
    rintro e w' ⟨rfl, hbel⟩
    refine hK.out _ _ (hOld.out.trans (hbel.mono hOld.out.size)) (fun hHeld => ?_)
    clear hK K
    (try dsimp only)
    refine wpPlan_take (v := ?_) (by kernel_rfl) (fun wS hSw => ?_) ?_
    rotate_left
    ·(try dsimp only at hSw); go_simp; (try with_reducible rfl)
    (try simp only [Act.put, pu1, pu2, pu3])
    refine wpPlan_take (v := ?_) (by kernel_rfl) (fun wS hSw => ?_) ?_
    rotate_left
    ·(try dsimp only at hSw); go_simp; (try with_reducible rfl)
    (try simp only [Act.put, pu1, pu2, pu3])
    refine wpPlan_take (v := ?_) (by kernel_rfl) (fun wS hSw => ?_) ?_
    rotate_left
    ·have qx := ((R8.out.on hSw).cell 1).trans (show (viwC y.ino (.slice AV 0 cv))[1]? = some (.slice AV 0 cv) from rfl); go_simp; (try with_reducible rfl)
    (try simp only [Act.put, pu1, pu2, pu3])
    refine wpPlan_take (v := ?_) (by kernel_rfl) (fun wS hSw => ?_) ?_
    rotate_left
    ·(try dsimp only at hSw); go_simp; (try with_reducible rfl)
    (try simp only [Act.put, pu1, pu2, pu3])
    refine wpPlan_take (v := ?_) (by kernel_rfl) (fun wS hSw => ?_) ?_
    rotate_left
    ·(try dsimp only at hSw); go_simp; (try with_reducible rfl)
    (try simp only [Act.put, pu1, pu2, pu3])
    refine wpPlan_take (v := ?_) (by kernel_rfl) (fun wS hSw => ?_) ?_
    rotate_left
    ·(try dsimp only at hSw); go_simp; (try with_reducible rfl)
    (try simp only [Act.put, pu1, pu2, pu3])
    refine wpPlan_take (v := ?_) (by kernel_rfl) (fun wS hSw => ?_) ?_
    rotate_left
    ·(try dsimp only at hSw); go_simp; (try with_reducible rfl)
    (try simp only [Act.put, pu1, pu2, pu3])
    refine wpPlan_end ?_
    have HBX := hide hHeld
    clear hHeld
    go_wp2_with fail
    go_roundw
    case rel => exact ⟨j + 1, by omega, by go_num, HBL.out.trans (HBX.out.mono (by omega))⟩
    case measure => simp [intOf]; omega
  ·obtain rfl : j = nV := by omega
   have hj2 : ¬ (j : Int) < (j : Int) := by omega
   go_wp2_with (go_at_call 13; refine (awake17_any _).mono ?_; rintro e98 wz ⟨rfl, hbz⟩; replace HB := hide (HB.out.trans (hbz.mono HB.out.size)); clear hbz)
   go_ret
   exact LawOk.of HB.out
end Go.Proofs.YtabhgoekpbmdlaaGreat

