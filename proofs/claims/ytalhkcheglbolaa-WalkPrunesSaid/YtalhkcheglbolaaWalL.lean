/- walk: Twice (layer 13). -/
import Derived.Test.YtalhkcheglbolaaWalK
namespace Go.Proofs.Ytalhkcheglbolaa
open Go.RowKit Go.Shelf Plain

/-- Two numbers in two cells. -/
def prC (q : Int × Int) : List Value := [.int .i64 q.1, .int .i64 q.2]
def prEn : Enc (Int × Int) where
  k := 2
  R := fun _ _ cs x => cs = prC x
  len := fun h => by rw [h]; rfl
  one := fun h v hv => by
    rw [h] at hv
    simp only [prC, List.mem_cons, List.not_mem_nil, or_false] at hv
    rcases hv with rfl | rfl <;> rfl
  mono := fun h _ _ => h
def flatR (l : List (Int × Int)) : List Value := (l.map prC).flatten
theorem flatR_snoc (l : List (Int × Int)) (q : Int × Int) : flatR (l ++ [q]) = flatR l ++ prC q := by simp [flatR]
theorem flatR_len (l : List (Int × Int)) : (flatR l).length = l.length * 2 := by
  have := flat_len (k := 2) (css := l.map prC) (fun cs h => by obtain ⟨x, _, rfl⟩ := List.mem_map.1 h; rfl)
  simpa [flatR] using this
theorem own_pr {W : World} {base t n c : Nat} {A : Option Addr} {l : List (Int × Int)} (h : W.ownsRow base t 2 (.slice A n c) n (flatR l)) : OwE prEn W base t A n c l := by
  have hl := h.1
  rw [flatR_len] at hl
  refine ⟨l.map prC, h, ⟨by simp, fun i cs x h1 h2 => ?_⟩, by omega⟩
  rw [List.getElem?_map, h2] at h1
  cases h1
  exact rfl
/-- An entry by where it stands: its inode and slot. -/
def slotQ (ns : List NodV) (q : Int × Nat) : Int × Int := (q.1, (((nodAt ns q.1).ents[q.2]?).getD ent0).slot)
def twiceS (ns : List NodV) (s : StW) : List (Int × Int) := s.2.map (slotQ ns)
/-- It returns a list of pairs. -/
def PairsRet (w : World) (l : List (Int × Int)) (e : Ending) (w' : World) : Prop := ∃ A n c, e = .returned (.slice A n c) ∧ n ≤ c ∧ RdE prEn w' (Under w'.heap.size) A n l ∧ Below w.heap.size w w'
def zpr : Value := .agg #[.int .i64 0, .int .i64 0]
set_option maxRecDepth 100000 in
theorem pr_info : (Try.prog.info? 36).map (fun i => (i.zero, i.size, i.bytes)) = some (some zpr, 2, 16) := by kernel_rfl
theorem lit_pr (q : Int × Int) (W : World) : (Instr.buildSlice 35 1 #[(0, .agg (prC q).toArray)]).run Try.prog W = .ok (.slice (some ⟨W.heap.size, 0, none⟩) 1 1) (W.alloc (.cells (prC q).toArray 36)) := by
  obtain ⟨it, hi, hz, hsz, -⟩ := info_parts pr_info
  refine run_buildSlice W _ 36 1 _ _ it zpr Try.underlying35 hi hz (by omega) (by omega) ?_
  rw [hsz]
  have := Great.fill_whole (s := 2) (by omega) [.agg (prC q).toArray] ((Array.range (1 * 2)).map (zpr.cells[· % zpr.cells.size]!)) (by intro v hv; rw [List.mem_singleton] at hv; subst hv; simp [Value.cells, prC]) (by simp)
  simpa [Value.cells] using this
set_option maxRecDepth 100000 in
theorem nam_agg : ∀ w, (isAgg 78).run Try.prog w = .ok true w := fun w => by kernel_rfl
set_option maxRecDepth 100000 in
theorem nam_size : ∀ w, (Go.sizeOf 78).run Try.prog w = .ok 2 w := fun w => by kernel_rfl
theorem twC_one (q : Int × Nat) : ∀ v ∈ twC q, v.oneCell' = true := by simp [twC, Value.oneCell']
theorem flatT_get {l : List (Int × Nat)} {j : Nat} {q : Int × Nat} (h : l[j]? = some q) {i : Nat} (hi : i < 2) : (flatT l)[j * 2 + i]? = (twC q)[i]? := by
  have := flat_get (k := 2) (css := l.map twC) (fun cs hc => by obtain ⟨z, _, rfl⟩ := List.mem_map.1 hc; rfl) (i := j) (j := i) (cs := twC q) (by rw [List.getElem?_map, h]; rfl) hi
  rw [show flatT l = (l.map twC).flatten from by simp [flatT, List.flatMap]]
  exact this
set_option maxRecDepth 100000 in
set_option maxHeartbeats 4000000 in
theorem Twice_any {A F : Option Addr} {n c k d : Nat} {ns : List NodV} {ff : List Int} (w : World) (h : RdE nodEn w (Under w.heap.size) A n ns) (hf : RdE Enc.int w (Under w.heap.size) F k ff) (hM : Many ns) (hk : k ≤ 1000) :
    Calls Try.prog 13 #[.agg #[.slice A n c], .slice F k d] w (PairsRet w (twiceS ns (walkW ns ff))) := by
  have hb1 := below_new (below_self w) (.cells #[.slice A n c] 24)
  have H1 := hide (h.on hb1)
  have HF1 := hide (hf.on hb1)
  have HB1 := hide hb1
  have HM := hide hM
  have hm24 := hM.1
  have hct := walk_comes ns ff
  have htw := walk_tw hM ff
  have hok := (walk_ok ns ff).le
  have HCT := hide hct
  obtain ⟨S', hS'⟩ : ∃ S', walkW ns ff = S' := ⟨_, rfl⟩
  have HWD := hide (fun W hh hh2 => walked_any (A := A) (F := F) (n := n) (c := c) (k := k) (d := d) W (ns := ns) (ff := ff) hh hh2 hM hk)
  rw [hS'] at HWD HCT htw hok ⊢
  clear h hf hb1 hct hS' hM
  go_enter Try.func13, Try.ntmps13
  go_wp2_with (go_at_call 32; refine (HWD.out _ H1.out HF1.out).mono ?_; rintro e w2 ⟨g, b, rfl, hw2, hb2⟩; obtain ⟨hBg, hgl, hBb, hbl⟩ := hw2.lt; have HW2 := hide hw2; obtain ⟨A', n', c', A1, n1, c1', A2, n2, c2, -, -, h3, -, -, -, h7⟩ := hw2; have q3 : w2.cell? ⟨g, 3, none⟩ = some (.slice A2 n2 c2) := h3.cell 3; have H7 := hide h7; have HB2 := hide (below_step HB1.out hb2); clear h3 h7 hb2)
  have hn2 : n2 = S'.2.length := by have h8 := H7.out.1; rw [flatT_len] at h8; omega
  subst hn2
  rw [World.size_alloc] at *
  clear q3
  go_loopw [6, 17] (fun v6 iv wr => ∃ (j : Nat) (A5 : Option Addr) (c5 : Nat), j ≤ S'.2.length ∧ iv = .int .i64 j ∧ v6 = .slice A5 j c5 ∧ wr.ownsRow w2.heap.size 36 2 (.slice A5 j c5) j (flatR ((S'.2.take j).map (slotQ ns))) ∧ Below w2.heap.size w2 wr) (fun _ iv _ => S'.2.length - (intOf iv).toNat)
  case atStart => exact ⟨0, none, 0, by omega, rfl, rfl, by rw [List.take_zero]; exact World.ownsRow_nil _ _ _ _, below_self _⟩
  case round =>
    obtain ⟨j, A5, c5, hj, rfl, rfl, ho, hbr⟩ := hrel
    have HO := hide ho
    have HBR := hide hbr
    have hbsz := hbr.size
    clear ho hbr
    by_cases hlt : j < S'.2.length
    · obtain ⟨q, hq⟩ : ∃ q, S'.2[j]? = some q := ⟨_, List.getElem?_eq_getElem hlt⟩
      obtain ⟨e, he, -⟩ := HCT.out q (List.mem_of_getElem? hq)
      have HSQ := hide (show (S'.2.take (j + 1)).map (slotQ ns) = (S'.2.take j).map (slotQ ns) ++ [(q.1, e.slot)] from by rw [List.take_add_one, hq, List.map_append]; simp [slotQ, he])
      have hcellq : ∃ g2, A2 = some ⟨g2, 0, none⟩ ∧ ∀ i v, (twC q)[i]? = some v → wr.cell? ⟨g2, j * 2 + i, none⟩ = some v := by
        rcases H7.out.2 with ⟨_, h0⟩ | ⟨g2, cap, cur, he2, _, hg2, _⟩
        · omega
        · simp only [Value.slice.injEq] at he2
          obtain ⟨rfl, -, rfl⟩ := he2
          refine ⟨g2, rfl, fun i v hv => ?_⟩
          have hi : i < 2 := by have := (List.getElem?_eq_some_iff.1 hv).1; simpa [twC] using this
          refine (HBR.out.cell (p := ⟨g2, j * 2 + i, none⟩) (heap_lt hg2)).trans ?_
          refine (World.ownsRow.cellAt (g := g2) H7.out (j * 2 + i) (by omega)).trans ?_
          rw [flatT_get hq hi]
          exact hv
      obtain ⟨g2, rfl, hcq⟩ := hcellq
      have HCQ := hide hcq
      have HQ := hide hq
      have HE := hide he
      have HZ := hide (RowL.new wr 78 [.int .i64 0, .int .i64 0])
      have hcap : S'.2.length ≤ c2 := by
        rcases H7.out.2 with ⟨_, h0⟩ | ⟨g2, cap, cur, he2, _, hg2, hle, _⟩
        · omega
        · simp only [Value.slice.injEq] at he2
          omega
      clear hcq hq he
      go_wp2_with (first | (refine wpList_loadX rfl 78 (.tmp 19) rfl 2 nam_agg nam_size g2 (j * 2) rfl (twC q) HCQ.out rfl ?_) | (refine wpList_storeW rfl 78 (.tmp 8) (.tmp 20) rfl 2 nam_size wr.heap.size 78 rfl [.int .i64 0, .int .i64 0] (twC q) rfl HZ.out rfl rfl (twC_one q) ?_; intro w3 hr3 hg3 hs3; have HB3 := hide (below_stored' hg3); have HR3 := hide hr3; clear hr3 hg3 hs3))
      have hs3 := HB3.out.size
      have hbw3 := HBR.out.trans (HB3.out.mono hbsz)
      have ho3 := ownsRow_below HO.out HB3.out
      have HBW3 := hide hbw3
      have HO3 := hide ho3
      have hj384 : j ≤ 1000 := by omega
      have q0 : w3.cell? ⟨wr.heap.size, 0, none⟩ = some (.int .i64 q.1) := HR3.out.cell 0
      have q1 : w3.cell? ⟨wr.heap.size, 1, none⟩ = some (.int .i64 q.2) := HR3.out.cell 1
      clear hbw3 ho3
      refine wp_region_planN (fun w' => Below w2.heap.size w2 w' ∧ w'.cell? ⟨wr.heap.size, 0, none⟩ = some (.int .i64 q.1) ∧ w'.cell? ⟨wr.heap.size, 1, none⟩ = some (.int .i64 q.2)) [(0, true), (1, true), (2, true), (3, true), (4, true), (5, true), (8, true), (9, true), (6, false), (7, true), (10, true), (11, true), (12, true), (13, true), (14, false), (15, false), (16, true)] (by kernel_rfl) (by kernel_rfl) (by kernel_rfl) (by kernel_rfl) rfl (fun _ _ _ _ _ h => h) ⟨below_drewN HBW3.out 1, q0, q1⟩ (fun hHeld => ?_)
      simp only [planOps, List.filterMap_cons, List.filterMap_nil, List.getElem?_toArray, List.getElem?_cons_succ, List.getElem?_cons_zero, Option.map_some]
      refine wpPlan_take (v := ?_) (by kernel_rfl) (fun wS hSw => ?_) ?_
      rotate_left
      · (try dsimp only at hSw); go_simp; (try with_reducible rfl)
      (try simp only [Act.put, List.setIfInBounds_toArray, List.set_cons_zero, List.set_cons_succ])
      refine wpPlan_take (v := ?_) (by kernel_rfl) (fun wS hSw => ?_) ?_
      rotate_left
      · (try dsimp only at hSw); go_simp; (try with_reducible rfl)
      (try simp only [Act.put, List.setIfInBounds_toArray, List.set_cons_zero, List.set_cons_succ])
      refine wpPlan_take (v := ?_) (by kernel_rfl) (fun wS hSw => ?_) ?_
      rotate_left
      · (try dsimp only at hSw); go_simp; (try with_reducible rfl)
      (try simp only [Act.put, List.setIfInBounds_toArray, List.set_cons_zero, List.set_cons_succ])
      refine wpPlan_take (v := ?_) (by kernel_rfl) (fun wS hSw => ?_) ?_
      rotate_left
      · (try dsimp only at hSw); go_simp; (try with_reducible rfl)
      (try simp only [Act.put, List.setIfInBounds_toArray, List.set_cons_zero, List.set_cons_succ])
      refine wpPlan_take (v := ?_) (by kernel_rfl) (fun wS hSw => ?_) ?_
      rotate_left
      · (try dsimp only at hSw); go_simp; (try with_reducible rfl)
      (try simp only [Act.put, List.setIfInBounds_toArray, List.set_cons_zero, List.set_cons_succ])
      refine wpPlan_take (v := ?_) (by kernel_rfl) (fun wS hSw => ?_) ?_
      rotate_left
      · (try dsimp only at hSw); go_simp; (try with_reducible rfl)
      (try simp only [Act.put, List.setIfInBounds_toArray, List.set_cons_zero, List.set_cons_succ])
      refine wpPlan_take (v := ?_) (by kernel_rfl) (fun wS hSw => ?_) ?_
      rotate_left
      · (try dsimp only at hSw); go_simp; (try with_reducible rfl)
      (try simp only [Act.put, List.setIfInBounds_toArray, List.set_cons_zero, List.set_cons_succ])
      refine wpPlan_take (v := ?_) (by kernel_rfl) (fun wS hSw => ?_) ?_
      rotate_left
      · (try dsimp only at hSw); go_simp; (try with_reducible rfl)
      (try simp only [Act.put, List.setIfInBounds_toArray, List.set_cons_zero, List.set_cons_succ])
      refine wpPlan_call (by kernel_rfl) (fun K hK => ?_)
      have hOld := hide hHeld
      clear hHeld
      go_simp
      go_at_call 34
      refine (node_any (i := q.1) _ ((HW2.out.on HBW3.out).on (below_drew (below_self w3))).n (by show _ ≤ w3.heap.size; omega) (by show g < w3.heap.size; omega) (by omega)).mono ?_
      rintro e' w4 ⟨A8, n8, c8, C8, m8, d8, rfl, -, -, hmd8, hE, hbel⟩
      have hbn : Below w3.heap.size w3 w4 := by have := hbel; exact ⟨this.os, this.tape, this.output, this.size, this.block⟩
      have HB4 := hide hbn
      obtain ⟨bE, oE, hCE, hbE, hcE⟩ := ent_get hE HE.out
      subst hCE
      have HCE := hide (show w4.cell? ⟨bE, oE + q.2 * 3, none⟩ = some (.int .i64 e.slot) from hcE 0 _ rfl)
      have hf5 := nod_f5 (nodAt ns q.1) A8 (some ⟨bE, oE, none⟩) n8 c8 m8 d8
      have hq2 : q.2 < m8 := by rw [← hE.1]; exact (List.getElem?_eq_some_iff.1 HE.out).1
      have hbE2 : bE < w2.heap.size := by unfold Under at hbE; omega
      have HE8 := hide (HB4.out)
      clear hE hcE
      refine hK.out _ _ (⟨(HBW3.out.trans (HB4.out.mono HBW3.out.size)), (HR3.out.on HB4.out).cell 0, (HR3.out.on HB4.out).cell 1⟩) (fun hHeld => ?_)
      clear hK K
      (try simp only [Act.put, List.setIfInBounds_toArray, List.set_cons_zero, List.set_cons_succ])
      refine wpPlan_take (v := ?_) (by kernel_rfl) (fun wS hSw => ?_) ?_
      rotate_left
      · (try dsimp only at hSw); go_simp; (try with_reducible rfl)
      (try simp only [Act.put, List.setIfInBounds_toArray, List.set_cons_zero, List.set_cons_succ])
      refine wpPlan_take (v := ?_) (by kernel_rfl) (fun wS hSw => ?_) ?_
      rotate_left
      · (try dsimp only at hSw); go_simp; (try with_reducible rfl)
      (try simp only [Act.put, List.setIfInBounds_toArray, List.set_cons_zero, List.set_cons_succ])
      refine wpPlan_take (v := ?_) (by kernel_rfl) (fun wS hSw => ?_) ?_
      rotate_left
      · (try dsimp only at hSw); go_simp; (try with_reducible rfl)
      (try simp only [Act.put, List.setIfInBounds_toArray, List.set_cons_zero, List.set_cons_succ])
      refine wpPlan_take (v := ?_) (by kernel_rfl) (fun wS hSw => ?_) ?_
      rotate_left
      · obtain ⟨hk1, -⟩ := hSw; have hce : wS.cell? ⟨bE, oE + q.2 * 3, none⟩ = some (.int .i64 e.slot) := (hk1.cell (p := ⟨bE, oE + q.2 * 3, none⟩) hbE2).trans (((HBW3.out.trans (HB4.out.mono HBW3.out.size)).cell (p := ⟨bE, oE + q.2 * 3, none⟩) hbE2).symm.trans HCE.out); clear hk1; go_simp; (try with_reducible rfl)
      (try simp only [Act.put, List.setIfInBounds_toArray, List.set_cons_zero, List.set_cons_succ])
      refine wpPlan_take (v := ?_) (by kernel_rfl) (fun wS hSw => ?_) ?_
      rotate_left
      · (try dsimp only at hSw); go_simp; (try with_reducible rfl)
      (try simp only [Act.put, List.setIfInBounds_toArray, List.set_cons_zero, List.set_cons_succ])
      refine wpPlan_call (by kernel_rfl) (fun K hK => ?_)
      have hOld := hide hHeld
      clear hHeld
      unfold Oper.wp execOp
      have hlit := lit_pr (q.1, e.slot) w4
      unfold prC at hlit
      go_simp
      refine hK.out _ _ (⟨(HBW3.out.trans (HB4.out.mono HBW3.out.size)).trans ((below_new (below_self w4) (.cells (prC (q.1, e.slot)).toArray 36)).mono (by have := HB4.out.size; omega)), ((HR3.out.on HB4.out).on (below_new (below_self w4) (.cells (prC (q.1, e.slot)).toArray 36))).cell 0, ((HR3.out.on HB4.out).on (below_new (below_self w4) (.cells (prC (q.1, e.slot)).toArray 36))).cell 1⟩) (fun hHeld => ?_)
      clear hK K
      (try simp only [Act.put, List.setIfInBounds_toArray, List.set_cons_zero, List.set_cons_succ])
      refine wpPlan_call (by kernel_rfl) (fun K hK => ?_)
      have hOld := hide hHeld
      clear hHeld
      refine wp_appF w4 w2.heap.size w4.heap.size rfl (.tmp 21) (.tmp 35) 35 36 rfl Try.underlying35 _ 2 16 pr_info rfl (by omega) (by omega) A5 j c5 _ (prC (q.1, e.slot)) rfl (by simp [prC, Value.oneCell']) rfl (ownsRow_below HO3.out HB4.out) rfl (by omega) (by have := HB4.out.size; omega) ?_
      intro A6 c6 w6 ho6 hg6
      have HO6 := hide ho6
      have HG6 := hide hg6
      clear ho6 hg6
      refine hK.out _ _ (⟨((HBW3.out.trans (HB4.out.mono HBW3.out.size)).trans ((below_new (below_self w4) (.cells (prC (q.1, e.slot)).toArray 36)).mono (by have := HB4.out.size; omega))).grown HG6.out (by have := HB4.out.size; simp only [World.size_alloc]; omega) (fun k hk => (own_block (ownsRow_below (ownsRow_below HO3.out HB4.out) (below_new (below_self w4) (.cells (prC (q.1, e.slot)).toArray 36))) k hk).1), ((((HR3.out.on HB4.out).on (below_new (below_self w4) (.cells (prC (q.1, e.slot)).toArray 36))).grown HG6.out (row_apart (ownsRow_below (ownsRow_below HO3.out HB4.out) (below_new (below_self w4) (.cells (prC (q.1, e.slot)).toArray 36))) ((HR3.out.on HB4.out).on (below_new (below_self w4) (.cells (prC (q.1, e.slot)).toArray 36))) (by decide))).cell 0), ((((HR3.out.on HB4.out).on (below_new (below_self w4) (.cells (prC (q.1, e.slot)).toArray 36))).grown HG6.out (row_apart (ownsRow_below (ownsRow_below HO3.out HB4.out) (below_new (below_self w4) (.cells (prC (q.1, e.slot)).toArray 36))) ((HR3.out.on HB4.out).on (below_new (below_self w4) (.cells (prC (q.1, e.slot)).toArray 36))) (by decide))).cell 1)⟩) (fun hHeld => ?_)
      clear hK K
      (try simp only [Act.put, List.setIfInBounds_toArray, List.set_cons_zero, List.set_cons_succ])
      refine wpPlan_take (v := ?_) (by kernel_rfl) (fun wS hSw => ?_) ?_
      rotate_left
      · (try dsimp only at hSw); go_simp; (try with_reducible rfl)
      (try simp only [Act.put, List.setIfInBounds_toArray, List.set_cons_zero, List.set_cons_succ])
      refine wpPlan_end ?_
      have hbw6 := hHeld.1
      clear hHeld q0 q1
      go_wp2
      go_roundw
      case rel => exact ⟨j + 1, A6, c6, by omega, by go_num, rfl, by rw [HSQ.out, flatR_snoc]; exact HO6.out, hbw6⟩
      case measure => simp [intOf]; omega
    · obtain rfl : j = S'.2.length := by omega
      go_wp2
      go_ret
      rw [List.take_length] at HO
      exact ⟨A5, S'.2.length, c5, rfl, (own_pr HO.out).cap, ((own_pr HO.out).rd rfl).plain, HB2.out.trans (HBR.out.mono HB2.out.size)⟩
end Go.Proofs.Ytalhkcheglbolaa
