/- walk: node, dir (layer 13). -/
import Derived.Test.YtnehkgbdppbhiaaGreatWalD
import Derived.Test.YtnehkgbdppbhiaaGreatWalC
namespace Go.Proofs.YtnehkgbdppbhiaaGreat
open Go.RowKit Go.Shelf Plain

theorem inN_at {ns : List NodV} {i : Int} (h : inN ns i = true) : ∃ (j : Nat) (n : NodV), i = (j : Int) + 1 ∧ ns[j]? = some n ∧ nodAt ns i = n := by
  unfold inN at h
  rw [Bool.and_eq_true, decide_eq_true_eq, decide_eq_true_eq] at h
  exact nodAt_in h
theorem inN_out {ns : List NodV} {i : Int} (h : inN ns i = false) : nodAt ns i = nod0 := by
  refine nodAt_out fun hh => ?_
  unfold inN at h
  rw [Bool.and_eq_false_iff, decide_eq_false_iff_not, decide_eq_false_iff_not] at h
  omega
theorem NodR.keep {w w' : World} {B : Nat} {cs : List Value} {x : NodV} (h : NodR w (Under B) cs x) (hb : Below w.heap.size w w') (hB : B ≤ w.heap.size) : NodR w' (Under B) cs x := h.mono (Kept.of_below hb fun _ h => Nat.lt_of_lt_of_le h hB) fun _ h => h
set_option maxRecDepth 100000 in
set_option maxHeartbeats 1600000 in
theorem Of_any {A : Option Addr} {B : Nat} {n c : Nat} {ns : List NodV} {i : Int} (w : World) (h : RdE nodEn w (Under B) A n ns) (hB : B ≤ w.heap.size) (hm : ns.length ≤ 100000) : Calls Tryz.prog 55 #[.agg #[.slice A n c], .int .i64 i] w (NodRet w B (nodAt ns i)) := by
  have hl := h.1
  obtain ⟨rz0, rz, hbz, -⟩ := rows2 w [.slice A n c] (nodC nod0 (.slice none 0 0) (.slice none 0 0)) 26 71
  have HZ := hide rz
  have HB := hide hbz
  have qb : ((w.alloc (.cells [Value.slice A n c].toArray 26)).alloc (.cells (nodC nod0 (.slice none 0 0) (.slice none 0 0)).toArray 71)).cell? ⟨w.heap.size, 0, none⟩ = some (.slice A n c) := rz0.cell 0
  have hN := h
  by_cases h1 : i < 1
  · have e : nodAt ns i = nod0 := nodAt_out (by omega)
    have d1 : decide (i < 1) = true := by simpa using h1
    rw [e]
    clear h hN rz rz0 hbz e
    go_enter Tryz.func55, Tryz.ntmps55
    go_wp2_with (refine wpList_storeW rfl 71 (.tmp 4) (.tmp 14) rfl 13 nod_size (w.heap.size + 1) 71 rfl (nodC nod0 (.slice none 0 0) (.slice none 0 0)) (nodC nod0 (.slice none 0 0) (.slice none 0 0)) rfl HZ.out rfl rfl (nodC_one nod0 none none 0 0 0 0) ?_; intro w9 hr9 hg9 hs9; have HR9 := hide hr9; have HB9 := hide (HB.out.grown hg9 HB.out.size (fun k hk => by have := Option.some.inj hk; omega)); clear hr9 hg9 hs9)
    exact bodyPost_ret (res_cell Tryz.results55 rfl nod_agg nod_size HR9.out rfl) rfl (NodRet.of (Nat.le_refl _) (RdE.none_ _ _ _ _) (Nat.le_refl _) (RdE.none_ _ _ _ _) HB9.out hB)
  · have d1 : decide (i < 1) = false := by simpa using h1
    by_cases h2 : (n : Int) < i
    · have e : nodAt ns i = nod0 := nodAt_out (by omega)
      have d2 : decide ((n : Int) < i) = true := by simpa using h2
      rw [e]
      clear h hN rz rz0 hbz e
      go_enter Tryz.func55, Tryz.ntmps55
      go_wp2_with (refine wpList_storeW rfl 71 (.tmp 4) (.tmp 14) rfl 13 nod_size (w.heap.size + 1) 71 rfl (nodC nod0 (.slice none 0 0) (.slice none 0 0)) (nodC nod0 (.slice none 0 0) (.slice none 0 0)) rfl HZ.out rfl rfl (nodC_one nod0 none none 0 0 0 0) ?_; intro w9 hr9 hg9 hs9; have HR9 := hide hr9; have HB9 := hide (HB.out.grown hg9 HB.out.size (fun k hk => by have := Option.some.inj hk; omega)); clear hr9 hg9 hs9)
      exact bodyPost_ret (res_cell Tryz.results55 rfl nod_agg nod_size HR9.out rfl) rfl (NodRet.of (Nat.le_refl _) (RdE.none_ _ _ _ _) (Nat.le_refl _) (RdE.none_ _ _ _ _) HB9.out hB)
    · have d2 : decide ((n : Int) < i) = false := by simpa using h2
      obtain ⟨j, x, rfl, hx, e⟩ := nodAt_in (ns := ns) (i := i) (by omega)
      rw [e]
      obtain ⟨b, o, cs, rfl, hbB, hNd, hcell⟩ := hN.get_nod hx
      have hjn : j < n := by omega
      have hcell1 := fun j' v (hv : cs[j']? = some v) => (hbz.cell (p := ⟨b, o + j * 13 + j', none⟩) (Nat.lt_of_lt_of_le hbB hB)).trans (hcell j' v hv)
      obtain ⟨A1, n1, c1, C1, m1, d1', rfl, e2, e3, e4, e5⟩ := hNd
      have HC := hide hcell1
      have E3 := hide e3
      have E5 := hide e5
      have hw1 : IntKind.i64.wrap ((j : Int) + 1 - 1) = (j : Int) := by rw [show (j : Int) + 1 - 1 = j from by omega]; exact IntWalk.i64_in _ (by omega)
      have hw2 : IntKind.i64.wrap (j : Int) = (j : Int) := IntWalk.i64_in _ (by omega)
      clear h hN rz rz0 hbz e hcell hcell1 e3 e5 hx h1 h2
      go_enter Tryz.func55, Tryz.ntmps55
      go_wp2_with (first | (refine wpList_loadX rfl 71 (.tmp 19) rfl 13 nod_agg nod_size b (o + j * 13) rfl (nodC x (.slice A1 n1 c1) (.slice C1 m1 d1')) HC.out rfl ?_) | (refine wpList_storeW rfl 71 (.tmp 4) (.tmp 20) rfl 13 nod_size (w.heap.size + 1) 71 rfl (nodC nod0 (.slice none 0 0) (.slice none 0 0)) (nodC x (.slice A1 n1 c1) (.slice C1 m1 d1')) rfl HZ.out rfl rfl (nodC_one x A1 C1 n1 c1 m1 d1') ?_; intro w9 hr9 hg9 hs9; have HR9 := hide hr9; have HB9 := hide (HB.out.grown hg9 HB.out.size (fun k hk => by have := Option.some.inj hk; omega)); clear hr9 hg9 hs9))
      exact bodyPost_ret (res_cell Tryz.results55 rfl nod_agg nod_size HR9.out rfl) rfl (NodRet.of e2 E3.out e4 E5.out HB9.out hB)
set_option maxRecDepth 100000 in
set_option maxHeartbeats 1600000 in
theorem node_any {B g : Nat} {ns : List NodV} {i : Int} (w : World) (h : WkN w B g ns) (hB : B ≤ w.heap.size) (hg : g < w.heap.size) (hm : ns.length ≤ 100000) : Calls Tryz.prog 130 #[.pointer (some ⟨g, 0, none⟩), .int .i64 i] w (NodRet w B (nodAt ns i)) := by
  have hz := RowL.new w 71 (nodC nod0 (.slice none 0 0) (.slice none 0 0))
  have hb := below_new (below_self w) (.cells (nodC nod0 (.slice none 0 0) (.slice none 0 0)).toArray 71)
  obtain ⟨A, n, c, hc, hr0⟩ := h
  have hr := hr0.under hb hB
  have HR := hide hr
  have HZ := hide hz
  have HB := hide hb
  have hsz := hb.size
  clear hr hr0 hz hb
  go_enter Tryz.func130, Tryz.ntmps130
  go_wp2_with (first | (go_at_call 55; refine (Of_any _ HR.out (Nat.le_trans hB hsz) hm).mono ?_; rintro e w1 ⟨A1, n1, c1, C1, m1, d1, rfl, e2, e3, e4, e5, hb1⟩; have E3 := hide e3; have E5 := hide e5; have HB1 := hide hb1; clear e3 e5 hb1) | (refine wpList_storeW rfl 71 (.tmp 4) (.tmp 10) rfl 13 nod_size w.heap.size 71 rfl (nodC nod0 (.slice none 0 0) (.slice none 0 0)) (nodC (nodAt ns i) (.slice A1 n1 c1) (.slice C1 m1 d1)) rfl (HZ.out.on HB1.out) rfl rfl (nodC_one _ A1 C1 n1 c1 m1 d1) ?_; intro w9 hr9 hg9 hs9; have HR9 := hide hr9; have HG9 := hide hg9; clear hr9 hg9 hs9))
  have hs1 := HB1.out.size
  have hk : Kept (Under B) w1 w9 := fun b hb => HG9.out.block b (by unfold Under at hb; omega) (fun e => by have := Option.some.inj e; unfold Under at hb; omega)
  exact bodyPost_ret (res_cell Tryz.results130 rfl nod_agg nod_size HR9.out rfl) rfl ⟨A1, n1, c1, C1, m1, d1, rfl, e2, E3.out.mono hk (fun _ h => h), e4, E5.out.mono hk (fun _ h => h), (HB.out.trans (HB1.out.mono HB.out.size)).grown HG9.out (by omega) (fun k hk => by have := Option.some.inj hk; omega)⟩
set_option maxRecDepth 100000 in
theorem nod_f0 (x : NodV) (d e : Value) (W : World) : (Instr.field 71 (.agg (nodC x d e).toArray) 0).run Tryz.prog W = .ok (.int .i64 x.k) W := by kernel_rfl
set_option maxRecDepth 100000 in
theorem nod_f5 (x : NodV) (D C : Option Addr) (n c m d : Nat) (W : World) : (Instr.field 71 (.agg (nodC x (.slice D n c) (.slice C m d)).toArray) 5).run Tryz.prog W = .ok (.slice C m d) W := by kernel_rfl
set_option maxRecDepth 100000 in
set_option maxHeartbeats 1600000 in
theorem dir_any {B g : Nat} {ns : List NodV} {i : Int} (w : World) (h : WkN w B g ns) (hB : B ≤ w.heap.size) (hg : g < w.heap.size) (hm : ns.length ≤ 100000) : Calls Tryz.prog 113 #[.pointer (some ⟨g, 0, none⟩), .int .i64 i] w (BoolB w (isDir ns i)) := by
  have H := hide h
  obtain ⟨b, hb⟩ : ∃ b, isDir ns i = b := ⟨_, rfl⟩
  have hk : ((nodAt ns i).k == 1) = b := by rw [← hb]; unfold isDir; rw [Bool.eq_iff_iff]; simp
  rw [hb]
  clear h hb
  go_enter Tryz.func113, Tryz.ntmps113
  go_wp2_with (go_at_call 130; refine (node_any _ H.out hB hg hm).mono ?_; rintro e w1 ⟨A1, n1, c1, C1, m1, d1, rfl, -, -, -, -, hb1⟩; have hf := nod_f0 (nodAt ns i) (.slice A1 n1 c1) (.slice C1 m1 d1))
  go_ret
  exact BoolB.of hb1
end Go.Proofs.YtnehkgbdppbhiaaGreat
