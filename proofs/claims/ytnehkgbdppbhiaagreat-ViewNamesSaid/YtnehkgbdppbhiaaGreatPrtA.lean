import Derived.Test.YtnehkgbdppbhiaaGreatWalM
import Derived.Test.YtnehkgbdppbhiaaGreatRefNameA
import Derived.Test.YtnehkgbdppbhiaaGreatShelf
import Derived.Sort.OwnSorted
import Derived.Lib.RowBridge
import Derived.DeepKeys4
import Derived.Test.YtnehkgbdppbhiaaGreatPlain
import Derived.BigQuiet
import Derived.Deep.QuietTactic
import Derived.Lib.Join
import Derived.BigRegion
import Derived.StillTailTactics
import Derived.Test.YtnehkgbdppbhiaaGreatPlanN
import Derived.Deep.Cut
import Derived.Deep.CutRange
import Derived.Test.YtnehkgbdppbhiaaGreatMemE
import Derived.WalkKit
import Derived.OpenShut
import Derived.ChangeArms
import Derived.Lib.SmallJoins
import Derived.ProofKit
import Derived.Test.YtnehkgbdppbhiaaGreatPlanL

/- walk: Reach, Path; the reference's Path (layer 13). -/
namespace Go.Proofs.YtnehkgbdppbhiaaGreat
open Go.RowKit Go.Shelf Plain Go.Sort

def wayI (l : List WayV) (i : Int) : Option WayV := if 0 ≤ i ∧ i < (l.length : Int) then l[i.toNat]? else none
def upsF (l : List WayV) : Nat → Int → List (List UInt8)
  | 0, _ => []
  | f + 1, i => match wayI l i with
    | none => []
    | some y => if 0 ≤ y.up ∧ y.up < i then y.name :: upsF l f y.up else []
def pathS (l : List WayV) (i : Int) : List (List UInt8) := (upsF l l.length i).reverse
theorem upsF_len (l : List WayV) : ∀ (f : Nat) (i : Int), (upsF l f i).length ≤ f
  | 0, _ => by simp [upsF]
  | f + 1, i => by
    unfold upsF
    split
    · simp
    · rename_i y _
      split
      · have := upsF_len l f y.up
        simp only [List.length_cons]
        omega
      · simp
theorem upsF_none {l : List WayV} {i : Int} (h : wayI l i = none) : ∀ f, upsF l f i = []
  | 0 => rfl
  | f + 1 => by unfold upsF; rw [h]
theorem upsF_stop {l : List WayV} {i : Int} {y : WayV} (h : wayI l i = some y) (hn : ¬ (0 ≤ y.up ∧ y.up < i)) : ∀ f, upsF l f i = []
  | 0 => rfl
  | f + 1 => by unfold upsF; rw [h]; simp only [if_neg hn]
theorem upsF_go {l : List WayV} {i : Int} {y : WayV} {f : Nat} (h : wayI l i = some y) (hn : 0 ≤ y.up ∧ y.up < i) : upsF l (f + 1) i = y.name :: upsF l f y.up := by
  conv => lhs; unfold upsF
  rw [h]
  simp only [if_pos hn]
theorem wayI_some {l : List WayV} {i : Int} {y : WayV} (h : wayI l i = some y) : ∃ j : Nat, i = (j : Int) ∧ l[j]? = some y := by
  unfold wayI at h
  split at h
  · rename_i hh
    obtain ⟨j, rfl⟩ := Int.eq_ofNat_of_zero_le hh.1
    exact ⟨j, rfl, by simpa using h⟩
  · cases h
theorem way_get {w : World} {D : Nat → Prop} {A : Option Addr} {n j : Nat} {l : List WayV} {y : WayV} (h : RdE wayEn w D A n l) (hy : l[j]? = some y) : ∃ b o, A = some ⟨b, o, none⟩ ∧ D b ∧ ∀ i v, (wayC y)[i]? = some v → w.cell? ⟨b, o + j * 3 + i, none⟩ = some v := by
  have hj := (List.getElem?_eq_some_iff.1 hy).1
  obtain ⟨b, o, e, hb, hc⟩ := h.2 (by rw [← h.1]; omega)
  obtain ⟨cs, hR, hcs⟩ := hc j y hy
  refine ⟨b, o, e, hb, fun i v hv => ?_⟩
  have := hcs i v (by rw [show cs = wayC y from hR]; exact hv)
  rwa [show o + (j * wayEn.k + i) = o + j * 3 + i from by show o + (j * 3 + i) = o + j * 3 + i; omega] at this
set_option maxRecDepth 100000 in
theorem str_info : (Tryz.prog.info? 9).map (fun i => (i.zero, i.size, i.bytes)) = some (some (.string ⟨#[]⟩), 1, 16) := by kernel_rfl
end Go.Proofs.YtnehkgbdppbhiaaGreat

/- walk's references: Path, At, place (layer 13). -/
namespace Go.Proofs.YtnehkgbdppbhiaaGreat
open Go.RowKit Go.Shelf Plain

set_option maxRecDepth 100000 in
set_option maxHeartbeats 1600000 in
theorem At_any {A : Option Addr} {n c : Nat} {ns : List NodV} {i : Int} (w : World) (h : RdE nodEn w (Under w.heap.size) A n ns) (hm : ns.length ≤ 100000) : Calls Tryz.prog 52 #[.agg #[.slice A n c], .int .i64 i] w (NodRet w w.heap.size (nodAt ns i)) := by
  have hl := h.1
  obtain ⟨rz0, rz, hbz, -⟩ := rows2 w [.slice A n c] (nodC nod0 (.slice none 0 0) (.slice none 0 0)) 26 71
  have HZ := hide rz
  have HB := hide hbz
  have qb : ((w.alloc (.cells [Value.slice A n c].toArray 26)).alloc (.cells (nodC nod0 (.slice none 0 0) (.slice none 0 0)).toArray 71)).cell? ⟨w.heap.size, 0, none⟩ = some (.slice A n c) := rz0.cell 0
  have hN := h
  by_cases h1 : i < 1
  · have e : nodAt ns i = nod0 := nodAt_out (by omega)
    have d1 : decide (i < 1) = true := by simpa using h1
    rw [e]
    clear h hN rz rz0 hbz e
    go_enter Tryz.func52, Tryz.ntmps52
    go_wp2_with (refine wpList_storeW rfl 71 (.tmp 4) (.tmp 14) rfl 13 nod_size (w.heap.size + 1) 71 rfl (nodC nod0 (.slice none 0 0) (.slice none 0 0)) (nodC nod0 (.slice none 0 0) (.slice none 0 0)) rfl HZ.out rfl rfl (nodC_one nod0 none none 0 0 0 0) ?_; intro w9 hr9 hg9 hs9; have HR9 := hide hr9; have HB9 := hide (HB.out.grown hg9 HB.out.size (fun k hk => by have := Option.some.inj hk; omega)); clear hr9 hg9 hs9)
    exact bodyPost_ret (res_cell Tryz.results52 rfl nod_agg nod_size HR9.out rfl) rfl (NodRet.of (Nat.le_refl _) (RdE.none_ _ _ _ _) (Nat.le_refl _) (RdE.none_ _ _ _ _) HB9.out (Nat.le_refl _))
  · have d1 : decide (i < 1) = false := by simpa using h1
    by_cases h2 : (n : Int) < i
    · have e : nodAt ns i = nod0 := nodAt_out (by omega)
      have d2 : decide ((n : Int) < i) = true := by simpa using h2
      rw [e]
      clear h hN rz rz0 hbz e
      go_enter Tryz.func52, Tryz.ntmps52
      go_wp2_with (refine wpList_storeW rfl 71 (.tmp 4) (.tmp 14) rfl 13 nod_size (w.heap.size + 1) 71 rfl (nodC nod0 (.slice none 0 0) (.slice none 0 0)) (nodC nod0 (.slice none 0 0) (.slice none 0 0)) rfl HZ.out rfl rfl (nodC_one nod0 none none 0 0 0 0) ?_; intro w9 hr9 hg9 hs9; have HR9 := hide hr9; have HB9 := hide (HB.out.grown hg9 HB.out.size (fun k hk => by have := Option.some.inj hk; omega)); clear hr9 hg9 hs9)
      exact bodyPost_ret (res_cell Tryz.results52 rfl nod_agg nod_size HR9.out rfl) rfl (NodRet.of (Nat.le_refl _) (RdE.none_ _ _ _ _) (Nat.le_refl _) (RdE.none_ _ _ _ _) HB9.out (Nat.le_refl _))
    · have d2 : decide ((n : Int) < i) = false := by simpa using h2
      obtain ⟨j, x, rfl, hx, e⟩ := nodAt_in (ns := ns) (i := i) (by omega)
      rw [e]
      obtain ⟨b, o, cs, rfl, hbB, hNd, hcell⟩ := hN.get_nod hx
      have hjn : j < n := by omega
      have hcell1 := fun j' v (hv : cs[j']? = some v) => (hbz.cell (p := ⟨b, o + j * 13 + j', none⟩) hbB).trans (hcell j' v hv)
      obtain ⟨A1, n1, c1, C1, m1, d1', rfl, e2, e3, e4, e5⟩ := hNd
      have HC := hide hcell1
      have E3 := hide e3
      have E5 := hide e5
      have hw1 : IntKind.i64.wrap ((j : Int) + 1 - 1) = (j : Int) := by rw [show (j : Int) + 1 - 1 = j from by omega]; exact IntWalk.i64_in _ (by omega)
      have hw2 : IntKind.i64.wrap (j : Int) = (j : Int) := IntWalk.i64_in _ (by omega)
      clear h hN rz rz0 hbz e hcell hcell1 e3 e5 hx h1 h2
      go_enter Tryz.func52, Tryz.ntmps52
      go_wp2_with (first | (refine wpList_loadX rfl 71 (.tmp 19) rfl 13 nod_agg nod_size b (o + j * 13) rfl (nodC x (.slice A1 n1 c1) (.slice C1 m1 d1')) HC.out rfl ?_) | (refine wpList_storeW rfl 71 (.tmp 4) (.tmp 20) rfl 13 nod_size (w.heap.size + 1) 71 rfl (nodC nod0 (.slice none 0 0) (.slice none 0 0)) (nodC x (.slice A1 n1 c1) (.slice C1 m1 d1')) rfl HZ.out rfl rfl (nodC_one x A1 C1 n1 c1 m1 d1') ?_; intro w9 hr9 hg9 hs9; have HR9 := hide hr9; have HB9 := hide (HB.out.grown hg9 HB.out.size (fun k hk => by have := Option.some.inj hk; omega)); clear hr9 hg9 hs9))
      exact bodyPost_ret (res_cell Tryz.results52 rfl nod_agg nod_size HR9.out rfl) rfl (NodRet.of e2 E3.out e4 E5.out HB9.out (Nat.le_refl _))
end Go.Proofs.YtnehkgbdppbhiaaGreat

/- walk: sets of names by where they stand (layer 13). -/
namespace Go.Proofs.YtnehkgbdppbhiaaGreat
open Go.RowKit Go.Shelf Plain Go.Maps

set_option maxRecDepth 100000 in
theorem nam_laid : laidOutB Tryz.prog = true := by kernel_rfl
set_option maxRecDepth 100000 in
theorem namKey : Keyed Tryz.prog 178 := Keyed.of_law (deep_law_laid nam_laid (m := 4) (by omega) (of_decide_eq_true (by kernel_rfl)) (by kernel_rfl) (by kernel_rfl))
set_option maxRecDepth 100000 in
theorem nam_size1 : decide (1 ≤ Tryz.prog.types.size) = true := by kernel_rfl
theorem namSize : ∃ k, Tryz.prog.types.size + 1 = k + 1 + 1 := ⟨Tryz.prog.types.size - 1, by have h := of_decide_eq_true nam_size1; revert h; generalize Tryz.prog.types.size = z; intro h; omega⟩
set_option maxRecDepth 100000 in
theorem nam_cells : Tryz.prog.cellsOf 178 = 2 := by kernel_rfl
set_option maxRecDepth 100000 in
theorem nam_kt : Tryz.prog.keyType 178 = true := by kernel_rfl
set_option maxRecDepth 100000 in
theorem int_cells : Tryz.prog.cellsOf 3 = 1 := by kernel_rfl
set_option maxRecDepth 100000 in
set_option maxHeartbeats 800000 in
theorem nam_key {a b : Int} (ha : i64 a) (hb : i64 b) : ∃ kl, keyOf Tryz.prog 178 (.agg #[.int .i64 a, .int .i64 b]) = some kl := by
  have h1 := i64_wf ha
  have h2 := i64_wf hb
  obtain ⟨k, hk⟩ := namSize
  refine ⟨.string (keyBytes [.int .i64 a, .int .i64 b]), ?_⟩
  unfold keyOf
  simp only [Tryz.underlying178]
  have hfm : Value.formed Tryz.prog 178 (Value.agg #[Value.int IntKind.i64 a, Value.int IntKind.i64 b]) = true := by
    simp only [Value.formed, Tryz.underlying178]
    rw [nam_cells]
    rfl
  rw [nam_kt, hfm, hk, show (Value.agg #[Value.int IntKind.i64 a, Value.int IntKind.i64 b]).cells.toList = [Value.int IntKind.i64 a, Value.int IntKind.i64 b] from rfl]
  have hk1 : ∀ x : Int, (Lit.int IntKind.i64 x).wf = true → Tryz.prog.keyLits (k + 1) 3 [Value.int IntKind.i64 x] = some [Lit.int IntKind.i64 x] := by
    intro x hx
    unfold Program.keyLits
    simp only [Tryz.underlying3]
    rw [if_pos ⟨trivial, hx⟩]
  have hk2 : Tryz.prog.keyLits (k + 1 + 1) 178 [Value.int IntKind.i64 a, Value.int IntKind.i64 b] = some [Lit.int IntKind.i64 a, Lit.int IntKind.i64 b] := by
    unfold Program.keyLits
    simp only [Tryz.underlying178]
    rw [if_pos ⟨by rw [nam_cells]; rfl, by kernel_rfl⟩]
    simp only [List.mapM_cons, List.mapM_nil, int_cells, List.drop_zero, List.drop_succ_cons, List.take_succ_cons, List.take_zero, hk1 a h1, hk1 b h2]
    rfl
  rw [hk2]
  rfl
/-- The block holds this set of names. -/
def SetN (w : World) (b c : Nat) (f : Int × Int → Bool) : Prop := ∃ D : DataW Unit, w.ownsMap Tryz.prog 178 unitElem b c D ∧ ∀ x y kl, i64 x → i64 y → keyOf Tryz.prog 178 (.agg #[.int .i64 x, .int .i64 y]) = some kl → Maps.has D kl = f (x, y)
section
variable {w w' : World} {b c : Nat} {f : Int × Int → Bool}
theorem SetN.made (w : World) : SetN (w.alloc (.map #[] 0)) w.heap.size 0 (fun _ => false) := ⟨.map [], World.ownsMap_made w _ _ _, fun _ _ _ _ _ _ => rfl⟩
theorem SetN.lt (h : SetN w b c f) : b < w.heap.size := by obtain ⟨D, h1, h2⟩ := h; exact h1.lt
theorem SetN.kept {row : Option Nat} (h : SetN w b c f) (hg : w.grownBy w' row) (hne : some b ≠ row) : SetN w' b c f := by obtain ⟨D, h1, h2⟩ := h; exact ⟨D, h1.kept hg hne, h2⟩
theorem SetN.on (h : SetN w b c f) (hb : Below w.heap.size w w') : SetN w' b c f := h.kept (grown_below hb) (by simp)
theorem SetN.eq {g : Int × Int → Bool} (h : SetN w b c f) (e : f = g) : SetN w b c g := e ▸ h
theorem SetN.obj (h : SetN w b c f) : ∃ o : Obj, w.heap[b]? = some o ∧ (∀ x, o ≠ .deferred x) ∧ o.isCells = false := by
  obtain ⟨D, ⟨es, clock, h1, _⟩, h2⟩ := h
  exact ⟨_, h1, (fun x e => by cases e), rfl⟩
end
end Go.Proofs.YtnehkgbdppbhiaaGreat

/- walk: without (layer 13). -/
namespace Go.Proofs.YtnehkgbdppbhiaaGreat
open Go.RowKit Go.Shelf Plain

set_option maxRecDepth 100000 in
theorem u8_info' : (Tryz.prog.info? 5).map (fun i => (i.zero, i.size, i.bytes)) = some (some (.int .u8 0), 1, 1) := by kernel_rfl
set_option maxHeartbeats 800000 in
theorem SClone_any {A : Option Addr} {n c : Nat} {l : List UInt8} (w : World) (h : Bs w w.heap.size A n l) (hn : n ≤ 100000) : Calls Tryz.prog 135 #[.slice A n c] w (BRet w 5 n l) := by
  have H := hide h
  cases A with
  | none =>
    have h0 : n = 0 := by
      rcases Nat.eq_zero_or_pos n with h0 | h0
      · exact h0
      · obtain ⟨_, _, e, _⟩ := h.2 h0; cases e
    subst h0
    obtain rfl : l = [] := List.eq_nil_of_length_eq_zero h.1
    have hnil := fun W => Lib.run_eql_slice_nil (P := Tryz.prog) W 64 5 none 0 c 0 0 Tryz.underlying64
    clear h
    go_enter Tryz.func135, Tryz.ntmps135
    go_wp2
    go_ret
    exact (Own.nil_ w w.heap.size 5).ret (below_self w)
  | some a =>
    have hnil := fun W => Lib.run_eql_slice_nil (P := Tryz.prog) W 64 5 (some a) n c 0 0 Tryz.underlying64
    clear h
    go_enter Tryz.func135, Tryz.ntmps135
    go_wp2_with (at_builtin; refine wpList_append_Bs _ rfl (.tmp 5) (.tmp 6) 64 rfl w.heap.size 5 Tryz.underlying64 u8_info' (some ⟨w.heap.size, 0, none⟩) 0 0 [] rfl (Own.lit w 5 (cs := []) (l := []) rfl rfl (by omega)) w.heap.size (some a) n c l rfl (H.out.below (below_new (below_self w) _)) n (by omega) (by omega) (by simp) ?_; intro A5 c5 w5 ho5 hb5; have HO5 := hide ho5; have HB5 := hide hb5; clear ho5 hb5)
    go_ret
    exact HO5.out.ret ((below_new (below_self w) _).trans HB5.out)
/-- It returns a node of whatever memory. -/
def NodRet2 (w : World) (x : NodV) (e : Ending) (w' : World) : Prop := ∃ A n c C m d, e = .returned (.agg (nodC x (.slice A n c) (.slice C m d)).toArray) ∧ n ≤ c ∧ RdE Enc.byte w' (fun b => w.heap.size ≤ b ∧ b < w'.heap.size) A n x.data ∧ m ≤ d ∧ RdE entEn w' (fun b => w.heap.size ≤ b ∧ b < w'.heap.size) C m x.ents ∧ Below w.heap.size w w'
def keepF (f : Int × Int → Bool) (i : Int) (l : List EntV) (k : Nat) : List EntV := ((l.zipIdx.take k).filter (fun x => !f (i, (x.2 : Int)))).map (fun x => x.1)
theorem keepF_succ {f : Int × Int → Bool} {i : Int} {l : List EntV} {k : Nat} {x : EntV} (h : l[k]? = some x) : keepF f i l (k + 1) = if f (i, (k : Int)) = true then keepF f i l k else keepF f i l k ++ [x] := by
  have hz : l.zipIdx[k]? = some (x, k) := by rw [List.getElem?_zipIdx, h]; simp
  unfold keepF
  rw [List.take_add_one, hz, List.filter_append, List.map_append]
  cases hd : f (i, (k : Int)) <;> simp [hd]
theorem keepF_len (f : Int × Int → Bool) (i : Int) (l : List EntV) (k : Nat) : (keepF f i l k).length ≤ k := by
  unfold keepF
  rw [List.length_map]
  refine Nat.le_trans (List.length_filter_le _ _) ?_
  rw [List.length_take]
  omega
set_option maxRecDepth 100000 in
theorem entw_info : (Tryz.prog.info? 49).map (fun i => (i.zero, i.size, i.bytes)) = some (some (.agg #[.int .i64 0, .int .i64 0, .string ⟨#[]⟩]), 3, 32) := by kernel_rfl
theorem lit_entw (x : EntV) (W : World) : (Instr.buildSlice 65 1 #[(0, .agg (cellsE x).toArray)]).run Tryz.prog W = .ok (.slice (some ⟨W.heap.size, 0, none⟩) 1 1) (W.alloc (.cells (cellsE x).toArray 49)) := by
  obtain ⟨it, hi, hz, hsz, -⟩ := info_parts entw_info
  refine run_buildSlice W _ 49 1 _ _ it _ Tryz.underlying65 hi hz (by omega) (by omega) ?_
  rw [hsz]
  have := Great.fill_whole (s := 3) (by omega) [.agg (cellsE x).toArray] ((Array.range (1 * 3)).map ((Value.agg #[.int .i64 0, .int .i64 0, .string ⟨#[]⟩]).cells[· % (Value.agg #[.int .i64 0, .int .i64 0, .string ⟨#[]⟩]).cells.size]!)) (by intro v hv; rw [List.mem_singleton] at hv; subst hv; simp [Value.cells, cellsE]) (by simp)
  simpa [Value.cells] using this
theorem own_ent {W : World} {base t n c : Nat} {A : Option Addr} {l : List EntV} (h : W.ownsRow base t 3 (.slice A n c) n (flatE l)) : OwE entEn W base t A n c l := by
  have hl := h.1
  rw [flatE_len] at hl
  refine ⟨l.map cellsE, by rw [show (l.map cellsE).flatten = flatE l from by simp [flatE, List.flatMap]]; exact h, ⟨by simp, fun i cs x h1 h2 => ?_⟩, by omega⟩
  rw [List.getElem?_map, h2] at h1
  cases h1
  exact ⟨[_], [_, _], rfl, rfl, [_], [_], rfl, rfl, rfl⟩
theorem ow_flat {W : World} {base t n c : Nat} {A : Option Addr} {l : List EntV} (h : W.ownsRow base t 3 (.slice A n c) n (flatE l)) : l.length = n := by have hl := h.1; rw [flatE_len] at hl; omega
theorem ent_fresh {W : World} {base t n c : Nat} {A : Option Addr} {l : List EntV} (h : W.ownsRow base t 3 (.slice A n c) n (flatE l)) : RdE entEn W (fun b => base ≤ b ∧ b < W.heap.size) A n l := by
  refine ⟨ow_flat h, fun h0 => ?_⟩
  have hl := h.1
  rcases h.2 with ⟨_, h0'⟩ | ⟨g, cap, cur, he, hb, hg, _⟩
  · omega
  · simp only [Value.slice.injEq] at he
    obtain ⟨rfl, -, -⟩ := he
    refine ⟨g, 0, rfl, ⟨hb, heap_lt hg⟩, fun i x hx => ⟨cellsE x, ⟨[_], [_, _], rfl, rfl, [_], [_], rfl, rfl, rfl⟩, fun j v hv => ?_⟩⟩
    have hj : j < 3 := by have := (List.getElem?_eq_some_iff.1 hv).1; simpa [cellsE] using this
    have hi := (List.getElem?_eq_some_iff.1 hx).1
    have hn := ow_flat h
    rw [Nat.zero_add]
    refine (World.ownsRow.cellAt (g := g) h (i * 3 + j) (by omega)).trans ?_
    have := flat_get (k := 3) (css := l.map cellsE) (fun cs hc => by obtain ⟨z, _, rfl⟩ := List.mem_map.1 hc; rfl) (i := i) (j := j) (cs := cellsE x) (by rw [List.getElem?_map, hx]; rfl) hj
    rw [show flatE l = (l.map cellsE).flatten from by simp [flatE, List.flatMap], this]
    exact hv
theorem byte_fresh {W : World} {base t n c : Nat} {A : Option Addr} {l : List UInt8} (h : W.ownsRow base t 1 (.slice A n c) n (bvs l)) : RdE Enc.byte W (fun b => base ≤ b ∧ b < W.heap.size) A n l := by
  refine RdE.of_bs (Bs.of_own h) (fun h0 a ha => ?_)
  rcases h.2 with ⟨_, h0'⟩ | ⟨g, cap, cur, he, hb, hg, _⟩
  · omega
  · simp only [Value.slice.injEq] at he
    obtain ⟨rfl, -, -⟩ := he
    cases ha
    exact ⟨hb, heap_lt hg⟩
/-- A literal of one element, as the walk meets it. -/
theorem wpList_litW {P : Program} {w w' : World} {ops : Array Oper} {rest : List Oper} {o : Oper} {a : Act} {Q : Exit → Act → World → Prop} (hgd : o.guard = none) (t : Nat) (x : Operand) (ho : o.op = .buildSlice t 1 #[(0, x)]) (vx v : Value) (hx : a.eval x = vx) (hr : (Instr.buildSlice t 1 #[(0, vx)]).run P w = .ok v w') (hK : wpList P ops Q rest (a.put o.dst v) w') : wpList P ops Q (o :: rest) a w := by
  refine wpList_plain hgd fun K hK' => ?_
  unfold Oper.wp execOp
  simp only [ho, List.map_toArray, List.map_cons, List.map_nil, hx, Sem.run_bind, Sem.run_pure, Result.andThen_ok, hr]
  exact hK' _ _ hK
end Go.Proofs.YtnehkgbdppbhiaaGreat

/- walk: Prune (layer 13). -/
namespace Go.Proofs.YtnehkgbdppbhiaaGreat
open Go.RowKit Go.Shelf Plain

def nodZ : List Value := nodC nod0 (.slice none 0 0) (.slice none 0 0)
/-- A store into a row of elements of k cells. -/
theorem flat_put {k : Nat} : ∀ {css : List (List Value)} (_ : ∀ cs ∈ css, cs.length = k) (j : Nat) (cs : List Value) (_ : cs.length = k) (_ : j < css.length), splice css.flatten (j * k) cs = (css.set j cs).flatten := by
  intro css
  induction css with
  | nil => intro _ j cs _ hj; simp at hj
  | cons c0 r ih =>
    intro hk j cs hc hj
    have h0 : c0.length = k := hk c0 List.mem_cons_self
    cases j with
    | zero =>
      simp only [splice, Nat.zero_mul, List.take_zero, List.nil_append, Nat.zero_add, List.set_cons_zero, List.flatten_cons]
      rw [List.drop_left' (by omega)]
    | succ j =>
      have := ih (fun c h => hk c (List.mem_cons_of_mem _ h)) j cs hc (by simpa using hj)
      simp only [List.set_cons_succ, List.flatten_cons, ← this]
      unfold splice
      have e1 : (j + 1) * k = c0.length + j * k := by rw [Nat.succ_mul, h0]; omega
      rw [e1, List.take_append, List.take_of_length_le (by omega), Nat.add_sub_cancel_left, List.append_assoc, show c0.length + j * k + cs.length = c0.length + (j * k + cs.length) from by omega, List.drop_append, List.drop_of_length_le (by omega), Nat.add_sub_cancel_left, List.nil_append]
/-- The row of nodes, in the making. -/
def NodesAt (B g : Nat) (l : List NodV) (W : World) : Prop := ∃ css, RowL W g 71 css.flatten ∧ CellsE nodEn W (fun b => B ≤ b ∧ b < W.heap.size ∧ b ≠ g) css l
theorem NodesAt.on {B g : Nat} {l : List NodV} {W W' : World} (h : NodesAt B g l W) (hb : Below W.heap.size W W') : NodesAt B g l W' := by
  obtain ⟨css, h1, h2⟩ := h
  exact ⟨css, h1.on hb, h2.mono (fun b hb' => hb.block b hb'.2.1) (fun b hb' => ⟨hb'.1, Nat.lt_of_lt_of_le hb'.2.1 hb.size, hb'.2.2⟩)⟩
theorem NodesAt.len {B g : Nat} {l : List NodV} {W : World} (h : NodesAt B g l W) : ∃ cs, RowL W g 71 cs ∧ cs.length = l.length * 13 := by
  obtain ⟨css, h1, h2⟩ := h
  exact ⟨_, h1, by rw [flat_len h2.lens, h2.1]; rfl⟩
theorem NodesAt.put {B g j : Nat} {l : List NodV} {x : NodV} {W W' : World} {cur cs : List Value} (h : NodesAt B g l W) (hj : j < l.length) (hx : NodR W (fun b => B ≤ b ∧ b < W.heap.size ∧ b ≠ g) cs x) (hcur : RowL W g 71 cur) (hr : RowL W' g 71 (splice cur (j * 13) cs)) (hg : W.grownBy W' (some g)) : NodesAt B g (l.set j x) W' := by
  obtain ⟨css, h1, h2⟩ := h
  have hc : cs.length = 13 := nodEn.len hx
  have e : cur = css.flatten := by
    have := h1.symm.trans hcur
    injection this with this
    injection this with this
    simpa using this.symm
  subst e
  rw [flat_put (k := 13) (fun c hc => h2.lens c hc) j cs hc (by rw [h2.1]; exact hj)] at hr
  have hk : Kept (fun b => B ≤ b ∧ b < W.heap.size ∧ b ≠ g) W W' := fun b hb => hg.block b hb.2.1 (fun e => hb.2.2 (Option.some.inj e))
  have hD : ∀ b, (B ≤ b ∧ b < W.heap.size ∧ b ≠ g) → (B ≤ b ∧ b < W'.heap.size ∧ b ≠ g) := fun b hb => ⟨hb.1, Nat.lt_of_lt_of_le hb.2.1 hg.size, hb.2.2⟩
  refine ⟨css.set j cs, hr, by rw [List.length_set, List.length_set, h2.1], fun i c y hc1 hy1 => ?_⟩
  by_cases hi : j = i
  · subst hi
    rw [List.getElem?_set_self (by rw [h2.1]; exact hj)] at hc1
    rw [List.getElem?_set_self hj] at hy1
    cases hc1
    cases hy1
    exact NodR.mono hx hk hD
  · rw [List.getElem?_set_ne hi] at hc1 hy1
    exact nodEn.mono (h2.2 i c y hc1 hy1) hk hD
theorem NodesAt.rd {B g n : Nat} {l : List NodV} {W : World} (h : NodesAt B g l W) (hB : B ≤ g) (hn : l.length = n) : RdE nodEn W (fun b => B ≤ b ∧ b < W.heap.size) (some ⟨g, 0, none⟩) n l := by
  subst hn
  obtain ⟨css, h1, h2⟩ := h
  refine ⟨rfl, fun _ => ⟨g, 0, rfl, ⟨hB, h1.lt⟩, fun i x hx => ?_⟩⟩
  have hi := (List.getElem?_eq_some_iff.1 hx).1
  have hc : css[i]? = some (css[i]'(by rw [h2.1]; exact hi)) := List.getElem?_eq_getElem _
  have hR := h2.2 i _ x hc hx
  refine ⟨_, nodEn.mono hR (fun _ _ => rfl) (fun b hb => ⟨hb.1, hb.2.1⟩), fun j v hv => ?_⟩
  have hj : j < 13 := by have := (List.getElem?_eq_some_iff.1 hv).1; have h13 := nodEn.len hR; rw [h13] at this; exact this
  rw [Nat.zero_add, h1.cell]
  exact (flat_get h2.lens hc hj).trans hv
theorem nodes_zero {W : World} {B g n : Nat} (h : RowL W g 71 (List.replicate n nodZ).flatten) : NodesAt B g (List.replicate n nod0) W := by
  refine ⟨List.replicate n nodZ, h, by simp, fun i cs x h1 h2 => ?_⟩
  rw [List.getElem?_replicate] at h1 h2
  split at h1
  · rename_i hi
    rw [if_pos hi] at h2
    cases h1
    cases h2
    exact ⟨none, 0, 0, none, 0, 0, rfl, Nat.le_refl _, RdE.none_ _ _ _ _, Nat.le_refl _, RdE.none_ _ _ _ _⟩
  · cases h1
set_option maxRecDepth 100000 in
theorem nodw_info : (Tryz.prog.info? 71).map (fun i => (i.zero, i.size, i.bytes)) = some (some (.agg nodZ.toArray), 13, 144) := by kernel_rfl
theorem nod_made (n : Nat) : (madeCells (Value.agg nodZ.toArray).cells (n * 13)).toList = (List.replicate n nodZ).flatten := by
  have hz : (Value.agg nodZ.toArray).cells = nodZ.toArray := by rfl
  rw [hz]
  have hl : (List.replicate n nodZ).flatten.length = n * 13 := by
    have := flat_len (k := 13) (css := List.replicate n nodZ) (fun cs h => by rw [List.eq_of_mem_replicate h]; rfl)
    simpa using this
  apply List.ext_getElem?
  intro i
  by_cases hi : i < n * 13
  · have h13 : i % 13 < 13 := Nat.mod_lt _ (by omega)
    have hq : ∀ q, q < 13 → nodZ[q]? = some (nodZ.toArray[q]!) := by
      intro q hq
      obtain rfl | rfl | rfl | rfl | rfl | rfl | rfl | rfl | rfl | rfl | rfl | rfl | rfl : q = 0 ∨ q = 1 ∨ q = 2 ∨ q = 3 ∨ q = 4 ∨ q = 5 ∨ q = 6 ∨ q = 7 ∨ q = 8 ∨ q = 9 ∨ q = 10 ∨ q = 11 ∨ q = 12 := by omega
      all_goals rfl
    have hd : i / 13 < n := Nat.div_lt_of_lt_mul (by omega)
    have hg := flat_get (k := 13) (css := List.replicate n nodZ) (fun cs h => by rw [List.eq_of_mem_replicate h]; rfl) (i := i / 13) (j := i % 13) (cs := nodZ) (by rw [List.getElem?_replicate, if_pos hd]) h13
    rw [show i / 13 * 13 + i % 13 = i from by omega] at hg
    rw [hg, hq _ h13]
    unfold madeCells
    rw [Array.getElem?_toList, Array.getElem?_map, Array.getElem?_range, if_pos hi, Option.map_some]
    rfl
  · rw [List.getElem?_eq_none (by simp [size_madeCells]; omega), List.getElem?_eq_none (by omega)]
theorem RowL.of_madeK' {w : World} {base g e n s : Nat} {xs : List Value} (h : w.ownsRow base e s (.slice (some ⟨g, 0, none⟩) n n) n xs) : RowL w g e xs := by
  rcases h.2 with ⟨h', _⟩ | ⟨g', cap, cur, h', _, hg, _, _, hcs, ht⟩
  · cases h'
  · simp only [Value.slice.injEq, Option.some.injEq, Addr.mk.injEq, and_true, true_and] at h'
    obtain ⟨rfl, rfl⟩ := h'
    have e1 : xs = cur.toList := by rw [← ht]; exact List.take_of_length_le (by rw [Array.length_toList, hcs]; exact Nat.le_refl _)
    subst e1
    simpa [RowL] using hg
theorem wpList_make_N {w : World} {B : Nat} {ops : Array Oper} {rest : List Oper} {o : Oper} {a : Act} {Q : Exit → Act → World → Prop} (hg : o.guard = none) (l c : Operand) (hop : o.op = Op.makeSlice 24 l c)
    (L C : Int) (n : Nat) (hl : a.eval l = .int .i64 L) (hc : a.eval c = .int .i64 C) (hL : L = (n : Int)) (hC : C = (n : Int)) (hn : n ≤ 1000)
    (hK : ∀ w', NodesAt B w.heap.size (List.replicate n nod0) w' → Below w.heap.size w w' → wpList Tryz.prog ops Q rest (a.put o.dst (.slice (some ⟨w.heap.size, 0, none⟩) n n)) w') :
    wpList Tryz.prog ops Q (o :: rest) a w := by
  obtain ⟨i, hi, hz, hsz, hby⟩ := info_parts nodw_info
  refine wpList_make_full w hg l c 24 hop w.heap.size 71 i _ 13 Tryz.underlying24 hi hz hsz .i64 .i64 L C n hl hc hL hC (by rw [hby]; omega) (by simp only [maxLen]; omega) (Nat.le_refl _) ?_
  intro w' hown hgr
  refine hK w' (nodes_zero ?_) ((Below.refl _ _).grown hgr (Nat.le_refl _) (by simp))
  rw [← nod_made]
  exact RowL.of_madeK' hown
/-- The names by where they stand, the first j. -/
def nameF (t : List (Int × Nat)) (j : Nat) : Int × Int → Bool := fun q => (t.take j).any (fun z => decide (q = (z.1, (z.2 : Int))))
theorem nameF_zero (t : List (Int × Nat)) : nameF t 0 = fun _ => false := by funext q; simp [nameF]
theorem nameF_succ {t : List (Int × Nat)} {j : Nat} {z : Int × Nat} (h : t[j]? = some z) : nameF t (j + 1) = fun q => nameF t j q || decide (q = (z.1, (z.2 : Int))) := by
  funext q
  unfold nameF
  rw [List.take_add_one, h, List.any_append]
  simp
theorem keepF_all (t : List (Int × Nat)) (i : Int) (l : List EntV) : keepF (nameF t t.length) i l l.length = keepE t i l := by
  unfold keepF keepE
  rw [List.take_of_length_le (by simp)]
  congr 1
  apply List.filter_congr
  intro x _
  congr 1
  unfold nameF
  rw [List.take_length, Bool.eq_iff_iff, List.any_eq_true, List.contains_iff_mem]
  constructor
  · rintro ⟨z, hz, h⟩
    have h := of_decide_eq_true h
    have h1 := congrArg Prod.fst h
    have h2 := congrArg Prod.snd h
    have e : z = (i, x.2) := by
      obtain ⟨z1, z2⟩ := z
      simp only at h1 h2
      rw [← h1, show z2 = x.2 from by omega]
    rw [← e]
    exact hz
  · exact fun h => ⟨_, h, by simp⟩
/-- The nodes so far, and zero ones behind. -/
def soFar (ns : List NodV) (s : StW) (k : Nat) : List NodV := (pruneW ns s).take k ++ List.replicate (ns.length - k) nod0
theorem soFar_zero (ns : List NodV) (s : StW) : soFar ns s 0 = List.replicate ns.length nod0 := by simp [soFar]
theorem soFar_all (ns : List NodV) (s : StW) : soFar ns s ns.length = pruneW ns s := by
  unfold soFar
  rw [List.take_of_length_le (by rw [prune_len]; exact Nat.le_refl _), Nat.sub_self]
  simp
theorem soFar_len {ns : List NodV} {s : StW} {k : Nat} (h : k ≤ ns.length) : (soFar ns s k).length = ns.length := by
  unfold soFar
  rw [List.length_append, List.length_take, prune_len, List.length_replicate]
  omega
theorem soFar_succ {ns : List NodV} {s : StW} {k : Nat} {n : NodV} (h : ns[k]? = some n) : soFar ns s (k + 1) = (soFar ns s k).set k (pruneN s.2 (reachW ns s.1 ((k : Int) + 1)) ((k : Int) + 1) n) := by
  have hk := (List.getElem?_eq_some_iff.1 h).1
  unfold soFar
  rw [List.set_append_right _ _ (by rw [List.length_take]; omega), List.length_take, prune_len, Nat.min_eq_left (by omega), Nat.sub_self, show ns.length - k = (ns.length - (k + 1)) + 1 from by omega, List.replicate_succ, List.set_cons_zero, List.take_add_one, prune_get h, List.append_assoc]
  rfl
theorem soFar_skip {ns : List NodV} {s : StW} {k : Nat} {n : NodV} (h : ns[k]? = some n) (hr : reachW ns s.1 ((k : Int) + 1) = false) : soFar ns s (k + 1) = soFar ns s k := by
  have hk := (List.getElem?_eq_some_iff.1 h).1
  unfold soFar
  rw [List.take_add_one, prune_get h, hr, show ns.length - k = (ns.length - (k + 1)) + 1 from by omega, List.replicate_succ, List.append_assoc]
  rfl
end Go.Proofs.YtnehkgbdppbhiaaGreat

/- walk: Prune (layer 13). -/
namespace Go.Proofs.YtnehkgbdppbhiaaGreat
open Go.RowKit Go.Shelf Plain

theorem setB_get {bs : List Bool} {i : Int} (hi : 1 ≤ i) (j : Nat) : (setB bs i)[j]? = (bs[j]?).map (fun x => x || i == (j : Int) + 1) := by
  unfold setB
  rw [List.getElem?_set]
  split
  · rename_i h
    have e : i = (j : Int) + 1 := by omega
    rw [e]
    split
    · rename_i hl
      rw [List.getElem?_eq_getElem (by omega)]
      simp
    · rename_i hl
      rw [List.getElem?_eq_none (by omega)]
      rfl
  · rename_i h
    have e : (i == (j : Int) + 1) = false := by rw [beq_eq_false_iff_ne]; omega
    rw [e]
    cases bs[j]? <;> simp
theorem entF_get {ns : List NodV} {bs : List Bool} {e : EntV} {j : Nat} (hj : j < ns.length) : (entF ns bs e)[j]? = (bs[j]?).map (fun x => x || e.ino == (j : Int) + 1) := by
  unfold entF
  split
  · rename_i h
    unfold inN at h
    simp only [Bool.and_eq_true, decide_eq_true_eq] at h
    exact setB_get h.1 j
  · rename_i h
    have e1 : (e.ino == (j : Int) + 1) = false := by
      rw [beq_eq_false_iff_ne]
      intro e2
      apply h
      unfold inN
      simp only [Bool.and_eq_true, decide_eq_true_eq]
      omega
    rw [e1]
    cases bs[j]? <;> simp
theorem entsF_get {ns : List NodV} {j : Nat} (hj : j < ns.length) : ∀ (l : List EntV) (bs : List Bool), (l.foldl (entF ns) bs)[j]? = (bs[j]?).map (fun x => x || l.any (fun e => e.ino == (j : Int) + 1)) := by
  intro l
  induction l with
  | nil => intro bs; cases h : bs[j]? <;> simp [h]
  | cons e r ih =>
    intro bs
    rw [List.foldl_cons, ih, entF_get hj]
    cases bs[j]? <;> simp [Bool.or_assoc]
theorem wayF_get {ns : List NodV} {bs : List Bool} {y : WayV} {j : Nat} (hj : j < ns.length) (hy : 1 ≤ y.ino) : (wayF ns bs y)[j]? = (bs[j]?).map (fun x => x || (y.ino == (j : Int) + 1 || (nodAt ns y.ino).ents.any (fun e => e.ino == (j : Int) + 1))) := by
  unfold wayF
  rw [entsF_get hj, setB_get hy]
  cases bs[j]? <;> simp [Bool.or_assoc]
theorem waysF_get {ns : List NodV} {j : Nat} (hj : j < ns.length) : ∀ (l : List WayV) (_ : ∀ y ∈ l, 1 ≤ y.ino) (bs : List Bool), (l.foldl (wayF ns) bs)[j]? = (bs[j]?).map (fun x => x || reachW ns l ((j : Int) + 1)) := by
  intro l
  induction l with
  | nil => intro _ bs; cases h : bs[j]? <;> simp [h, reachW]
  | cons y r ih =>
    intro hy bs
    rw [List.foldl_cons, ih (fun z hz => hy z (List.mem_cons_of_mem _ hz)), wayF_get hj (hy y List.mem_cons_self)]
    cases bs[j]? <;> simp [Bool.or_assoc, reachW]
theorem reachL_get {ns : List NodV} {l : List WayV} (hok : OkW ns l) {j : Nat} (hj : j < ns.length) : (reachL ns l)[j]? = some (reachW ns l ((j : Int) + 1)) := by
  unfold reachL
  rw [waysF_get hj l (fun y hy => by have := isDir_in (hok.1 y hy); omega), List.getElem?_replicate, if_pos hj]
  simp
theorem cell_same {W W' : World} {b o : Nat} (h : W'.heap[b]? = W.heap[b]?) : W'.cell? ⟨b, o, none⟩ = W.cell? ⟨b, o, none⟩ := by
  unfold World.cell?
  simp only [h]
/-- A key put into a map, as the walk meets it. -/
theorem wpList_put {P : Program} {w w' : World} {ops : Array Oper} {rest : List Oper} {o : Oper} {a : Act} {Q : Exit → Act → World → Prop} (hgd : o.guard = none) (t : Nat) (x y z : Operand) (ho : o.op = .mapUpdate t x y z) (vx vy vz : Value) (hx : a.eval x = vx) (hy : a.eval y = vy) (hz : a.eval z = vz) (hr : (Instr.mapUpdate t vx vy vz).run P w = .ok () w') (hK : wpList P ops Q rest (a.put o.dst undef) w') : wpList P ops Q (o :: rest) a w := by
  refine wpList_plain hgd fun K hK' => ?_
  unfold Oper.wp execOp
  simp only [ho, Sem.run_bind, Sem.run_pure, Result.andThen_ok, hx, hy, hz, hr]
  exact hK' _ _ hK
/-- It returns a layer. -/
def LayRet (w : World) (ns : List NodV) (e : Ending) (w' : World) : Prop := ∃ A n c, e = .returned (.agg #[.slice A n c]) ∧ n ≤ c ∧ RdE nodEn w' (fun b => w.heap.size ≤ b ∧ b < w'.heap.size) A n ns ∧ Below w.heap.size w w'
set_option maxRecDepth 100000 in
theorem lay_agg : ∀ w, (isAgg 26).run Tryz.prog w = .ok true w := fun w => by kernel_rfl
set_option maxRecDepth 100000 in
theorem lay_size : ∀ w, (Go.sizeOf 26).run Tryz.prog w = .ok 1 w := fun w => by kernel_rfl
end Go.Proofs.YtnehkgbdppbhiaaGreat

/- The plain mathematics of sorted texts (layer 3): each once, rising byte by byte. Nothing here speaks of a program. -/
namespace Go.Proofs.YtnehkgbdppbhiaaGreat.Plain
/-- Is a text ahead of another one? -/
def lessS (a b : List UInt8) : Bool := Op.bytesLess a b
/-- How many texts are ahead of x. -/
def posS (x : List UInt8) (o : List (List UInt8)) : Nat := (o.takeWhile fun y => lessS y x).length
/-- x, laid at its place among sorted texts, if it is not there. -/
def insS (x : List UInt8) (o : List (List UInt8)) : List (List UInt8) := if o[posS x o]? = some x then o else o.take (posS x o) ++ x :: o.drop (posS x o)
def sortS (l : List (List UInt8)) : List (List UInt8) := l.foldl (fun o x => insS x o) []
theorem sortS_snoc (l : List (List UInt8)) (x : List UInt8) : sortS (l ++ [x]) = insS x (sortS l) := by simp [sortS, List.foldl_append]
theorem insS_length (x : List UInt8) (o : List (List UInt8)) : (insS x o).length ≤ o.length + 1 := by
  unfold insS
  split
  · omega
  · simp; omega
theorem sortS_length (l : List (List UInt8)) : (sortS l).length ≤ l.length := by
  suffices h : ∀ (l o : List (List UInt8)), (l.foldl (fun o x => insS x o) o).length ≤ o.length + l.length from by simpa [sortS] using h l []
  intro l
  induction l with
  | nil => intro o; simp
  | cons x r ih =>
    intro o
    rw [List.foldl_cons, List.length_cons]
    have := ih (insS x o)
    have := insS_length x o
    omega
theorem posS_of {x : List UInt8} {o : List (List UInt8)} {k : Nat} (hk : k ≤ o.length) (h1 : ∀ j, j < k → lessS (o.getD j []) x = true) (h2 : k < o.length → lessS (o.getD k []) x = false) : posS x o = k := by
  unfold posS
  induction o generalizing k with
  | nil => simp at hk; simp [hk]
  | cons y r ih =>
    cases k with
    | zero =>
      have h : lessS y x = false := h2 (by simp)
      rw [List.takeWhile_cons, h]
      rfl
    | succ k =>
      have h0 : lessS y x = true := h1 0 (by omega)
      rw [List.takeWhile_cons, h0]
      simp only [if_true, List.length_cons]
      congr 1
      exact ih (by simpa using hk) (fun j hj => h1 (j + 1) (by omega)) (fun h => h2 (by simpa using h))
/-- What stands in the row while it is moved: j places are as they were, and all behind them one further. -/
def gapS (o : List (List UInt8)) (j : Nat) : List (List UInt8) := o.take j ++ (o.getD j []) :: o.drop j
theorem gapS_end (o : List (List UInt8)) : gapS o o.length = o ++ [[]] := by simp [gapS, List.getD]
theorem gapS_length {o : List (List UInt8)} {j : Nat} (h : j ≤ o.length) : (gapS o j).length = o.length + 1 := by simp [gapS]; omega
theorem gapS_get {o : List (List UInt8)} {j i : Nat} (hi : i < j) (h : j ≤ o.length) : (gapS o j)[i]? = some (o[i]'(by omega)) := by
  unfold gapS
  rw [List.getElem?_append_left (by simp; omega), List.getElem?_take_of_lt hi, List.getElem?_eq_getElem (by omega)]
theorem gapS_step {o : List (List UInt8)} {j : Nat} (h : j < o.length) : (gapS o (j + 1)).set (j + 1) o[j] = gapS o j := by
  unfold gapS
  have hl : (o.take (j + 1)).length = j + 1 := by simp; omega
  rw [List.set_append_right _ _ (by omega), hl, Nat.sub_self, List.set_cons_zero, List.take_succ_eq_append_getElem h]
  have hg : o.getD j [] = o[j] := by simp [List.getD, h]
  rw [hg, List.append_assoc]
  congr 1
  rw [List.drop_eq_getElem_cons h]
  rfl
theorem gapS_set {o : List (List UInt8)} {j : Nat} (h : j ≤ o.length) (x : List UInt8) : (gapS o j).set j x = o.take j ++ x :: o.drop j := by
  unfold gapS
  have hl : (o.take j).length = j := by simp; omega
  rw [List.set_append_right _ _ (by omega), hl, Nat.sub_self, List.set_cons_zero]
end Go.Proofs.YtnehkgbdppbhiaaGreat.Plain

/- Contracts of slices.Equal, slices.IsSorted and cmp.Less at strings. -/
namespace Go.Proofs.YtnehkgbdppbhiaaGreat
open Go.RowKit Plain

/-- It returns this bool, and nothing that was there has turned. -/
def BRt (w : World) (b : Bool) (x : Ending) (w' : World) : Prop := x = .returned (.bool b) ∧ Below w.heap.size w w'
theorem BRt.of {w w' : World} {b c : Bool} (h : Below w.heap.size w w') (hb : b = c) : BRt w c (.returned (.bool b)) w' := by subst hb; exact ⟨rfl, h⟩

set_option maxHeartbeats 800000 in
theorem EqualS_any {A B : Option Addr} {n m c d : Nat} {l k : List (List UInt8)} {W1 W2 : Nat} (w : World) (ha : Rd st w W1 A n l) (hb : Rd st w W2 B m k) (hn : n ≤ 140737488355328) :
    Calls Tryz.prog 20 #[.slice A n c, .slice B m d] w (BRt w (l == k)) := by
  by_cases hnm : n = m
  case neg =>
    have hne : (l == k) = false := by
      simp only [beq_eq_false_iff_ne, ne_eq]
      intro e
      apply hnm
      rw [← ha.len, ← hb.len, e]
    have HNE := hide hne
    have hd : ((n : Int) != (m : Int)) = true := by simp; omega
    clear ha hb hne
    go_enter Tryz.func20, Tryz.ntmps20
    go_wp2
    go_ret
    exact BRt.of (below_self w) HNE.out.symm
  subst hnm
  obtain ⟨r, hr⟩ : ∃ r, (l == k) = r := ⟨_, rfl⟩
  rw [hr]
  have HR := hide hr
  have HA := hide ha
  have HB := hide hb
  clear hr ha hb
  have hd : ((n : Int) != (n : Int)) = false := by simp
  go_enter Tryz.func20, Tryz.ntmps20
  go_wp2
  go_loopw [13] (fun i wr => ∃ j q : Nat, j ≤ n ∧ i = .int .i64 j ∧ l.take j = k.take j ∧ wr = w.drewN q) (fun i _ => n - (intOf i).toNat)
  case atStart => exact ⟨0, 0, by omega, rfl, rfl, rfl⟩
  case round =>
    obtain ⟨j, q, hj, rfl, htake, rfl⟩ := hrel
    have HT := hide htake
    clear htake
    by_cases hlt : j < n
    · obtain ⟨b1, o1, rfl, _, hc1⟩ := HA.out.2 (by omega)
      obtain ⟨b2, o2, rfl, _, hc2⟩ := HB.out.2 (by omega)
      have hl1 : j < l.length := by rw [HA.out.len]; exact hlt
      have hl2 : j < k.length := by rw [HB.out.len]; exact hlt
      have hx1 := hc1 j l[j] (List.getElem?_eq_getElem hl1)
      have hx2 := hc2 j k[j] (List.getElem?_eq_getElem hl2)
      clear hc1 hc2
      obtain ⟨x, hx⟩ : ∃ x, x = l[j] := ⟨_, rfl⟩
      obtain ⟨y, hy⟩ : ∃ y, y = k[j] := ⟨_, rfl⟩
      rw [← hx] at hx1
      rw [← hy] at hx2
      unfold st at hx1 hx2
      by_cases hxy : x = y
      · have ht2 : l.take (j + 1) = k.take (j + 1) := by
          rw [List.take_succ_eq_append_getElem hl1, List.take_succ_eq_append_getElem hl2, HT.out, ← hx, ← hy, hxy]
        have HT2 := hide ht2
        have hne : (x == y) = true := by simp [hxy]
        clear hx hy ht2 hxy hl1 hl2
        go_wp2
        go_quiet (fail)
        go_wp2
        go_roundw
        case rel => exact ⟨j + 1, _, by omega, by go_num, HT2.out, rfl⟩
        case measure => simp [intOf]; omega
      · have hre : r = false := by
          rw [← HR.out]
          simp only [beq_eq_false_iff_ne, ne_eq]
          intro e
          apply hxy
          subst e
          rw [hx, hy]
        have hne : (x == y) = false := by simp [hxy]
        have HRE := hide hre
        clear hx hy hre hxy hl1 hl2
        go_wp2
        go_quiet (fail)
        go_wp2
        go_ret
        exact BRt.of (below_drewN (below_drewN (below_self w) _) _) HRE.out.symm
    · obtain rfl : j = n := by omega
      have hre : r = true := by
        rw [← HR.out]
        have e := HT.out
        rw [List.take_of_length_le (by rw [HA.out.len]; exact Nat.le_refl _), List.take_of_length_le (by rw [HB.out.len]; exact Nat.le_refl _)] at e
        simp [e]
      have HRE := hide hre
      clear hre
      go_wp2
      go_ret
      exact BRt.of (below_drewN (below_self w) _) HRE.out.symm
end Go.Proofs.YtnehkgbdppbhiaaGreat

/- walk: comparisons of lists, path.Join (layer 13). -/
namespace Go.Proofs.YtnehkgbdppbhiaaGreat
open Go.RowKit Go.Shelf Plain

theorem prw_agg : ∀ w, (isAgg 169).run Tryz.prog w = .ok true w := fun w => by kernel_rfl
theorem prw_size : ∀ w, (Go.sizeOf 169).run Tryz.prog w = .ok 2 w := fun w => by kernel_rfl
set_option maxRecDepth 100000 in
theorem neq_prw (a b : Int) (W : World) : (binOp .neq 169 (.agg #[.int .i64 a, .int .i64 b]) (.agg #[.int .i64 a, .int .i64 b])).run Tryz.prog W = .ok (.bool false) W := by
  obtain ⟨i, hi⟩ : ∃ i, Tryz.prog.info? 3 = some i := ⟨_, rfl⟩
  have hc : Tryz.prog.cellsOf 3 = 1 := by kernel_rfl
  have h : (Op.equalIn 10000 169 (.agg #[.int .i64 a, .int .i64 b]) (.agg #[.int .i64 a, .int .i64 b])).run Tryz.prog W = .ok true W := by
    rw [run_equalIn_array W 9999 _ _ Tryz.underlying169 hi, hc, show List.range 2 = [0, 1] from rfl]
    simp [Op.eqItems, go_sem]
  simp [go_sem, h]
set_option maxRecDepth 100000 in
set_option maxHeartbeats 1600000 in
theorem neq_way (a : Int × Int × List UInt8) (W : World) : (binOp .neq 61 (.agg #[.int .i64 a.1, .int .i64 a.2.1, .string ⟨a.2.2.toArray⟩]) (.agg #[.int .i64 a.1, .int .i64 a.2.1, .string ⟨a.2.2.toArray⟩])).run Tryz.prog W = .ok (.bool false) W := by
  simp [go_sem]
theorem RdE.cellsR {α : Type} {E : Enc α} {w : World} {D : Nat → Prop} {A : Option Addr} {n : Nat} {l : List α} (h : RdE E w D A n l) (hn : 0 < n) : ∃ b o, A = some ⟨b, o, none⟩ ∧ ∀ i x, l[i]? = some x → ∃ cs, E.R w D cs x ∧ ∀ j v, cs[j]? = some v → w.cell? ⟨b, o + i * E.k + j, none⟩ = some v := by
  obtain ⟨b, o, e, -, hc⟩ := h.2 hn
  refine ⟨b, o, e, fun i x hx => ?_⟩
  obtain ⟨cs, h1, h2⟩ := hc i x hx
  exact ⟨cs, h1, fun j v hv => by rw [Nat.add_assoc]; exact h2 j v hv⟩
theorem quietL {P : Program} {C : World → Prop} {o : Oper} {a : Act} {K : Act → Prop} (T : Nat) (x : Operand) (ho : o.op = .load T x) (p v : Value) (hx : a.eval x = p) (hl : ∀ w, C w → (Instr.loadAt T p).run P w = .ok v w) (hk : K (a.put o.dst v)) : o.quiet P a C K :=
  ⟨v, fun w hw => by
    unfold Oper.quietAt execOp
    simp only [ho, Sem.run_bind, Sem.run_pure, Result.andThen_ok, hx, hl w hw]
    exact ⟨rfl, rfl⟩, hk⟩
set_option maxHeartbeats 1600000 in
theorem EqWay_same {A B : Option Addr} {n m c d : Nat} {L : List (WayV)} {D D' : Nat → Prop} (w : World) (ha : RdE wayEn w D A n L) (hb : RdE wayEn w D' B m L) (hn : n ≤ 140737488355328) :
    Calls Tryz.prog 28 #[.slice A n c, .slice B m d] w (BoolB w true) := by
  obtain rfl : n = m := by rw [← ha.1, ← hb.1]
  have HA := hide ha
  have HB := hide hb
  clear ha hb
  have hd : ((n : Int) != (n : Int)) = false := by simp
  go_enter Tryz.func28, Tryz.ntmps28
  go_wp2
  go_loopw [13] (fun i wr => ∃ j q : Nat, j ≤ n ∧ i = .int .i64 j ∧ wr = w.drewN q) (fun i _ => n - (intOf i).toNat)
  case atStart => exact ⟨0, 0, by omega, rfl, rfl⟩
  case round =>
    obtain ⟨j, q, hj, rfl, rfl⟩ := hrel
    by_cases hlt : j < n
    · have hl1 : j < L.length := by rw [HA.out.1]; exact hlt
      obtain ⟨b1, o1, rfl, hc1⟩ := HA.out.cellsR (by omega)
      obtain ⟨b2, o2, rfl, hc2⟩ := HB.out.cellsR (by omega)
      obtain ⟨cs1, hcs1, hc1⟩ := hc1 j _ (List.getElem?_eq_getElem hl1)
      obtain ⟨cs2, hcs2, hc2⟩ := hc2 j _ (List.getElem?_eq_getElem hl1)
      obtain rfl : cs1 = wayC L[j] := hcs1
      obtain rfl : cs2 = wayC L[j] := hcs2
      generalize L[j] = y at hc1 hc2
      obtain ⟨yi, yu, yn⟩ := y
      have hL1 : ∀ q, (Instr.loadAt 61 (.pointer (some ⟨b1, o1 + j * 3, none⟩))).run Tryz.prog (w.drewN q) = .ok (.agg #[.int .i64 yi, .int .i64 yu, .string ⟨yn.toArray⟩]) (w.drewN q) := fun q => run_loadAt_cells (w := w.drewN q) way_agg way_size hc1 rfl
      have hL2 : ∀ q, (Instr.loadAt 61 (.pointer (some ⟨b2, o2 + j * 3, none⟩))).run Tryz.prog (w.drewN q) = .ok (.agg #[.int .i64 yi, .int .i64 yu, .string ⟨yn.toArray⟩]) (w.drewN q) := fun q => run_loadAt_cells (w := w.drewN q) way_agg way_size hc2 rfl
      have hne := fun W => neq_way (yi, yu, yn) W
      clear hc1 hc2 hl1
      go_wp2
      refine wp_region_quiet_lit (by kernel_rfl) (by kernel_rfl) ?_
      iterate 3 (quiet_step (fail))
      refine Go.BigFrame.wpQuiet_want rfl (fun K hK => ?_)
      refine quietL 61 (.tmp 18) rfl _ _ rfl (by rintro _ ⟨n', rfl⟩; rw [World.drewN_drewN]; exact hL1 _) (hK _ ?_)
      clear hK K
      iterate 3 (quiet_step (fail))
      refine Go.BigFrame.wpQuiet_want rfl (fun K hK => ?_)
      refine quietL 61 (.tmp 22) rfl _ _ rfl (by rintro _ ⟨n', rfl⟩; rw [World.drewN_drewN]; exact hL2 _) (hK _ ?_)
      clear hK K
      iterate 1 (quiet_step (fail))
      refine wpQuiet_nil ?_
      rintro _ ⟨nq, rfl⟩
      go_wp2
      go_roundw
      case rel => exact ⟨j + 1, _, by omega, by go_num, rfl⟩
      case measure => simp [intOf]; omega
    · obtain rfl : j = n := by omega
      go_wp2
      go_ret
      exact BoolB.of (below_drewN (below_self w) _)
set_option maxHeartbeats 400000 in
theorem PJoin_lib {A : Option Addr} {m c : Nat} {l : List (List UInt8)} (w : World) (ha : Rd st w w.heap.size A m l) (hm : m ≤ 1000000) (hmc : m ≤ c) (hjl : (Lib.join l [47]).length ≤ 140737488355327) :
    Calls Tryz.prog 43 #[.slice A m c] w fun e w' => e = .returned (.string ⟨(47 :: Lib.join l [47]).toArray⟩) ∧ Below w.heap.size w w' := by
  have hcon : ∀ w : World, Rd st w w.heap.size A m l → Calls Tryz.prog 85 #[.slice A m c, .string ⟨#[47]⟩] w fun e w' => e = .returned (.string ⟨(Lib.join l [47]).toArray⟩) ∧ Below w.heap.size w w' := by
    intro w ha
    by_cases h0 : m = 0
    · subst h0
      obtain rfl : l = [] := List.eq_nil_of_length_eq_zero ha.len
      refine (Tryz.strings_Join_none A c ⟨#[47]⟩ w).mono ?_
      rintro e w' ⟨rfl, rfl⟩
      exact ⟨rfl, below_self _⟩
    · obtain ⟨b, o, rfl, hb, hc⟩ := ha.2 (by omega)
      have hl := ha.len
      have e1 : (l.map fun x => (⟨x.toArray⟩ : ByteArray)).map (·.data.toList) = l := by rw [List.map_map]; exact List.map_id l
      have hlen : (l.map fun x => (⟨x.toArray⟩ : ByteArray)).length = m := by simp [hl]
      have h := Tryz.strings_Join b o c (l.map fun x => ⟨x.toArray⟩) ⟨#[47]⟩ w (fun j x hx => by
        rw [List.getElem?_map, Option.map_eq_some_iff] at hx
        obtain ⟨y, hy, rfl⟩ := hx
        exact hc j y hy) hb (by omega) (by omega) (by rw [e1]; show (Lib.join l [47]).length ≤ _; omega)
      rw [e1, hlen] at h
      exact h
  have HC := hide hcon
  have HA := hide ha
  have hadd := fun W => add_lists (P := Tryz.prog) (x := [47]) (y := Lib.join l [47]) (z := 47 :: Lib.join l [47]) (by simp; omega) rfl W
  clear hcon ha hjl
  go_enter Tryz.func43, Tryz.ntmps43
  go_wp2_with fail
  refine (HC.out _ HA.out).mono ?_
  rintro e w1 ⟨rfl, hbel⟩
  have HB := hide hbel
  clear hbel
  go_wp2_with fail
  go_ret
  exact ⟨rfl, HB.out⟩
end Go.Proofs.YtnehkgbdppbhiaaGreat

/- A region that draws its order, walked in the orders of a tree: what only reads or reckons is taken where it stands; where several may come up, each is one way. Checked over sets of bits (PlanN). Nothing here speaks of a program. -/
namespace Go.Proofs.YtnehkgbdppbhiaaGreat
open Go

/-- take: it reads or reckons. alt: it may come up here, then its tree; further ways. -/
inductive PT (α : Type) where
  | leaf : PT α
  | take : α → PT α → PT α
  | alt : α → PT α → PT α → PT α
  | stop : PT α
def PT.map {α β : Type} (f : α → β) : PT α → PT β
  | .leaf => .leaf
  | .take x t => .take (f x) (t.map f)
  | .alt x t u => .alt (f x) (t.map f) (u.map f)
  | .stop => .stop
def PT.depth {α : Type} : PT α → Nat
  | .leaf => 0
  | .take _ t => t.depth + 1
  | .alt _ t u => max (t.depth + 1) u.depth
  | .stop => 0
def PT.chain {α : Type} : PT α → List α
  | .alt x _ u => x :: u.chain
  | _ => []
def eqN : List Nat → List Nat → Bool
  | [], [] => true
  | x :: r, y :: q => Nat.beq x y && eqN r q
  | _, _ => false
mutual
def okT (md : Region.Mode) (ops : Array Oper) (ns : List Nat) (s : Nat) : PT Nat → Bool
  | .leaf => (readyN s ns 0).isEmpty
  | .take i t => hasN (readyN s ns 0) i && (freeN md ops s i ops.toList 0 && okT md ops ns (withN s i) t)
  | .alt i t u => eqN (readyN s ns 0) (i :: u.chain) && (okT md ops ns (withN s i) t && okC md ops ns s u)
  | .stop => false
def okC (md : Region.Mode) (ops : Array Oper) (ns : List Nat) (s : Nat) : PT Nat → Bool
  | .alt i t u => okT md ops ns (withN s i) t && okC md ops ns s u
  | .stop => true
  | .leaf => false
  | .take _ _ => false
end
theorem eqN_eq : ∀ (l k : List Nat), eqN l k = true → l = k
  | [], [], _ => rfl
  | x :: r, y :: q, h => by
    unfold eqN at h
    rw [Bool.and_eq_true] at h
    rw [Nat.eq_of_beq_eq_true h.1, eqN_eq r q h.2]
  | [], _ :: _, h => by cases h
  | _ :: _, [], h => by cases h

section
variable {P : Program} {ops : Array Oper} {Q : Exit → Act → World → Prop} {S : World → Prop}
def wpPT (P : Program) (ops : Array Oper) (Q : Exit → Act → World → Prop) (S : World → Prop) : PT (Option Oper) → Act → World → Prop
  | .leaf, a, w => Q .normal a w
  | .take (some o) t, a, w => ∃ v, YieldsIf P ops S o v a ∧ wpPT P ops Q S t (a.put o.dst v) w
  | .alt (some o) t u, a, w => (if Region.wanted o (yielded ops a.tmps) = true then Oper.wp P o a w (fun a' w' => S w' ∧ wpPT P ops Q S t a' w') Q else wpPT P ops Q S t (a.put o.dst undef) w) ∧ wpPT P ops Q S u a w
  | .stop, _, _ => True
  | _, _, _ => False
theorem wpAnyH_PT {md : Region.Mode} (hs : Region.noSelect ops = true) (hQ : ∀ c a d v w, Q (.panic c) (Act.put a d v) w → Q (.panic c) a w) (t : PT Nat) :
    ∀ (fuel s : Nat) (listed : Array Bool) (a : Act) (w : World), RelN ops listed s → S w → wpPT P ops Q S (t.map fun i => ops[i]?) a w → t.depth ≤ fuel →
      (okT md ops (needsN md ops) s t = true → wpAnyH P md ops Q S fuel listed a w) ∧
      (okC md ops (needsN md ops) s t = true → ∀ k, fuel = k + 1 → ∀ x ∈ t.chain, x < ops.size ∧ wpOp P ops Q x (fun a' w' => S w' ∧ wpAnyH P md ops Q S k (listed.setIfInBounds x true) a' w') a w) := by
  have hlen : (needsN md ops).length = ops.size := by simp [needsN]
  induction t with
  | leaf =>
    intro fuel s listed a w hr hS h _
    refine ⟨fun hok => ?_, fun hok => by simp [okC] at hok⟩
    unfold okT at hok
    have e := ready_same (md := md) hr
    rw [List.isEmpty_iff] at hok
    exact wpAnyH_done (by rw [e, hok]) h fuel
  | take i t ih =>
    intro fuel s listed a w hr hS h hl
    refine ⟨fun hok => ?_, fun hok => by simp [okC] at hok⟩
    obtain ⟨fuel, rfl⟩ : ∃ k, fuel = k + 1 := ⟨fuel - 1, by simp [PT.depth] at hl; omega⟩
    have hl' : t.depth ≤ fuel := by simpa [PT.depth] using hl
    unfold okT at hok
    rw [Bool.and_eq_true, Bool.and_eq_true] at hok
    obtain ⟨h1, h2, h3⟩ := hok
    have hmem := hasN_mem _ _ h1
    have hi : i < ops.size := by rw [← hlen]; exact readyN_lt hmem
    have ho : ops[i]? = some ops[i] := Array.getElem?_eq_getElem hi
    simp only [PT.map, ho] at h
    obtain ⟨v, hy, hw⟩ := h
    exact wpAnyH_take ho hs (free_same hr hi h2) (by rw [ready_same hr]; simpa using hmem) (fun c a w => hQ c a _ _ w) hy hS ((ih fuel _ _ _ w (hr.set hi) hS hw hl').1 h3)
  | alt i t u iht ihu =>
    intro fuel s listed a w hr hS h hl
    have hl1 : t.depth + 1 ≤ fuel := by simp [PT.depth] at hl; omega
    have hl2 : u.depth ≤ fuel := by simp [PT.depth] at hl; omega
    have main : okT md ops (needsN md ops) (withN s i) t = true → okC md ops (needsN md ops) s u = true → i < ops.size → ∀ k, fuel = k + 1 → ∀ x ∈ i :: u.chain, x < ops.size ∧ wpOp P ops Q x (fun a' w' => S w' ∧ wpAnyH P md ops Q S k (listed.setIfInBounds x true) a' w') a w := by
      intro h2 h3 hi k hk x hx
      have ho : ops[i]? = some ops[i] := Array.getElem?_eq_getElem hi
      simp only [PT.map, ho] at h
      unfold wpPT at h
      obtain ⟨ha, hu⟩ := h
      rcases List.mem_cons.1 hx with rfl | hx
      · refine ⟨hi, ?_⟩
        unfold wpOp
        simp only [ho]
        split
        · rename_i hw
          rw [if_pos hw] at ha
          exact .inl (Oper.wp_mono (fun a' w' hk' => ⟨hk'.1, (iht k _ _ _ _ (hr.set hi) hk'.1 hk'.2 (by omega)).1 h2⟩) ha)
        · rename_i hw
          rw [if_neg hw] at ha
          exact ⟨hS, (iht k _ _ _ _ (hr.set hi) hS ha (by omega)).1 h2⟩
      · exact (ihu fuel s listed a w hr hS hu hl2).2 h3 k hk x hx
    have lt_of : okT md ops (needsN md ops) (withN s i) t = true → wpPT P ops Q S ((PT.alt i t u).map fun i => ops[i]?) a w → i < ops.size := by
      intro _ hw
      rcases Nat.lt_or_ge i ops.size with hi | hi
      · exact hi
      · simp only [PT.map, Array.getElem?_eq_none hi] at hw
        unfold wpPT at hw
        exact absurd hw (by simp)
    refine ⟨fun hok => ?_, fun hok k hk x hx => ?_⟩
    · unfold okT at hok
      rw [Bool.and_eq_true, Bool.and_eq_true] at hok
      obtain ⟨h1, h2, h3⟩ := hok
      have e := eqN_eq _ _ h1
      obtain ⟨fuel, rfl⟩ : ∃ k, fuel = k + 1 := ⟨fuel - 1, by omega⟩
      have hrd := ready_same (md := md) hr
      rw [e] at hrd
      refine wpAnyH_all hrd (by simp) (fun x hx => ?_)
      exact (main h2 h3 (lt_of h2 h) fuel rfl x hx).2
    · unfold okC at hok
      rw [Bool.and_eq_true] at hok
      exact main hok.1 hok.2 (lt_of hok.1 h) k hk x hx
  | stop =>
    intro fuel s listed a w hr hS h _
    exact ⟨fun hok => by simp [okT] at hok, fun _ k _ x hx => by simp [PT.chain] at hx⟩

theorem wpPT_leaf {a : Act} {w : World} (h : Q .normal a w) : wpPT P ops Q S .leaf a w := h
theorem wpPT_take {o : Oper} {t : PT (Option Oper)} {a : Act} {w : World} {v : Value} (hw : Region.wanted o (yielded ops a.tmps) = true) (hv : ∀ w, S w → (execOp a.eval o).run P w = .ok (.value v) w)
    (h : wpPT P ops Q S t (a.put o.dst v) w) : wpPT P ops Q S (.take (some o) t) a w := ⟨v, .inl ⟨hw, hv⟩, h⟩
theorem wpPT_skip {o : Oper} {t : PT (Option Oper)} {a : Act} {w : World} (hw : Region.wanted o (yielded ops a.tmps) = false)
    (h : wpPT P ops Q S t (a.put o.dst undef) w) : wpPT P ops Q S (.take (some o) t) a w := ⟨undef, .inr ⟨hw, rfl⟩, h⟩
theorem wpPT_stop {a : Act} {w : World} : wpPT P ops Q S .stop a w := trivial
theorem wpPT_alt {o : Oper} {t u : PT (Option Oper)} {a : Act} {w : World} (hw : Region.wanted o (yielded ops a.tmps) = true)
    (h : ∀ K' : Act → World → Prop, Shut (∀ a' w', S w' → (S w' → wpPT P ops Q S t a' w') → K' a' w') → Oper.wp P o a w K' Q) (hu : wpPT P ops Q S u a w) : wpPT P ops Q S (.alt (some o) t u) a w := by
  unfold wpPT
  rw [if_pos hw]
  exact ⟨h _ (fun a' w' hS hr => ⟨hS, hr hS⟩), hu⟩
theorem wpPT_altskip {o : Oper} {t u : PT (Option Oper)} {a : Act} {w : World} (hw : Region.wanted o (yielded ops a.tmps) = false)
    (h : wpPT P ops Q S t (a.put o.dst undef) w) (hu : wpPT P ops Q S u a w) : wpPT P ops Q S (.alt (some o) t u) a w := by
  unfold wpPT
  rw [if_neg (by rw [hw]; simp)]
  exact ⟨h, hu⟩
/-- A drawn region in the orders of a tree. -/
theorem wp_region_G {id : Nat} {a : Act} {w : World} (S : World → Prop) (t : PT Nat) {l : PT (Option Oper)} (hm : P.follows .mixedOrders = true) (hok : okT .any ops (needsN .any ops) 0 t = true) (hn : Region.noSelect ops = true) (hlen : decide (t.depth ≤ ops.size) = true)
    (hl : t.map (fun i => ops[i]?) = l) (hQ : ∀ c a k v w, Q (.panic c) (Act.put a (some k) v) w → Q (.panic c) a w) (hS : S w.drew) (h : S w.drew → wpPT P ops Q S l a w.drew) : (Code.region id ops true).wp P Q a w := by
  subst hl
  exact wp_region_held hm ((wpAnyH_PT hn (panic_put hQ) t _ _ _ _ _ (relN_zero ops) hS (h hS) (of_decide_eq_true hlen)).1 hok)
end
end Go.Proofs.YtnehkgbdppbhiaaGreat

/- walk: the law's awake (layer 13). -/
namespace Go.Proofs.YtnehkgbdppbhiaaGreat
open Go.RowKit Go.Shelf Plain

def eA : List EntV := [⟨0, 3, [120]⟩, ⟨1, 1, [121]⟩]
def eB : List EntV := [⟨0, 2, [122]⟩]
def nA : NodV := { nod0 with k := 1, ents := eA }
def nB : NodV := { nod0 with k := 2 }
def nC : NodV := { nod0 with k := 1, ents := eB }
def nsA : List NodV := [nA, nB, nC]
def wysA : List WayV := [⟨1, -1, []⟩, ⟨3, 0, [120]⟩]
def prA : List NodV := [{ nod0 with k := 1, ents := [⟨0, 3, [120]⟩] }, nB, nC]
theorem aw_walk : walkW nsA [1] = (wysA, [(1, 1)]) := by decide +kernel
theorem aw_dirs : (walkW nsA [1]).1 = wysA := by rw [aw_walk]
theorem aw_prune : pruneW nsA (walkW nsA [1]) = prA := by decide +kernel
theorem aw_twice : twiceS nsA (walkW nsA [1]) = [(1, 1)] := by decide +kernel
theorem aw_reach : reachL nsA (walkW nsA [1]).1 = [true, true, true] := by decide +kernel
theorem aw_path : pathS wysA 1 = [[120]] := by decide +kernel
theorem aw_join : (47 :: Lib.join [[120]] [47] : List UInt8) = [47, 120] := by decide +kernel
theorem aw_many : Many nsA := by unfold Many; decide +kernel
theorem aw_data : ∀ x ∈ nsA, x.data.length ≤ 1000 := by decide +kernel
theorem int_one (W : World) : RdE Enc.int (W.alloc (.cells #[.int .i64 1] 3)) (Under (W.alloc (.cells #[.int .i64 1] 3)).heap.size) (some ⟨W.heap.size, 0, none⟩) 1 [1] := by
  refine ⟨rfl, fun _ => ⟨_, _, rfl, by unfold Under; simp, fun i x hx => ⟨[.int .i64 x], rfl, fun j v hv => ?_⟩⟩⟩
  have hi : i = 0 := by have := (List.getElem?_eq_some_iff.1 hx).1; simpa using this
  have hj : j = 0 := by have := (List.getElem?_eq_some_iff.1 hv).1; simpa using this
  subst hi hj
  have h := (RowL.new W 3 [.int .i64 1]).cell 0
  simp only [List.getElem?_cons_zero, Option.some.injEq] at hx hv
  subst hx hv
  exact h
theorem pr_one (W : World) : RdE prEn (W.alloc (.cells #[.int .i64 1, .int .i64 1] 169)) (Under (W.alloc (.cells #[.int .i64 1, .int .i64 1] 169)).heap.size) (some ⟨W.heap.size, 0, none⟩) 1 [(1, 1)] := by
  refine ⟨rfl, fun _ => ⟨_, _, rfl, by unfold Under; simp, fun i x hx => ⟨prC x, rfl, fun j v hv => ?_⟩⟩⟩
  have hi : i = 0 := by have := (List.getElem?_eq_some_iff.1 hx).1; simpa using this
  subst hi
  cases hx
  have h := (RowL.new W 169 (prC (1, 1))).cell (0 + (0 * prEn.k + j))
  refine Eq.trans h ?_
  rw [show 0 + (0 * prEn.k + j) = j from by omega]
  exact hv
/-- It reads so, and lies not in that block. -/
def RdN {α : Type} (E : Enc α) (W : World) (g : Nat) (A : Option Addr) (n : Nat) (l : List α) : Prop := RdE E W (fun b => b < W.heap.size ∧ b ≠ g) A n l
section
variable {α : Type} {E : Enc α} {W W' : World} {g n : Nat} {A : Option Addr} {l : List α}
theorem RdN.on (h : RdN E W g A n l) (hb : Below W.heap.size W W') : RdN E W' g A n l := RdE.mono h (fun _ hb' => hb.block _ hb'.1) (fun _ hb' => ⟨Nat.lt_of_lt_of_le hb'.1 hb.size, hb'.2⟩)
theorem RdN.of_under (h : RdE E W (Under W.heap.size) A n l) (o : Obj) : RdN E (W.alloc o) W.heap.size A n l := RdE.mono h (fun _ hb => (below_new (below_self W) o).block _ hb) (fun b hb => ⟨by have : b < W.heap.size := hb; simp; omega, by have : b < W.heap.size := hb; omega⟩)
theorem RdN.of_fresh {w0 : Nat} (h : RdE E W (fun b => w0 ≤ b ∧ b < W.heap.size) A n l) (hg : g < w0) : RdN E W g A n l := RdE.mono h (fun _ _ => rfl) (fun _ hb => ⟨hb.2, by omega⟩)
theorem RdN.grown (h : RdN E W g A n l) (hg : W.grownBy W' (some g)) : RdE E W' (Under W'.heap.size) A n l := RdE.mono h (fun _ hb => hg.block _ hb.1 (fun e => hb.2 (Option.some.inj e))) (fun _ hb => Nat.lt_of_lt_of_le hb.1 hg.size)
end
theorem ent_row {W : World} {g t : Nat} {l : List EntV} {D : Nat → Prop} (h : RowL W g t (flatE l)) (hD : D g) : RdE entEn W D (some ⟨g, 0, none⟩) l.length l := by
  refine ⟨rfl, fun _ => ⟨g, 0, rfl, hD, fun i x hx => ⟨cellsE x, ⟨[_], [_, _], rfl, rfl, [_], [_], rfl, rfl, rfl⟩, fun j v hv => ?_⟩⟩⟩
  have hj : j < 3 := by have := (List.getElem?_eq_some_iff.1 hv).1; simpa [cellsE] using this
  rw [Nat.zero_add, h.cell]
  have := flat_get (k := 3) (css := l.map cellsE) (fun cs hc => by obtain ⟨z, _, rfl⟩ := List.mem_map.1 hc; rfl) (i := i) (j := j) (cs := cellsE x) (by rw [List.getElem?_map, hx]; rfl) hj
  rw [show flatE l = (l.map cellsE).flatten from by simp [flatE, List.flatMap]]
  exact this.trans hv
set_option maxRecDepth 100000 in
theorem eq_wayA (W : World) : (binOp .eql 61 (.agg #[.int .i64 3, .int .i64 0, .string ⟨#[120]⟩]) (.agg #[.int .i64 3, .int .i64 0, .string ⟨#[120]⟩])).run Tryz.prog W = .ok (.bool true) W := by
  simp [go_sem]
def LitF (w W : World) : Prop := RdE nodEn W (Under W.heap.size) (some ⟨w.heap.size + 1 + 1, 0, none⟩) 3 nsA ∧ RowL W (w.heap.size + 1 + 1 + 1) 26 [.slice (some ⟨w.heap.size + 1 + 1, 0, none⟩) 3 3] ∧ Below w.heap.size w W
def cssA (h : Nat) : List (List Value) := [nodC nA (.slice none 0 0) (.slice (some ⟨h, 0, none⟩) 2 2), nodC nB (.slice none 0 0) (.slice none 0 0), nodC nC (.slice none 0 0) (.slice (some ⟨h + 1, 0, none⟩) 1 1)]
theorem lit13 (w : World) : LitF w ((((w.alloc (.cells (flatE eA).toArray 49)).alloc (.cells (flatE eB).toArray 49)).alloc (.cells (cssA w.heap.size).flatten.toArray 71)).alloc (.cells [Value.slice (some ⟨w.heap.size + 1 + 1, 0, none⟩) 3 3].toArray 26)) := by
  obtain ⟨W1, h1⟩ : ∃ W1, w.alloc (.cells (flatE eA).toArray 49) = W1 := ⟨_, rfl⟩
  have r1 := RowL.new w 49 (flatE eA)
  have b1 := below_new (below_self w) (.cells (flatE eA).toArray 49)
  have s1 : (w.alloc (.cells (flatE eA).toArray 49)).heap.size = w.heap.size + 1 := by simp
  rw [h1] at r1 b1 s1 ⊢
  obtain ⟨W2, h2⟩ : ∃ W2, W1.alloc (.cells (flatE eB).toArray 49) = W2 := ⟨_, rfl⟩
  have r2 := RowL.new W1 49 (flatE eB)
  have b2 := below_new (below_self W1) (.cells (flatE eB).toArray 49)
  have s2 : (W1.alloc (.cells (flatE eB).toArray 49)).heap.size = W1.heap.size + 1 := by simp
  rw [h2] at r2 b2 s2 ⊢
  obtain ⟨W3, h3⟩ : ∃ W3, W2.alloc (.cells (cssA w.heap.size).flatten.toArray 71) = W3 := ⟨_, rfl⟩
  have r3 := RowL.new W2 71 (cssA w.heap.size).flatten
  have b3 := below_new (below_self W2) (.cells (cssA w.heap.size).flatten.toArray 71)
  have s3 : (W2.alloc (.cells (cssA w.heap.size).flatten.toArray 71)).heap.size = W2.heap.size + 1 := by simp
  rw [h3] at r3 b3 s3 ⊢
  have r4 := RowL.new W3 26 [Value.slice (some ⟨w.heap.size + 1 + 1, 0, none⟩) 3 3]
  have b4 := below_new (below_self W3) (.cells [Value.slice (some ⟨w.heap.size + 1 + 1, 0, none⟩) 3 3].toArray 26)
  have R1 := ((r1.on b2).on b3).on b4
  have R2 := (r2.on b3).on b4
  have R3 := r3.on b4
  rw [s1] at R2
  rw [s2, s1] at R3
  rw [s3, s2, s1] at r4
  have hs4 : (W3.alloc (.cells [Value.slice (some ⟨w.heap.size + 1 + 1, 0, none⟩) 3 3].toArray 26)).heap.size = w.heap.size + 4 := by simp; omega
  refine ⟨?_, r4, below_step (below_step (below_step b1 b2) b3) b4⟩
  have hN : NodesAt 0 (w.heap.size + 1 + 1) nsA (W3.alloc (.cells [Value.slice (some ⟨w.heap.size + 1 + 1, 0, none⟩) 3 3].toArray 26)) := by
    refine ⟨cssA w.heap.size, R3, rfl, fun i cs x hc hx => ?_⟩
    have hi : i < 3 := (List.getElem?_eq_some_iff.1 hx).1
    obtain rfl | rfl | rfl : i = 0 ∨ i = 1 ∨ i = 2 := by omega
    · cases hc
      cases hx
      exact ⟨none, 0, 0, _, 2, 2, rfl, Nat.le_refl _, RdE.none_ _ _ _ _, Nat.le_refl _, ent_row R1 ⟨Nat.zero_le _, by omega, by omega⟩⟩
    · cases hc
      cases hx
      exact ⟨none, 0, 0, none, 0, 0, rfl, Nat.le_refl _, RdE.none_ _ _ _ _, Nat.le_refl _, RdE.none_ _ _ _ _⟩
    · cases hc
      cases hx
      exact ⟨none, 0, 0, _, 1, 1, rfl, Nat.le_refl _, RdE.none_ _ _ _ _, Nat.le_refl _, ent_row R2 ⟨Nat.zero_le _, by omega, by omega⟩⟩
  exact (hN.rd (n := 3) (Nat.zero_le _) rfl).mono (fun _ _ => rfl) (fun b hb => hb.2)
end Go.Proofs.YtnehkgbdppbhiaaGreat

/- plain.Branch, and what it calls. -/
namespace Go.Proofs.YtnehkgbdppbhiaaGreat
open Go.RowKit Go.Shelf Plain

/-- Slots rise, and are few. -/
def RiseE (l : List EntV) (k : Nat) : Prop := ∀ i e, i < k → l[i]? = some e → 0 ≤ e.slot ∧ e.slot < 16 ∧ ∀ p, 0 < i → l[i - 1]? = some p → p.slot < e.slot
/-- A node that may be, and is small. -/
def PlainN (x : NodV) : Prop := RiseE x.ents x.ents.length ∧ (0 ≤ x.k ∧ x.k ≤ 4) ∧ (0 ≤ x.att.h ∧ x.att.h ≤ 31) ∧ x.data.length ≤ 300 ∧ x.ents.length ≤ 16 ∧ x.att.r.length ≤ 40 ∧ ∀ e ∈ x.ents, nameB e.name = true
theorem RRight_all (l : List UInt8) (w : World) : Calls Tryz.prog 105 #[.string ⟨l.toArray⟩] w fun e w' => e = .returned (.bool (nameB l)) ∧ w = w' := by
  by_cases hl : l.length ≤ 12
  · exact RNRight_any l w (by omega)
  · have hr : nameB l = false := by
      have : decide (1 ≤ l.length ∧ l.length ≤ 12) = false := by simp; omega
      simp [nameB, this]
    rw [hr]
    clear hr
    have d1 : decide ((l.length : Int) < 1) = false := by simp; omega
    have d2 : decide ((12 : Int) < (l.length : Int)) = true := by simp; omega
    go_enter Tryz.func105, Tryz.ntmps105
    go_wp2
    go_ret
    exact ⟨rfl, rfl⟩
theorem rise_succ {l : List EntV} {j : Nat} {e : EntV} (h : RiseE l j) (he : l[j]? = some e) (h0 : 0 ≤ e.slot) (h1 : e.slot < 16) (h2 : ∀ p, 0 < j → l[j - 1]? = some p → p.slot < e.slot) : RiseE l (j + 1) := by
  intro i x hi hx
  by_cases hij : i = j
  · subst hij
    rw [he] at hx
    cases hx
    exact ⟨h0, h1, h2⟩
  · exact h i x (by omega) hx
set_option maxRecDepth 100000 in
theorem odd_any (x : EntV) (w : World) : Calls Tryz.prog 123 #[.agg (cellsE x).toArray] w (fun e w' => ∃ p : Bool, e = .returned (.bool p) ∧ Below w.heap.size w w' ∧ (p = false → nameB x.name = true)) := by
  have r := RowL.new w 49 (cellsE x)
  have hb := below_new (below_self w) (.cells (cellsE x).toArray 49)
  have q : (w.alloc (.cells (cellsE x).toArray 49)).cell? ⟨w.heap.size, 2, none⟩ = some (.string ⟨x.name.toArray⟩) := r.cell 2
  have HB := hide hb
  clear r hb
  go_enter Tryz.func123, Tryz.ntmps123
  go_wp2_with (go_at_call 105; refine (RRight_all x.name _).mono ?_; rintro e w3 ⟨rfl, rfl⟩)
  go_ret
  exact ⟨_, rfl, HB.out, fun h => by simpa using h⟩
set_option maxRecDepth 100000 in
set_option maxHeartbeats 1600000 in
theorem EntIdx_any {A : Option Addr} {n c : Nat} {l : List EntV} (w : World) (h : RdE entEn w (Under w.heap.size) A n l) (hm : l.length ≤ 9223372036854775807) :
    Calls Tryz.prog 76 #[.slice A n c, .func (.func 123) #[] #[]] w (fun e w' => ∃ r : Int, e = .returned (.int .i64 r) ∧ Below w.heap.size w w' ∧ (r < 0 → ∀ x ∈ l, nameB x.name = true)) := by
  have H := hide h
  have hn := h.1
  clear h
  go_enter Tryz.func76, Tryz.ntmps76
  go_wp2
  go_loopw [8] (fun iv wr => ∃ j : Nat, j ≤ n ∧ iv = .int .i64 j ∧ Below w.heap.size w wr ∧ ∀ i x, i < j → l[i]? = some x → nameB x.name = true) (fun iv _ => n - (intOf iv).toNat)
  case atStart => exact ⟨0, by omega, rfl, below_self _, fun i x hi => by omega⟩
  case round =>
    obtain ⟨j, hj, rfl, hbr, hall⟩ := hrel
    have HBR := hide hbr
    have HALL := hide hall
    clear hbr hall
    by_cases hlt : j < n
    · obtain ⟨x, hx⟩ : ∃ x, l[j]? = some x := ⟨_, List.getElem?_eq_getElem (by omega)⟩
      obtain ⟨b, o, rfl, -, hc⟩ := ent_get (H.out.under HBR.out (Nat.le_refl _)) hx
      have HC := hide hc
      clear hc
      have HX := hide hx
      clear hx
      go_wp2_with (refine wpList_loadX rfl 49 (.tmp 14) rfl 3 entw_agg entw_size b (o + j * 3) rfl (cellsE x) HC.out rfl ?_)
      refine (odd_any x wr).mono ?_
      rintro e w3 ⟨p, rfl, hb3, hp⟩
      have HP := hide hp
      have HB3 := hide (below_step HBR.out hb3)
      clear hp hb3
      cases p with
      | true =>
        go_wp2
        go_ret
        exact ⟨(j : Int), rfl, HB3.out, fun h => by omega⟩
      | false =>
        go_wp2
        go_roundw
        case rel => exact ⟨j + 1, by omega, by go_num, HB3.out, fun i y hi hy => by
          by_cases e : i = j
          · subst e
            have := HX.out.symm.trans hy
            cases this
            exact HP.out (by first | rfl | trivial)
          · exact HALL.out i y (by omega) hy⟩
        case measure => simp [intOf]; omega
    · obtain rfl : j = n := by omega
      go_wp2
      go_ret
      exact ⟨-1, rfl, HBR.out, fun _ x hx => by
        obtain ⟨i, hi, rfl⟩ := List.mem_iff_getElem.1 hx
        exact HALL.out i _ (by omega) (List.getElem?_eq_getElem hi)⟩
set_option maxRecDepth 100000 in
theorem EntHas_any {A : Option Addr} {n c : Nat} {l : List EntV} (w : World) (h : RdE entEn w (Under w.heap.size) A n l) (hm : l.length ≤ 9223372036854775807) :
    Calls Tryz.prog 34 #[.slice A n c, .func (.func 123) #[] #[]] w (fun e w' => ∃ r : Bool, e = .returned (.bool r) ∧ Below w.heap.size w w' ∧ (r = false → ∀ x ∈ l, nameB x.name = true)) := by
  have H := hide h
  clear h
  go_enter Tryz.func34, Tryz.ntmps34
  go_wp2_with (go_at_call 76; refine (EntIdx_any w H.out hm).mono ?_; rintro e w3 ⟨r, rfl, hb3, hp⟩; have HP := hide hp; have HB3 := hide hb3; clear hp hb3)
  go_ret
  exact ⟨_, rfl, HB3.out, fun h => HP.out (by simpa using h)⟩
set_option maxRecDepth 100000 in
set_option maxHeartbeats 16000000 in
theorem PNode_any {D C : Option Addr} {n c m d : Nat} {x : NodV} (w : World) (hD : x.data.length = n) (hC : RdE entEn w (Under w.heap.size) C m x.ents) (hm : m ≤ 9223372036854775807) :
    Calls Tryz.prog 91 #[.agg (nodC x (.slice D n c) (.slice C m d)).toArray] w (fun e w' => ∃ p : Bool, e = .returned (.bool p) ∧ Below w.heap.size w w' ∧ (p = true → PlainN x)) := by
  have hb := below_new (below_self w) (.cells (nodC x (.slice D n c) (.slice C m d)).toArray 71)
  obtain ⟨W1, hW1⟩ : ∃ W1, w.alloc (.cells (nodC x (.slice D n c) (.slice C m d)).toArray 71) = W1 := ⟨_, rfl⟩
  have r := RowL.new w 71 (nodC x (.slice D n c) (.slice C m d))
  rw [hW1] at hb r
  have hW1' : w.alloc (.cells #[.int .i64 x.k, .int .i64 x.p, .int .i64 x.n, .int .i64 x.g, .slice D n c, .slice C m d, .int .i64 x.att.h, .int .i64 x.att.o, .string ⟨x.att.r.toArray⟩, .int .i64 x.att.l, .int .i64 x.att.i, .int .i64 x.att.g, .int .i64 x.att.s] 71) = W1 := hW1
  have q5 : W1.cell? ⟨w.heap.size, 5, none⟩ = some (.slice C m d) := r.cell 5
  have R := hide r
  have HB := hide hb
  have HC := hide hC
  have HD := hide hD
  have hml := hC.1
  unfold nodC
  clear r hb hC hD hW1
  go_enter Tryz.func91, Tryz.ntmps91
  go_wp2
  clear hW1' q5
  go_loopw [8] (fun iv wr => ∃ j : Nat, j ≤ m ∧ iv = .int .i64 j ∧ Below W1.heap.size W1 wr ∧ RiseE x.ents j) (fun iv _ => m - (intOf iv).toNat)
  case atStart => exact ⟨0, by omega, rfl, below_self _, fun i e hi => by omega⟩
  case round =>
    obtain ⟨j, hj, rfl, hbr, hall⟩ := hrel
    have HBR := hide hbr
    have HALL := hide hall
    have HBW := hide (HB.out.trans (hbr.mono HB.out.size))
    have hbsz := HBW.out.size
    have hgl := (R.out.on hbr).lt
    clear hbr hall
    by_cases hlt : j < m
    · obtain ⟨e, he⟩ : ∃ e, x.ents[j]? = some e := ⟨_, List.getElem?_eq_getElem (by omega)⟩
      obtain ⟨b, o, hCe, -, hc⟩ := ent_get (HC.out.under HBW.out (Nat.le_refl _)) he
      have HCC := hide (fun j v hv => show wr.cell? ⟨b, o + _ * 3 + j, none⟩ = some v from hc j v hv)
      have HE := hide he
      have HP0 : Hid (∀ p, x.ents[j - 1]? = some p → wr.cell? ⟨b, o + (j - 1) * 3, none⟩ = some (.int .i64 p.slot)) := hide (fun p hp => by
        obtain ⟨b', o', e', -, hc'⟩ := ent_get (HC.out.under HBW.out (Nat.le_refl _)) hp
        rw [hCe] at e'
        cases e'
        exact hc' 0 _ rfl)
      have HZ := hide (RowL.new wr 49 [.int .i64 0, .int .i64 0, .string ⟨#[]⟩])
      have HCN := hide (HC.out.under HBW.out (Nat.le_refl _))
      subst hCe
      clear hc he
      go_wp2_with (first | (refine wpList_loadX rfl 49 (.tmp 11) rfl 3 entw_agg entw_size b (o + j * 3) rfl (cellsE e) HCC.out rfl ?_) | (refine wpList_storeW rfl 49 (.tmp 4) (.tmp 12) rfl 3 entw_size wr.heap.size 49 rfl [.int .i64 0, .int .i64 0, .string ⟨#[]⟩] (cellsE e) rfl HZ.out rfl rfl (cellsE_one e) ?_; intro w3 hr3 hg3 hs3; have HB3 := hide (below_stored' hg3); have HR3 := hide hr3; clear hr3 hg3 hs3))
      simp only [Act.put]
      have qs : w3.cell? ⟨wr.heap.size, 0, none⟩ = some (.int .i64 e.slot) := HR3.out.cell 0
      have hb3 := HBR.out.trans (HB3.out.mono HBR.out.size)
      have hbe : b < wr.heap.size := by have h5 := HC.out.2 (by omega); obtain ⟨b5, o5, e5, hlt5, -⟩ := h5; cases e5; have : b < w.heap.size := hlt5; omega
      have qn : w3.cell? ⟨w.heap.size, 5, none⟩ = some (.slice (some ⟨b, o, none⟩) m d) := (R.out.on hb3).cell 5
      have HB3w := hide hb3
      clear hb3
      clear HCC HCN HBW HZ HC
      by_cases h0 : e.slot < 0
      · have d0 : decide (e.slot < 0) = true := by simpa using h0
        go_quiet (fail)
        go_wp2
        go_ret
        first | exact ⟨false, rfl, (HB.out.trans ((below_drewN HB3w.out _).mono HB.out.size)), fun h => by cases h⟩ | exact .inl ⟨rfl, (HB.out.trans ((below_drewN HB3w.out _).mono HB.out.size))⟩
      have d0 : decide (e.slot < 0) = false := by simpa using h0
      by_cases h1 : 16 ≤ e.slot
      · have d1 : decide (16 ≤ e.slot) = true := by simpa using h1
        go_quiet (fail)
        go_wp2
        go_ret
        first | exact ⟨false, rfl, (HB.out.trans ((below_drewN HB3w.out _).mono HB.out.size)), fun h => by cases h⟩ | exact .inl ⟨rfl, (HB.out.trans ((below_drewN HB3w.out _).mono HB.out.size))⟩
      have d1 : decide (16 ≤ e.slot) = false := by simpa using h1
      by_cases h2 : j = 0
      · have d2 : decide (0 < (j : Int)) = false := by simp; omega
        have d2b : decide (0 < j) = false := by simp; omega
        have HRS := hide (rise_succ HALL.out HE.out (by omega) (by omega) (fun p hp => by omega))
        clear h2
        go_quiet (fail)
        go_wp2
        go_roundw
        case rel => exact ⟨j + 1, by omega, by go_num, below_drewN HB3w.out _, HRS.out⟩
        case measure => simp [intOf]; omega
      have d2 : decide (0 < (j : Int)) = true := by simp; omega
      have d2b : decide (0 < j) = true := by simp; omega
      obtain ⟨p, hp⟩ : ∃ p, x.ents[j - 1]? = some p := ⟨_, List.getElem?_eq_getElem (by omega)⟩
      have qp : w3.cell? ⟨b, o + (j - 1) * 3, none⟩ = some (.int .i64 p.slot) := (HB3.out.cell (p := ⟨b, o + (j - 1) * 3, none⟩) hbe).trans (HP0.out p hp)
      have hw : IntKind.i64.wrap ((j : Int) - 1) = ((j - 1 : Nat) : Int) := by rw [show (j : Int) - 1 = ((j - 1 : Nat) : Int) from by omega]; exact IntWalk.i64_in _ (by omega)
      have hj1 : j - 1 < m := by omega
      have hj2 : ((j - 1 : Nat) : Int) < (m : Int) := by omega
      by_cases h3 : e.slot ≤ p.slot
      · have d3 : decide (e.slot ≤ p.slot) = true := by simpa using h3
        clear hp
        go_quiet (fail)
        go_wp2
        go_ret
        first | exact ⟨false, rfl, (HB.out.trans ((below_drewN HB3w.out _).mono HB.out.size)), fun h => by cases h⟩ | exact .inl ⟨rfl, (HB.out.trans ((below_drewN HB3w.out _).mono HB.out.size))⟩
      have d3 : decide (e.slot ≤ p.slot) = false := by simpa using h3
      have HRS := hide (rise_succ HALL.out HE.out (by omega) (by omega) (fun y hy hy2 => by rw [hp] at hy2; cases hy2; omega))
      clear hp
      go_quiet (fail)
      go_wp2
      go_roundw
      case rel => exact ⟨j + 1, by omega, by go_num, below_drewN HB3w.out _, HRS.out⟩
      case measure => simp [intOf]; omega
    · obtain rfl : j = m := by omega
      have q0 : wr.cell? ⟨w.heap.size, 0, none⟩ = some (.int .i64 x.k) := (R.out.on HBR.out).cell 0
      have q4 : wr.cell? ⟨w.heap.size, 4, none⟩ = some (.slice D n c) := (R.out.on HBR.out).cell 4
      have q5 : wr.cell? ⟨w.heap.size, 5, none⟩ = some (.slice C j d) := (R.out.on HBR.out).cell 5
      have q6 : wr.cell? ⟨w.heap.size, 6, none⟩ = some (.int .i64 x.att.h) := (R.out.on HBR.out).cell 6
      have q8 : wr.cell? ⟨w.heap.size, 8, none⟩ = some (.string ⟨x.att.r.toArray⟩) := (R.out.on HBR.out).cell 8
      by_cases k0 : 0 ≤ x.k
      rotate_left
      · have c0 : decide (0 ≤ x.k) = false := decide_eq_false k0
        go_wp2_with fail
        go_ret
        first | exact ⟨false, rfl, HBW.out, fun h => by cases h⟩ | exact .inl ⟨rfl, HBW.out⟩
      have c0 : decide (0 ≤ x.k) = true := decide_eq_true k0
      by_cases k1 : x.k ≤ 4
      rotate_left
      · have c1 : decide (x.k ≤ 4) = false := decide_eq_false k1
        go_wp2_with fail
        go_ret
        first | exact ⟨false, rfl, HBW.out, fun h => by cases h⟩ | exact .inl ⟨rfl, HBW.out⟩
      have c1 : decide (x.k ≤ 4) = true := decide_eq_true k1
      by_cases k2 : 0 ≤ x.att.h
      rotate_left
      · have c2 : decide (0 ≤ x.att.h) = false := decide_eq_false k2
        go_wp2_with fail
        go_ret
        first | exact ⟨false, rfl, HBW.out, fun h => by cases h⟩ | exact .inl ⟨rfl, HBW.out⟩
      have c2 : decide (0 ≤ x.att.h) = true := decide_eq_true k2
      by_cases k3 : x.att.h ≤ 31
      rotate_left
      · have c3 : decide (x.att.h ≤ 31) = false := decide_eq_false k3
        go_wp2_with fail
        go_ret
        first | exact ⟨false, rfl, HBW.out, fun h => by cases h⟩ | exact .inl ⟨rfl, HBW.out⟩
      have c3 : decide (x.att.h ≤ 31) = true := decide_eq_true k3
      by_cases k4 : (n : Int) ≤ 300
      rotate_left
      · have c4 : decide ((n : Int) ≤ 300) = false := decide_eq_false k4
        go_wp2_with fail
        go_ret
        first | exact ⟨false, rfl, HBW.out, fun h => by cases h⟩ | exact .inl ⟨rfl, HBW.out⟩
      have c4 : decide ((n : Int) ≤ 300) = true := decide_eq_true k4
      by_cases k5 : (j : Int) ≤ 16
      rotate_left
      · have c5 : decide ((j : Int) ≤ 16) = false := decide_eq_false k5
        go_wp2_with fail
        go_ret
        first | exact ⟨false, rfl, HBW.out, fun h => by cases h⟩ | exact .inl ⟨rfl, HBW.out⟩
      have c5 : decide ((j : Int) ≤ 16) = true := decide_eq_true k5
      by_cases k6 : (x.att.r.length : Int) ≤ 40
      rotate_left
      · have c6 : decide ((x.att.r.length : Int) ≤ 40) = false := decide_eq_false k6
        go_wp2_with fail
        go_ret
        first | exact ⟨false, rfl, HBW.out, fun h => by cases h⟩ | exact .inl ⟨rfl, HBW.out⟩
      have c6 : decide ((x.att.r.length : Int) ≤ 40) = true := decide_eq_true k6
      have HCN := hide (HC.out.under HBW.out (Nat.le_refl _))
      have HCU := hide (HCN.out.mono (fun _ _ => rfl) (fun b hb => Nat.lt_of_lt_of_le hb hbsz) : RdE entEn wr (Under wr.heap.size) C j x.ents)
      clear HCN
      go_wp2_with (go_at_call 34; refine (EntHas_any wr HCU.out (by omega)).mono ?_; rintro e w3 ⟨r, rfl, hb3, hp⟩; have HP := hide hp; have HB3 := hide (HBW.out.trans (hb3.mono HBW.out.size)); clear hp hb3)
      go_ret
      refine ⟨_, rfl, HB3.out, fun h => ⟨by rw [hml]; exact HALL.out, ⟨k0, k1⟩, ⟨k2, k3⟩, by have := HD.out; omega, by omega, by omega, HP.out (by simpa using h)⟩⟩
set_option maxRecDepth 100000 in
theorem PBr1_any (x : NodV) {D C : Option Addr} {n c m d : Nat} (w : World) (hD : x.data.length = n) (hC : RdE entEn w (Under w.heap.size) C m x.ents) (hm : m ≤ 9223372036854775807) :
    Calls Tryz.prog 90 #[.agg (nodC x (.slice D n c) (.slice C m d)).toArray] w (fun e w' => ∃ p : Bool, e = .returned (.bool p) ∧ Below w.heap.size w w' ∧ (p = false → PlainN x)) := by
  have r := RowL.new w 71 (nodC x (.slice D n c) (.slice C m d))
  have hb := below_new (below_self w) (.cells (nodC x (.slice D n c) (.slice C m d)).toArray 71)
  have HR := hide r
  have HB := hide hb
  have HC := hide (hC.on hb)
  have HD := hide hD
  clear r hb hC hD
  go_enter Tryz.func90, Tryz.ntmps90
  go_wp2_with (refine wpList_loadW rfl 71 (.tmp 1) rfl 13 nod_agg nod_size w.heap.size 71 rfl (nodC x (.slice D n c) (.slice C m d)) HR.out rfl ?_)
  refine (PNode_any _ HD.out HC.out hm).mono ?_
  rintro e w3 ⟨p, rfl, hb3, hp⟩
  have HP := hide hp
  have HB3 := hide (below_step HB.out hb3)
  clear hp hb3
  cases p
  · go_wp2
    go_ret
    first | exact ⟨true, rfl, HB3.out, fun h => by cases h⟩ | exact .inr ⟨rfl, HB3.out⟩
  · go_wp2
    go_ret
    have hg := HP.out (by first | rfl | trivial)
    first | exact ⟨false, rfl, HB3.out, fun _ => hg⟩ | exact .inl ⟨rfl, HB3.out, hg⟩ | exact .inl ⟨rfl, HB3.out, fun _ => hg⟩
set_option maxRecDepth 100000 in
set_option maxHeartbeats 1600000 in
theorem NodIdx_any {A : Option Addr} {n c : Nat} {l : List NodV} (w : World) (h : RdE nodEn w (Under w.heap.size) A n l) (hm : l.length ≤ 9223372036854775807) (hsm : ∀ x ∈ l, x.ents.length ≤ 9223372036854775807) :
    Calls Tryz.prog 122 #[.slice A n c, .func (.func 90) #[] #[]] w (fun e w' => ∃ r : Int, e = .returned (.int .i64 r) ∧ Below w.heap.size w w' ∧ (r < 0 → ∀ x ∈ l, PlainN x)) := by
  have H := hide h
  have hn := h.1
  clear h
  go_enter Tryz.func122, Tryz.ntmps122
  go_wp2
  go_loopw [8] (fun iv wr => ∃ j : Nat, j ≤ n ∧ iv = .int .i64 j ∧ Below w.heap.size w wr ∧ ∀ i x, i < j → l[i]? = some x → PlainN x) (fun iv _ => n - (intOf iv).toNat)
  case atStart => exact ⟨0, by omega, rfl, below_self _, fun i x hi => by omega⟩
  case round =>
    obtain ⟨j, hj, rfl, hbr, hall⟩ := hrel
    have HBR := hide hbr
    have HALL := hide hall
    clear hbr hall
    by_cases hlt : j < n
    · obtain ⟨x, hx⟩ : ∃ x, l[j]? = some x := ⟨_, List.getElem?_eq_getElem (by omega)⟩
      obtain ⟨b, o, cs, rfl, -, hNd, hc⟩ := (H.out.under HBR.out (Nat.le_refl _)).get_nod hx
      obtain ⟨D, n1, c1, C, m1, d1, rfl, e2, e3, e4, e5⟩ := hNd
      have HC := hide hc
      have E3 := hide e3.1
      have E5 := hide (e5.mono (fun _ _ => rfl) (fun b hb => Nat.lt_of_lt_of_le hb HBR.out.size) : RdE entEn wr (Under wr.heap.size) C m1 x.ents)
      have hm1 : m1 ≤ 9223372036854775807 := by rw [← e5.1]; exact hsm x (List.mem_of_getElem? hx)
      clear hc e3 e5
      have HX := hide hx
      clear hx
      go_wp2_with (refine wpList_loadX rfl 71 (.tmp 14) rfl 13 nod_agg nod_size b (o + j * 13) rfl (nodC x (.slice D n1 c1) (.slice C m1 d1)) HC.out rfl ?_)
      refine (PBr1_any x wr E3.out E5.out hm1).mono ?_
      rintro e w3 ⟨p, rfl, hb3, hp⟩
      have HP := hide hp
      have HB3 := hide (below_step HBR.out hb3)
      clear hp hb3
      cases p with
      | true =>
        go_wp2
        go_ret
        exact ⟨(j : Int), rfl, HB3.out, fun h => by omega⟩
      | false =>
        go_wp2
        go_roundw
        case rel => exact ⟨j + 1, by omega, by go_num, HB3.out, fun i y hi hy => by
          by_cases e : i = j
          · subst e
            have := HX.out.symm.trans hy
            cases this
            exact HP.out (by first | rfl | trivial)
          · exact HALL.out i y (by omega) hy⟩
        case measure => simp [intOf]; omega
    · obtain rfl : j = n := by omega
      go_wp2
      go_ret
      exact ⟨-1, rfl, HBR.out, fun _ x hx => by
        obtain ⟨i, hi, rfl⟩ := List.mem_iff_getElem.1 hx
        exact HALL.out i _ (by omega) (List.getElem?_eq_getElem hi)⟩
set_option maxRecDepth 100000 in
theorem NodHas_any {A : Option Addr} {n c : Nat} {l : List NodV} (w : World) (h : RdE nodEn w (Under w.heap.size) A n l) (hm : l.length ≤ 9223372036854775807) (hsm : ∀ x ∈ l, x.ents.length ≤ 9223372036854775807) :
    Calls Tryz.prog 89 #[.slice A n c, .func (.func 90) #[] #[]] w (fun e w' => ∃ r : Bool, e = .returned (.bool r) ∧ Below w.heap.size w w' ∧ (r = false → ∀ x ∈ l, PlainN x)) := by
  have H := hide h
  clear h
  go_enter Tryz.func89, Tryz.ntmps89
  go_wp2_with (go_at_call 122; refine (NodIdx_any w H.out hm hsm).mono ?_; rintro e w3 ⟨r, rfl, hb3, hp⟩; have HP := hide hp; have HB3 := hide hb3; clear hp hb3)
  go_ret
  exact ⟨_, rfl, HB3.out, fun h => HP.out (by simpa using h)⟩
set_option maxRecDepth 100000 in
theorem PBranch_any {A : Option Addr} {n c : Nat} {many : Int} {ns : List NodV} (w : World) (h : RdE nodEn w (Under w.heap.size) A n ns) (hmany : many ≤ 100000) (hsm : ∀ x ∈ ns, x.ents.length ≤ 9223372036854775807) :
    Calls Tryz.prog 47 #[.agg #[.slice A n c], .int .i64 many] w (fun e w' => ∃ p : Bool, e = .returned (.bool p) ∧ Below w.heap.size w w' ∧ (p = true → (n : Int) ≤ many ∧ ∀ x ∈ ns, PlainN x)) := by
  have r := RowL.new w 26 [.slice A n c]
  have hb := below_new (below_self w) (.cells [.slice A n c].toArray 26)
  have q : (w.alloc (.cells #[.slice A n c] 26)).cell? ⟨w.heap.size, 0, none⟩ = some (.slice A n c) := r.cell 0
  have HB := hide hb
  have H := hide (h.on hb)
  have hl := h.1
  clear r hb h
  by_cases k0 : (n : Int) ≤ many
  rotate_left
  · have c0 : decide ((n : Int) ≤ many) = false := decide_eq_false k0
    go_enter Tryz.func47, Tryz.ntmps47
    go_wp2
    go_ret
    first | exact ⟨false, rfl, HB.out, fun h => by cases h⟩ | exact .inl ⟨rfl, HB.out⟩
  have c0 : decide ((n : Int) ≤ many) = true := decide_eq_true k0
  have hlm : ns.length ≤ 9223372036854775807 := by omega
  go_enter Tryz.func47, Tryz.ntmps47
  go_wp2_with fail
  refine (NodHas_any _ H.out hlm hsm).mono ?_
  rintro e w3 ⟨p, rfl, hb3, hp⟩
  have HP := hide hp
  have HB3 := hide (below_step HB.out hb3)
  clear hp hb3
  cases p
  · go_wp2
    go_ret
    have hg := HP.out (by first | rfl | trivial)
    first | exact ⟨true, rfl, HB3.out, fun _ => ⟨k0, hg⟩⟩ | exact .inr ⟨rfl, HB3.out, k0, hg⟩ | exact .inr ⟨rfl, HB3.out, fun _ => ⟨k0, hg⟩⟩
  · go_wp2
    go_ret
    first | exact ⟨false, rfl, HB3.out, fun h => by cases h⟩ | exact .inl ⟨rfl, HB3.out⟩
end Go.Proofs.YtnehkgbdppbhiaaGreat

/- Sorted texts (layer 3): the order of texts, that sorting makes each text stand once, rising, and that there is but one such list. Nothing here speaks of a program. -/
namespace Go.Proofs.YtnehkgbdppbhiaaGreat.Plain
theorem less_irrefl (a : List UInt8) : lessS a a = false := by
  unfold lessS
  induction a with
  | nil => simp [Op.bytesLess]
  | cons x r ih => simp [Op.bytesLess, ih]
theorem less_trans {a b c : List UInt8} (h1 : lessS a b = true) (h2 : lessS b c = true) : lessS a c = true := by
  unfold lessS at *
  induction a generalizing b c with
  | nil =>
    cases b with
    | nil => simp [Op.bytesLess] at h1
    | cons y s => cases c with
      | nil => simp [Op.bytesLess] at h2
      | cons z t => simp [Op.bytesLess]
  | cons x r ih =>
    cases b with
    | nil => simp [Op.bytesLess] at h1
    | cons y s => cases c with
      | nil => simp [Op.bytesLess] at h2
      | cons z t =>
        simp only [Op.bytesLess, Bool.or_eq_true, Bool.and_eq_true, decide_eq_true_eq, beq_iff_eq] at h1 h2 ⊢
        rcases h1 with h1 | ⟨rfl, h1⟩
        · rcases h2 with h2 | ⟨rfl, h2⟩
          · left; exact UInt8.lt_trans h1 h2
          · left; exact h1
        · rcases h2 with h2 | ⟨rfl, h2⟩
          · left; exact h2
          · right; exact ⟨rfl, ih h1 h2⟩
theorem less_total {a b : List UInt8} (h1 : lessS a b = false) (h2 : lessS b a = false) : a = b := by
  unfold lessS at *
  induction a generalizing b with
  | nil =>
    cases b with
    | nil => rfl
    | cons y s => simp [Op.bytesLess] at h1
  | cons x r ih =>
    cases b with
    | nil => simp [Op.bytesLess] at h2
    | cons y s =>
      simp only [Op.bytesLess, Bool.or_eq_false_iff, Bool.and_eq_false_iff, decide_eq_false_iff_not, beq_eq_false_iff_ne] at h1 h2
      have hxy : x = y := by
        apply UInt8.toNat_inj.1
        have a1 : ¬ x.toNat < y.toNat := fun h => h1.1 (UInt8.lt_iff_toNat_lt.2 h)
        have a2 : ¬ y.toNat < x.toNat := fun h => h2.1 (UInt8.lt_iff_toNat_lt.2 h)
        omega
      subst hxy
      congr 1
      apply ih
      · rcases h1.2 with h | h
        · exact absurd rfl h
        · exact h
      · rcases h2.2 with h | h
        · exact absurd rfl h
        · exact h
theorem less_asymm {a b : List UInt8} (h : lessS a b = true) : lessS b a = false := by
  cases h2 : lessS b a with
  | false => rfl
  | true => have := less_trans h h2; rw [less_irrefl] at this; cases this
/-- Each once, rising. -/
def Rising (l : List (List UInt8)) : Prop := l.Pairwise fun a b => lessS a b = true
theorem rising_eq {l k : List (List UInt8)} (hl : Rising l) (hk : Rising k) (h : ∀ y, y ∈ l ↔ y ∈ k) : l = k := by
  induction l generalizing k with
  | nil =>
    cases k with
    | nil => rfl
    | cons y s => exact absurd ((h y).2 (List.mem_cons_self)) (by simp)
  | cons x r ih =>
    cases k with
    | nil => exact absurd ((h x).1 (List.mem_cons_self)) (by simp)
    | cons y s =>
      have hx := List.pairwise_cons.1 hl
      have hy := List.pairwise_cons.1 hk
      have hxy : x = y := by
        rcases List.mem_cons.1 ((h x).1 List.mem_cons_self) with e | e
        · exact e
        · rcases List.mem_cons.1 ((h y).2 List.mem_cons_self) with e2 | e2
          · exact e2.symm
          · have h1 := hy.1 x e
            have h2 := hx.1 y e2
            rw [less_asymm h1] at h2
            cases h2
      subst hxy
      congr 1
      refine ih hx.2 hy.2 fun z => ?_
      have hz := h z
      constructor
      · intro hm
        rcases List.mem_cons.1 (hz.1 (List.mem_cons_of_mem _ hm)) with e | e
        · subst e; have := hx.1 z hm; rw [less_irrefl] at this; cases this
        · exact e
      · intro hm
        rcases List.mem_cons.1 (hz.2 (List.mem_cons_of_mem _ hm)) with e | e
        · subst e; have := hy.1 z hm; rw [less_irrefl] at this; cases this
        · exact e
theorem pos_spec (x : List UInt8) (o : List (List UInt8)) : (∀ y ∈ o.take (posS x o), lessS y x = true) ∧ (∀ y, o[posS x o]? = some y → lessS y x = false) := by
  unfold posS
  induction o with
  | nil => simp
  | cons y r ih =>
    rw [List.takeWhile_cons]
    cases h : lessS y x with
    | false =>
      simp only [Bool.false_eq_true, if_false, List.length_nil, List.take_zero, List.not_mem_nil, false_imp_iff, implies_true, true_and, List.getElem?_cons_zero, Option.some.injEq]
      intro z e; rw [← e]; exact h
    | true =>
      simp only [if_true, List.length_cons, List.take_succ_cons, List.mem_cons, List.getElem?_cons_succ]
      refine ⟨fun z hz => ?_, ih.2⟩
      rcases hz with rfl | hz
      · exact h
      · exact ih.1 z hz
theorem ins_rising {x : List UInt8} {o : List (List UInt8)} (ho : Rising o) : Rising (insS x o) ∧ ∀ y, y ∈ insS x o ↔ y = x ∨ y ∈ o := by
  obtain ⟨h1, h2⟩ := pos_spec x o
  have hsplit : o.take (posS x o) ++ o.drop (posS x o) = o := List.take_append_drop _ _
  unfold insS
  split
  · rename_i he
    refine ⟨ho, fun y => ⟨fun hy => .inr hy, fun hy => ?_⟩⟩
    rcases hy with rfl | hy
    · exact List.mem_of_getElem? he
    · exact hy
  · rename_i he
    have hd : ∀ y ∈ o.drop (posS x o), lessS x y = true := by
      cases hdr : o.drop (posS x o) with
      | nil => intro y hy; cases hy
      | cons z t =>
        have hz : o[posS x o]? = some z := by
          have : (o.drop (posS x o))[0]? = some z := by rw [hdr]; rfl
          rwa [List.getElem?_drop, Nat.add_zero] at this
        have hzx := h2 z hz
        have hne : z ≠ x := by intro e; apply he; rw [hz, e]
        have hxz : lessS x z = true := by
          cases hh : lessS x z with
          | true => rfl
          | false => exact absurd (less_total hzx hh) hne
        have hpw : Rising (z :: t) := by
          have : Rising (o.drop (posS x o)) := List.Pairwise.sublist (List.drop_sublist _ _) ho
          rwa [hdr] at this
        intro y hy
        rcases List.mem_cons.1 hy with rfl | hy
        · exact hxz
        · exact less_trans hxz ((List.pairwise_cons.1 hpw).1 y hy)
    refine ⟨?_, fun y => ?_⟩
    · refine List.pairwise_append.2 ⟨List.Pairwise.sublist (List.take_sublist _ _) ho, List.pairwise_cons.2 ⟨hd, List.Pairwise.sublist (List.drop_sublist _ _) ho⟩, fun a ha b hb => ?_⟩
      rcases List.mem_cons.1 hb with rfl | hb
      · exact h1 a ha
      · exact less_trans (h1 a ha) (hd b hb)
    · rw [List.mem_append, List.mem_cons]
      conv => rhs; rw [← hsplit, List.mem_append]
      constructor
      · rintro (h | h | h)
        · exact .inr (.inl h)
        · exact .inl h
        · exact .inr (.inr h)
      · rintro (h | h | h)
        · exact .inr (.inl h)
        · exact .inl h
        · exact .inr (.inr h)
theorem sortS_rising (l : List (List UInt8)) : Rising (sortS l) ∧ ∀ y, y ∈ sortS l ↔ y ∈ l := by
  suffices h : ∀ (l o : List (List UInt8)), Rising o → Rising (l.foldl (fun o x => insS x o) o) ∧ ∀ y, y ∈ l.foldl (fun o x => insS x o) o ↔ y ∈ o ∨ y ∈ l by
    have := h l [] List.Pairwise.nil
    refine ⟨this.1, fun y => ?_⟩
    have := this.2 y
    simpa [sortS] using this
  intro l
  induction l with
  | nil => intro o ho; exact ⟨ho, fun y => by simp⟩
  | cons x r ih =>
    intro o ho
    obtain ⟨a1, a2⟩ := ins_rising (x := x) ho
    obtain ⟨b1, b2⟩ := ih _ a1
    refine ⟨b1, fun y => ?_⟩
    rw [List.foldl_cons, b2, a2, List.mem_cons]
    constructor
    · rintro ((h | h) | h)
      · exact .inr (.inl h)
      · exact .inl h
      · exact .inr (.inr h)
    · rintro (h | h | h)
      · exact .inl (.inr h)
      · exact .inl (.inl h)
      · exact .inr h
theorem sortS_unique {l k : List (List UInt8)} (hk : Rising k) (h : ∀ y, y ∈ k ↔ y ∈ l) : k = sortS l :=
  rising_eq hk (sortS_rising l).1 fun y => (h y).trans ((sortS_rising l).2 y).symm
theorem sortS_sortS (l : List (List UInt8)) : sortS (sortS l) = sortS l :=
  (sortS_unique (sortS_rising l).1 fun _ => Iff.rfl).symm
theorem rising_adj {l : List (List UInt8)} (h : Rising l) (i : Nat) (hi : i + 1 < l.length) : lessS (l.getD (i + 1) []) (l.getD i []) = false := by
  simp only [List.getD]
  rw [List.getElem?_eq_getElem hi, List.getElem?_eq_getElem (by omega)]
  exact less_asymm (List.pairwise_iff_getElem.1 h i (i + 1) (by omega) hi (by omega))
end Go.Proofs.YtnehkgbdppbhiaaGreat.Plain

/- Lower directories, as they are shown together: the mathematics (layer 16). Nothing here speaks of a program. -/
namespace Go.Proofs.YtnehkgbdppbhiaaGreat
open Go.RowKit Plain

/-- A lower node; a free one where there is none. -/
def lowAt (ls : List (List NodV)) (la i : Int) : NodV := if 1 ≤ la ∧ la ≤ (ls.length : Int) then nodAt ((ls[(la - 1).toNat]?).getD []) i else nod0
theorem low_out {ls : List (List NodV)} {la i : Int} (h : ¬ (1 ≤ la ∧ la ≤ (ls.length : Int))) : lowAt ls la i = nod0 := by unfold lowAt; rw [if_neg h]
theorem low_in {ls : List (List NodV)} {la i : Int} (h : 1 ≤ la ∧ la ≤ (ls.length : Int)) : ∃ (j : Nat) (ns : List NodV), la = (j : Int) + 1 ∧ ls[j]? = some ns ∧ lowAt ls la i = nodAt ns i := by
  obtain ⟨j, hj⟩ := Int.eq_ofNat_of_zero_le (show 0 ≤ la - 1 by omega)
  have hl : j < ls.length := by omega
  refine ⟨j, ls[j], by omega, List.getElem?_eq_getElem hl, ?_⟩
  unfold lowAt
  rw [if_pos h, hj]
  simp [hl]
/-- Few layers of few nodes that may be. -/
def FewL (ls : List (List NodV)) : Prop := ls.length ≤ 3 ∧ ∀ ns ∈ ls, ns.length ≤ 24 ∧ ∀ x ∈ ns, PlainN x
theorem plain0 : PlainN nod0 := by
  refine ⟨fun i e _ h => by simp [nod0] at h, ?_, ?_, ?_, ?_, ?_, fun e h => by simp [nod0] at h⟩ <;> simp [nod0, att0]
theorem nodAt_plain {ns : List NodV} (h : ∀ x ∈ ns, PlainN x) (i : Int) : PlainN (nodAt ns i) := by
  unfold nodAt
  split
  · cases hx : ns[(i - 1).toNat]? with
    | none => exact plain0
    | some x => exact h x (List.mem_of_getElem? hx)
  · exact plain0
theorem low_plain {ls : List (List NodV)} (h : FewL ls) (la i : Int) : PlainN (lowAt ls la i) := by
  by_cases hh : 1 ≤ la ∧ la ≤ (ls.length : Int)
  · obtain ⟨j, ns, -, hn, e⟩ := low_in (i := i) hh
    rw [e]
    exact nodAt_plain (h.2 ns (List.mem_of_getElem? hn)).2 i
  · rw [low_out hh]
    exact plain0
/-- Is a node opaque? -/
def opq (n : NodV) : Bool := decide (n.att.h % 2 = 1) && decide (n.att.o = 121)
/-- The entries of a place; none of what is no directory. -/
def entL (ls : List (List NodV)) (p : Int × Int) : List EntV := if (lowAt ls p.1 p.2).k = 1 then (lowAt ls p.1 p.2).ents else []
theorem entL_len {ls : List (List NodV)} (h : FewL ls) (p : Int × Int) : (entL ls p).length ≤ 16 := by
  unfold entL
  split
  · exact (low_plain h p.1 p.2).2.2.2.2.1
  · simp
/-- The first entry of a name that is of use. -/
def useE (ls : List (List NodV)) (la : Int) (nm : List UInt8) (e : EntV) : Bool := decide (e.name = nm) && decide ((lowAt ls la e.ino).k ≠ 0)
def firstL (ls : List (List NodV)) (p : Int × Int) (nm : List UInt8) : Option (Int × Int) := ((entL ls p).find? (useE ls p.1 nm)).map (fun e => (p.1, e.ino))
/-- A lower layer; one without nodes where there is none. -/
def layL (ls : List (List NodV)) (la : Int) : List NodV := if 1 ≤ la ∧ la ≤ (ls.length : Int) then (ls[(la - 1).toNat]?).getD [] else []
theorem nodAt_nil (i : Int) : nodAt [] i = nod0 := by unfold nodAt; rw [if_neg]; simp; omega
theorem lay_at (ls : List (List NodV)) (la i : Int) : nodAt (layL ls la) i = lowAt ls la i := by
  unfold layL lowAt
  split
  · rfl
  · exact nodAt_nil i
/-- The entries of a directory of a layer; none of what is no directory. -/
def entB (ns : List NodV) (i : Int) : List EntV := if (nodAt ns i).k = 1 then (nodAt ns i).ents else []
def useB (ns : List NodV) (nm : List UInt8) (e : EntV) : Bool := decide (e.name = nm) && decide ((nodAt ns e.ino).k ≠ 0)
/-- The first entry of a name that is of use. -/
def firstB (ns : List NodV) (i : Int) (nm : List UInt8) : Option EntV := (entB ns i).find? (useB ns nm)
def entO (o : Option EntV) : EntV := o.getD ent0
def nodB (ns : List NodV) (o : Option EntV) : NodV := match o with
  | none => nod0
  | some e => nodAt ns e.ino
theorem ent_lay (ls : List (List NodV)) (p : Int × Int) : entB (layL ls p.1) p.2 = entL ls p := by unfold entB entL; rw [lay_at]
theorem use_lay (ls : List (List NodV)) (la : Int) (nm : List UInt8) : useB (layL ls la) nm = useE ls la nm := by funext e; unfold useB useE; rw [lay_at]
theorem first_lay (ls : List (List NodV)) (p : Int × Int) (nm : List UInt8) : firstL ls p nm = (firstB (layL ls p.1) p.2 nm).map (fun e => (p.1, e.ino)) := by unfold firstL firstB; rw [ent_lay, use_lay]
theorem nodB_lay (ls : List (List NodV)) (la : Int) (o : Option EntV) : nodB (layL ls la) o = (match o.map (fun e => (la, e.ino)) with | none => nod0 | some x => lowAt ls x.1 x.2) := by
  cases o with
  | none => rfl
  | some e => exact lay_at ls la e.ino
theorem firstB_use {ns : List NodV} {i : Int} {nm : List UInt8} {e : EntV} (h : firstB ns i nm = some e) : (nodAt ns e.ino).k ≠ 0 ∧ e.name = nm ∧ e ∈ entB ns i := by
  have h1 := List.find?_some h
  unfold useB at h1
  simp only [Bool.and_eq_true, decide_eq_true_eq] at h1
  exact ⟨h1.2, h1.1, List.mem_of_find?_eq_some h⟩
theorem lay_few {ls : List (List NodV)} (h : FewL ls) (la : Int) : (layL ls la).length ≤ 24 ∧ ∀ x ∈ layL ls la, PlainN x := by
  unfold layL
  split
  · cases hx : ls[(la - 1).toNat]? with
    | none => simp
    | some ns => exact h.2 ns (List.mem_of_getElem? hx)
  · simp
/-- What a name shows in the directories of a list, with those told ahead. -/
def findL (ls : List (List NodV)) (nm : List UInt8) : List (Int × Int) → List (Int × Int) → Int × List (Int × Int)
  | [], acc => if acc = [] then (0, []) else (1, acc)
  | p :: r, acc => match firstL ls p nm with
    | none => findL ls nm r acc
    | some x => if (lowAt ls x.1 x.2).k = 1 then (if opq (lowAt ls x.1 x.2) then (1, acc ++ [x]) else findL ls nm r (acc ++ [x]))
      else if acc ≠ [] then (1, acc) else if (lowAt ls x.1 x.2).k = 4 then (0, []) else ((lowAt ls x.1 x.2).k, [x])
theorem first_use {ls : List (List NodV)} {p x : Int × Int} {nm : List UInt8} (h : firstL ls p nm = some x) : (lowAt ls x.1 x.2).k ≠ 0 := by
  unfold firstL at h
  rw [Option.map_eq_some_iff] at h
  obtain ⟨e, he, rfl⟩ := h
  have := List.find?_some he
  unfold useE at this
  simp only [Bool.and_eq_true, decide_eq_true_eq] at this
  exact this.2
theorem findL_len (ls : List (List NodV)) (nm : List UInt8) : ∀ (l acc : List (Int × Int)), (findL ls nm l acc).2.length ≤ l.length + acc.length
  | [], acc => by unfold findL; split <;> simp
  | p :: r, acc => by
    unfold findL
    have h1 := findL_len ls nm r acc
    split
    · simp only [List.length_cons]; omega
    · rename_i x _
      have h2 := findL_len ls nm r (acc ++ [x])
      simp only [List.length_append, List.length_cons, List.length_nil] at h2 ⊢
      (repeat' split) <;> (try simp only [List.length_append, List.length_cons, List.length_nil]) <;> (first | omega | (dsimp only; omega))
/-- How a list of what was told reads: its kind. -/
theorem findL_kind {ls : List (List NodV)} (hF : FewL ls) (nm : List UInt8) : ∀ (l acc : List (Int × Int)), let R := findL ls nm l acc; (R.1 ≠ 0 ↔ R.2 ≠ []) ∧ (R.1 ≠ 1 → R.2.length ≤ 1) ∧ 0 ≤ R.1 ∧ R.1 ≤ 3
  | [], acc => by
    unfold findL
    split <;> simp_all
  | p :: r, acc => by
    have h1 := findL_kind hF nm r acc
    unfold findL
    cases hx : firstL ls p nm with
    | none => exact h1
    | some x =>
      have h2 := findL_kind hF nm r (acc ++ [x])
      have hk := (low_plain hF x.1 x.2).2.1
      have hu := first_use hx
      simp only
      by_cases k1 : (lowAt ls x.1 x.2).k = 1
      · rw [if_pos k1]
        cases opq (lowAt ls x.1 x.2)
        · simpa using h2
        · simp
      · rw [if_neg k1]
        by_cases ha : acc ≠ []
        · rw [if_pos ha]
          simp [ha]
        · rw [if_neg ha]
          by_cases k4 : (lowAt ls x.1 x.2).k = 4
          · rw [if_pos k4]; simp
          · rw [if_neg k4]
            simp [hu]
            omega
end Go.Proofs.YtnehkgbdppbhiaaGreat

/- What came in, opened: a slice of elements, each with a reading of its own. -/
namespace Go.Proofs.YtnehkgbdppbhiaaGreat
open Go.RowKit Plain Go.ChangeShapes Go.WideShapes

section
variable {α H : Type} {enc : TypeId × Value → H} {P : Program} {w : World} {spare : Nat → Bool} {held : Bool}
theorem open_rde {t e : TypeId} {fuel : Nat} {cs : List Value} {x : DataW H × List MemPlace} (E : Enc α) (ht : P.underlying t = some (.slice e)) (hc : P.cellsOf e = E.k) (hk : 0 < E.k)
    (hel : ∀ n cs y, cs.length = E.k → DataW.trod enc P w 0 spare held n e cs = some y → ∃ x, E.R w (Under w.heap.size) cs x)
    (h : DataW.trod enc P w 0 spare held fuel t cs = some x) : ∃ A n c l, cs = [.slice A n c] ∧ n ≤ c ∧ RdE E w (Under w.heap.size) A n l := by
  rcases DataW.trod_slice ht h with ⟨rfl, -⟩ | ⟨a, len, cap, elems, rest, n, -, rfl, -, -, hl, -, hlen, hcel, -, -⟩
  · exact ⟨_, _, _, [], rfl, Nat.le_refl _, RdE.none_ _ _ _ _⟩
  · have each : ∀ i, i < len → ∃ y, ∃ cs, w.cells? 0 (a.add (i * E.k)) E.k = some cs ∧ E.R w (Under w.heap.size) cs y := by
      intro i hi
      have h1 := hcel i hi
      rw [hc, List.getElem?_eq_getElem (by omega), Option.bind_eq_some_iff] at h1
      obtain ⟨cs', hcs, hy⟩ := h1
      obtain ⟨x, hx⟩ := hel _ _ _ (World.cells?_some hcs).2.1 hy
      exact ⟨x, cs', hcs, hx⟩
    refine ⟨_, _, _, List.ofFn (fun i : Fin len => Classical.choose (each i.1 i.2)), rfl, hl, by simp, fun hn => ?_⟩
    obtain ⟨y, cs0, hcs0, -⟩ := each 0 hn
    obtain ⟨-, hl0, h0⟩ := World.cells?_some hcs0
    have hcell0 := h0 0 hk
    rw [List.getElem?_eq_getElem (by omega)] at hcell0
    obtain ⟨b, off, spot⟩ := a
    have hspot : spot = none := by simpa [Addr.add] using World.cell?_spot hcell0
    subst hspot
    have hadd : ∀ o i, (⟨b, o, none⟩ : Addr).add i = ⟨b, o + i, none⟩ := by
      intro o i
      unfold Addr.add
      split
      · rename_i h0; subst h0; rfl
      · rfl
    refine ⟨b, off, rfl, ?_, fun i y hy => ?_⟩
    · have := block_lt_of_cell hcell0
      rw [hadd, hadd] at this
      exact this
    · rw [List.getElem?_ofFn] at hy
      split at hy
      · next hi =>
        obtain rfl := Option.some.inj hy
        obtain ⟨cs, hcs, hr⟩ := Classical.choose_spec (each i hi)
        obtain ⟨-, hl1, h1⟩ := World.cells?_some hcs
        refine ⟨cs, hr, fun j v hj => ?_⟩
        have hjl := (List.getElem?_eq_some_iff.1 hj).1
        have := h1 j (by omega)
        rw [hadd, hadd, hj] at this
        rw [← this, Nat.add_assoc]
      · cases hy
theorem open_bytes {t e : TypeId} {fuel : Nat} {cs : List Value} {x : DataW H × List MemPlace} (ht : P.underlying t = some (.slice e)) (he : P.underlying e = some (.int .u8)) (hc : P.cellsOf e = 1)
    (h : DataW.trod enc P w 0 spare held fuel t cs = some x) : ∃ A n c l, cs = [.slice A n c] ∧ n ≤ c ∧ RdE Enc.byte w (Under w.heap.size) A n l :=
  open_rde Enc.byte ht hc (by decide) (fun n cs y _ hy => by
    obtain ⟨z, rfl, -, hw⟩ := DataW.trod_int he hy
    have hb : 0 ≤ z ∧ z < 256 := by
      simp [Lit.wf, IntKind.min, IntKind.max, IntKind.signed, IntKind.bits] at hw
      omega
    refine ⟨UInt8.ofNat z.toNat, ?_⟩
    show [Value.int .u8 z] = [bv (UInt8.ofNat z.toNat)]
    simp only [bv]
    congr 2
    simp
    omega) h
theorem open_bools {t e : TypeId} {fuel : Nat} {cs : List Value} {x : DataW H × List MemPlace} (ht : P.underlying t = some (.slice e)) (he : P.underlying e = some .bool) (hc : P.cellsOf e = 1)
    (h : DataW.trod enc P w 0 spare held fuel t cs = some x) : ∃ A n c l, cs = [.slice A n c] ∧ n ≤ c ∧ RdE Enc.bool w (Under w.heap.size) A n l :=
  open_rde Enc.bool ht hc (by decide) (fun n cs y _ hy => by
    obtain ⟨z, rfl, -⟩ := DataW.trod_bool he hy
    exact ⟨z, rfl⟩) h
theorem four_of {cs : List Value} (h : cs.length = 4) : ∃ c0 c1 c2 c3, cs = [c0, c1, c2, c3] := by
  match cs, h with
  | [c0, c1, c2, c3], _ => exact ⟨_, _, _, _, rfl⟩
/-- A slice that came in as a parameter. -/
theorem came_E {t : TypeId} {a : Option Addr} {len cap : Nat} {d : DataW H} {p : List MemPlace} {E : Enc α} (h : ∃ fuel, DataW.trod enc P w 0 spare held fuel t (Value.slice a len cap).cells.toList = some (d, p))
    (ho : ∀ fuel cs x, DataW.trod enc P w 0 spare held fuel t cs = some x → ∃ A n c l, cs = [.slice A n c] ∧ n ≤ c ∧ RdE E w (Under w.heap.size) A n l) : ∃ l, len ≤ cap ∧ RdE E w (Under w.heap.size) a len l := by
  obtain ⟨fuel, hf⟩ := h
  obtain ⟨A, n, c, l, hcs, hnc, hr⟩ := ho _ _ _ hf
  simp [Value.cells] at hcs
  obtain ⟨rfl, rfl, rfl⟩ := hcs
  exact ⟨l, hnc, hr⟩
end
/-- Bools that came in, in the words of MemR. -/
theorem rd_bools {w : World} {B n : Nat} {A : Option Addr} {l : List Bool} (h : RdE Enc.bool w (Under B) A n l) : Rd Value.bool w B A n l := by
  refine ⟨h.len, fun hn => ?_⟩
  obtain ⟨b, o, e, hb, hc⟩ := h.2 hn
  refine ⟨b, o, e, hb, fun i x hx => ?_⟩
  obtain ⟨cs, hR, hcs⟩ := hc i x hx
  have hR : cs = [.bool x] := hR
  subst hR
  have := hcs 0 (.bool x) rfl
  rwa [show o + (i * Enc.bool.k + 0) = o + i from by show o + (i * 1 + 0) = o + i; omega] at this
end Go.Proofs.YtnehkgbdppbhiaaGreat

/- walk: ways that came in, opened; the law WalkPaths: its walk (layer 13). -/
namespace Go.Proofs.YtnehkgbdppbhiaaGreat
open Go.RowKit Go.Shelf Plain Go.WideShapes Go.ChangeShapes

section
variable {H : Type} {enc : TypeId × Value → H} {w : World} {base : Nat} {spare : Nat → Bool} {held : Bool}
theorem cell_i64 {n : Nat} {c : Value} {y : DataW H × List MemPlace} (h : DataW.trod enc Tryz.prog w base spare held n 3 [c] = some y) : ∃ a : Int, c = .int .i64 a := by
  obtain ⟨a, e, hy, -⟩ := DataW.trod_int Tryz.underlying3 h
  exact ⟨a, by simpa using e⟩
theorem cell_str {n : Nat} {c : Value} {y : DataW H × List MemPlace} (h : DataW.trod enc Tryz.prog w base spare held n 9 [c] = some y) : ∃ l : List UInt8, c = .string ⟨l.toArray⟩ := by
  obtain ⟨s, e, hy, -⟩ := DataW.trod_string Tryz.underlying9 h
  exact ⟨s.data.toList, by simpa using e⟩
theorem three {l : List Value} (h : l.length = 3) : ∃ a b c, l = [a, b, c] := by
  match l, h with
  | [a, b, c], _ => exact ⟨a, b, c, rfl⟩
set_option maxRecDepth 100000 in
theorem trod_way {fuel : Nat} {cs : List Value} {y : DataW H × List MemPlace} (hl : cs.length = 3) (h : DataW.trod enc Tryz.prog w base spare held fuel 61 cs = some y) : ∃ x : WayV, cs = wayC x := by
  obtain ⟨c0, c1, c2, rfl⟩ := three hl
  obtain ⟨xs, n, -, rfl, -, hlen, hp⟩ := DataW.trod_struct Tryz.underlying61 h
  match xs, hlen, hp with
  | [x0, x1, x2], _, hp =>
    obtain ⟨a0, rfl⟩ := cell_i64 (c := c0) (hp 0 _ rfl)
    obtain ⟨a1, rfl⟩ := cell_i64 (c := c1) (hp 1 _ rfl)
    obtain ⟨a2, rfl⟩ := cell_str (c := c2) (hp 2 _ rfl)
    exact ⟨⟨a0, a1, a2⟩, rfl⟩
theorem open_ways {fuel : Nat} {cs : List Value} {x : DataW H × List MemPlace} (h : DataW.trod enc Tryz.prog w 0 spare held fuel 55 cs = some x) :
    ∃ A n c l, cs = [.slice A n c] ∧ n ≤ c ∧ RdE wayEn w (Under w.heap.size) A n l :=
  open_rde (e := 61) wayEn Tryz.underlying55 (by kernel_rfl) (by decide) (fun _ _ _ hl hy => by
    obtain ⟨x, h1⟩ := trod_way hl hy
    exact ⟨x, h1⟩) h
end
end Go.Proofs.YtnehkgbdppbhiaaGreat

/- A layer that came in, opened. -/
namespace Go.Proofs.YtnehkgbdppbhiaaGreat
open Go.RowKit Go.Shelf Plain Go.WideShapes Go.ChangeShapes

section
variable {α H : Type} {enc : TypeId × Value → H} {P : Program} {w : World} {spare : Nat → Bool} {held : Bool}
/-- As open_rde, with a fact of each element, and how long it may be. -/
theorem open_rdeF {t e : TypeId} {fuel : Nat} {cs : List Value} {x : DataW H × List MemPlace} (E : Enc α) (Fine : α → Prop) (ht : P.underlying t = some (.slice e)) (hc : P.cellsOf e = E.k) (hk : 0 < E.k)
    (hel : ∀ n cs y, cs.length = E.k → DataW.trod enc P w 0 spare held n e cs = some y → ∃ x, E.R w (Under w.heap.size) cs x ∧ Fine x)
    (h : DataW.trod enc P w 0 spare held fuel t cs = some x) : ∃ A n c l, cs = [.slice A n c] ∧ n ≤ c ∧ c ≤ maxLen ∧ RdE E w (Under w.heap.size) A n l ∧ ∀ x ∈ l, Fine x := by
  rcases DataW.trod_slice ht h with ⟨rfl, -⟩ | ⟨a, len, cap, elems, rest, n, -, rfl, hx, -, hl, hcm, hlen, hcel, -, -⟩
  · exact ⟨_, _, _, [], rfl, Nat.le_refl _, by simp [maxLen], RdE.none_ _ _ _ _, fun x hx => by cases hx⟩
  · have each : ∀ i, i < len → ∃ y, ∃ cs, w.cells? 0 (a.add (i * E.k)) E.k = some cs ∧ E.R w (Under w.heap.size) cs y ∧ Fine y := by
      intro i hi
      have h1 := hcel i hi
      rw [hc, List.getElem?_eq_getElem (by omega), Option.bind_eq_some_iff] at h1
      obtain ⟨cs', hcs, hy⟩ := h1
      obtain ⟨x, hx, hf⟩ := hel _ _ _ (World.cells?_some hcs).2.1 hy
      exact ⟨x, cs', hcs, hx, hf⟩
    refine ⟨_, _, _, List.ofFn (fun i : Fin len => Classical.choose (each i.1 i.2)), rfl, hl, hcm, ⟨by simp, fun hn => ?_⟩, fun y hy => ?_⟩
    · obtain ⟨y, cs0, hcs0, -⟩ := each 0 hn
      obtain ⟨-, hl0, h0⟩ := World.cells?_some hcs0
      have hcell0 := h0 0 hk
      rw [List.getElem?_eq_getElem (by omega)] at hcell0
      obtain ⟨b, off, spot⟩ := a
      have hspot : spot = none := by simpa [Addr.add] using World.cell?_spot hcell0
      subst hspot
      have hadd : ∀ o i, (⟨b, o, none⟩ : Addr).add i = ⟨b, o + i, none⟩ := by
        intro o i
        unfold Addr.add
        split
        · rename_i h0; subst h0; rfl
        · rfl
      refine ⟨b, off, rfl, ?_, fun i y hy => ?_⟩
      · have := block_lt_of_cell hcell0
        rw [hadd, hadd] at this
        exact this
      · rw [List.getElem?_ofFn] at hy
        split at hy
        · next hi =>
          obtain rfl := Option.some.inj hy
          obtain ⟨cs, hcs, hr, -⟩ := Classical.choose_spec (each i hi)
          obtain ⟨-, hl1, h1⟩ := World.cells?_some hcs
          refine ⟨cs, hr, fun j v hj => ?_⟩
          have hjl := (List.getElem?_eq_some_iff.1 hj).1
          have := h1 j (by omega)
          rw [hadd, hadd, hj] at this
          rw [← this, Nat.add_assoc]
        · cases hy
    · rw [List.mem_ofFn] at hy
      obtain ⟨i, rfl⟩ := hy
      obtain ⟨cs, -, -, hf⟩ := Classical.choose_spec (each i.1 i.2)
      exact hf
end
section
variable {H : Type} {enc : TypeId × Value → H} {w : World} {spare : Nat → Bool} {held : Bool}
theorem cell_u8 {n : Nat} {c : Value} {y : DataW H × List MemPlace} (h : DataW.trod enc Tryz.prog w 0 spare held n 5 [c] = some y) : ∃ b : UInt8, c = bv b := by
  obtain ⟨a, e, hy, hw⟩ := DataW.trod_int Tryz.underlying5 h
  have hr : 0 ≤ a ∧ a ≤ 255 := by
    simp [Lit.wf, IntKind.min, IntKind.max, IntKind.signed, IntKind.bits] at hw
    omega
  refine ⟨UInt8.ofNat a.toNat, ?_⟩
  have : c = .int .u8 a := by simpa using e
  rw [this]
  simp only [bv]
  congr 1
  simp
  omega
theorem one_cell {l : List Value} (h : l.length = 1) : ∃ c, l = [c] := by
  match l, h with
  | [c], _ => exact ⟨c, rfl⟩
theorem thirteen {l : List Value} (h : l.length = 13) : ∃ a b c d e f g h i j k m n, l = [a, b, c, d, e, f, g, h, i, j, k, m, n] := by
  match l, h with
  | [a, b, c, d, e, f, g, h, i, j, k, m, n], _ => exact ⟨a, b, c, d, e, f, g, h, i, j, k, m, n, rfl⟩
set_option maxRecDepth 100000 in
theorem trod_ent {fuel : Nat} {cs : List Value} {y : DataW H × List MemPlace} (hl : cs.length = 3) (h : DataW.trod enc Tryz.prog w 0 spare held fuel 49 cs = some y) : ∃ x : EntV, cs = cellsE x := by
  obtain ⟨c0, c1, c2, rfl⟩ := three hl
  obtain ⟨xs, n, -, rfl, -, hlen, hp⟩ := DataW.trod_struct Tryz.underlying49 h
  match xs, hlen, hp with
  | [x0, x1, x2], _, hp =>
    obtain ⟨a0, rfl⟩ := cell_i64 (c := c0) (hp 0 _ rfl)
    obtain ⟨a1, rfl⟩ := cell_i64 (c := c1) (hp 1 _ rfl)
    obtain ⟨a2, rfl⟩ := cell_str (c := c2) (hp 2 _ rfl)
    exact ⟨⟨a0, a1, a2⟩, rfl⟩
set_option maxRecDepth 100000 in
theorem trod_node {fuel : Nat} {cs : List Value} {y : DataW H × List MemPlace} (hl : cs.length = 13) (h : DataW.trod enc Tryz.prog w 0 spare held fuel 71 cs = some y) : ∃ x : NodV, NodR w (Under w.heap.size) cs x ∧ x.ents.length ≤ maxLen := by
  obtain ⟨c0, c1, c2, c3, c4, c5, c6, c7, c8, c9, c10, c11, c12, rfl⟩ := thirteen hl
  obtain ⟨xs, n, -, -, -, hlen, hp⟩ := DataW.trod_struct Tryz.underlying71 h
  match xs, hlen, hp with
  | [x0, x1, x2, x3, x4, x5, x6], _, hp =>
    have p6 := hp 6 _ rfl
    obtain ⟨a0, rfl⟩ := cell_i64 (c := c0) (hp 0 _ rfl)
    obtain ⟨a1, rfl⟩ := cell_i64 (c := c1) (hp 1 _ rfl)
    obtain ⟨a2, rfl⟩ := cell_i64 (c := c2) (hp 2 _ rfl)
    obtain ⟨a3, rfl⟩ := cell_i64 (c := c3) (hp 3 _ rfl)
    obtain ⟨A, n1, d1, l1, e1, hn1, -, r1, -⟩ := open_rdeF (e := 5) (cs := [c4]) Enc.byte (fun _ => True) Tryz.underlying64 (by kernel_rfl) (by decide) (fun _ cs _ hl hy => by
      obtain ⟨c, rfl⟩ := one_cell hl
      obtain ⟨b, rfl⟩ := cell_u8 hy
      exact ⟨b, rfl, trivial⟩) (hp 4 _ rfl)
    obtain ⟨C, n2, d2, l2, e2, hn2, hm2, r2, -⟩ := open_rdeF (e := 49) (cs := [c5]) entEn (fun _ => True) Tryz.underlying65 (by kernel_rfl) (by decide) (fun _ cs _ hl hy => by
      obtain ⟨x, rfl⟩ := trod_ent hl hy
      exact ⟨x, ⟨[_], [_, _], rfl, rfl, [_], [_], rfl, rfl, rfl⟩, trivial⟩) (hp 5 _ rfl)
    obtain ⟨ys, m, -, -, -, hyl, hq⟩ := DataW.trod_struct Tryz.underlying69 (cs := [c6, c7, c8, c9, c10, c11, c12]) p6
    match ys, hyl, hq with
    | [y0, y1, y2, y3, y4], _, hq =>
      have q3 := hq 3 _ rfl
      obtain ⟨b0, rfl⟩ := cell_i64 (c := c6) (hq 0 _ rfl)
      obtain ⟨b1, rfl⟩ := cell_i64 (c := c7) (hq 1 _ rfl)
      obtain ⟨b2, rfl⟩ := cell_str (c := c8) (hq 2 _ rfl)
      obtain ⟨b6, rfl⟩ := cell_i64 (c := c12) (hq 4 _ rfl)
      obtain ⟨zs, k, -, -, -, hzl, hs⟩ := DataW.trod_struct Tryz.underlying67 (cs := [c9, c10, c11]) q3
      match zs, hzl, hs with
      | [z0, z1, z2], _, hs =>
        obtain ⟨b3, rfl⟩ := cell_i64 (c := c9) (hs 0 _ rfl)
        obtain ⟨b4, rfl⟩ := cell_i64 (c := c10) (hs 1 _ rfl)
        obtain ⟨b5, rfl⟩ := cell_i64 (c := c11) (hs 2 _ rfl)
        cases e1
        cases e2
        refine ⟨⟨a0, a1, a2, a3, l1, l2, ⟨b0, b1, b2, b3, b4, b5, b6⟩⟩, ⟨A, n1, d1, C, n2, d2, rfl, hn1, r1, hn2, r2⟩, ?_⟩
        show l2.length ≤ maxLen
        rw [r2.1]
        omega
set_option maxRecDepth 100000 in
theorem open_layer {r : Reach} {b0 : Nat} {v : Value} {d : DataW H} {p : List MemPlace} (hv : Value.okWide Tryz.prog w r b0 26 v) (h : DataW.Trod enc Tryz.prog w 0 spare held 26 v d p) :
    ∃ A n c ns, v = .agg #[.slice A n c] ∧ n ≤ c ∧ RdE nodEn w (Under w.heap.size) A n ns ∧ ∀ x ∈ ns, x.ents.length ≤ maxLen := by
  obtain ⟨cs, rfl, hsz⟩ := okWide_struct Tryz.underlying26 hv
  have hC : Tryz.prog.cellsOf 26 = 1 := by kernel_rfl
  obtain ⟨l⟩ := cs
  obtain ⟨c0, rfl⟩ := one_cell (l := l) (hsz.trans hC)
  obtain ⟨fuel, hf⟩ := h
  obtain ⟨xs, n, -, -, -, hlen, hp⟩ := DataW.trod_struct Tryz.underlying26 hf
  match xs, hlen, hp with
  | [x0], _, hp =>
    obtain ⟨A, n, c, ns, e1, hn, -, r, hfine⟩ := open_rdeF (e := 71) (cs := [c0]) nodEn (fun x => x.ents.length ≤ maxLen) Tryz.underlying24 (by kernel_rfl) (by decide) (fun _ cs _ hl hy => trod_node hl hy) (hp 0 _ rfl)
    cases e1
    exact ⟨A, n, c, ns, rfl, hn, r, hfine⟩
end
end Go.Proofs.YtnehkgbdppbhiaaGreat

/- walk: what WalkOnce asks: mathematics, and slices of ints and ways (layer 13). -/
namespace Go.Proofs.YtnehkgbdppbhiaaGreat
open Go.RowKit Go.Shelf Plain

/-- Each way stands behind the one that names it; one that none names is a root. -/
def UpW (ff : List Int) (l : List WayV) : Prop := ∀ (j : Nat) (y : WayV), l[j]? = some y → y.up < (j : Int) ∧ (y.up < 0 → y.ino ∈ ff)
theorem UpW.snoc {ff : List Int} {l : List WayV} {x : WayV} (h : UpW ff l) (hx : x.up < (l.length : Int) ∧ (x.up < 0 → x.ino ∈ ff)) : UpW ff (l ++ [x]) := by
  intro j y hy
  by_cases hj : j < l.length
  · rw [List.getElem?_append_left hj] at hy
    exact h j y hy
  · rw [List.getElem?_append_right (by omega)] at hy
    have hj0 : j - l.length = 0 := by have := (List.getElem?_eq_some_iff.1 hy).1; simpa using this
    rw [hj0] at hy
    cases hy
    exact ⟨by omega, hx.2⟩
theorem one_up {ff : List Int} {d : Int} {p : Nat} {s : StW} {x : EntV × Nat} (h : p < s.1.length ∧ UpW ff s.1) : p < (oneW d p s x).1.length ∧ UpW ff (oneW d p s x).1 := by
  unfold oneW
  split
  · exact h
  · exact ⟨by simp; omega, h.2.snoc ⟨by show (p : Int) < _; omega, fun h0 => absurd h0 (by show ¬ (p : Int) < 0; omega)⟩⟩
theorem visit_up {ff : List Int} {ns : List NodV} {p : Nat} {s : StW} (h : UpW ff s.1) : UpW ff (visitW ns p s).1 := by
  unfold visitW
  split
  · exact h
  · rename_i y hy
    exact (foldl_keep (P := fun t : StW => p < t.1.length ∧ UpW ff t.1) _ _ ⟨(List.getElem?_eq_some_iff.1 hy).1, h⟩ (fun _ _ _ ht => one_up ht)).2
theorem run_up {ff : List Int} {ns : List NodV} : ∀ (f p : Nat) (s : StW), UpW ff s.1 → UpW ff (runW ns f p s).1
  | 0, _, _, h => h
  | f + 1, p, s, h => by
    unfold runW
    split
    · exact run_up f _ _ (visit_up h)
    · exact h
theorem walk_up (ns : List NodV) (ff : List Int) : UpW ff (walkW ns ff).1 := by
  refine foldl_keep (P := fun s : StW => UpW ff s.1) _ _ (fun j y h => by cases h) (fun s i hi hs => ?_)
  unfold rootW
  split
  · exact run_up _ _ _ (hs.snoc ⟨by show (-1 : Int) < _; omega, fun _ => hi⟩)
  · exact hs
theorem plain_many {ns : List NodV} (h : ns.length ≤ 24) (hp : ∀ x ∈ ns, PlainN x) : Many ns ∧ ∀ x ∈ ns, x.data.length ≤ 1000 :=
  ⟨⟨h, fun x hx => (hp x hx).2.2.2.2.1⟩, fun x hx => by have := (hp x hx).2.2.2.1; omega⟩
theorem take_apart {ns : List NodV} {l : List WayV} (h : OkW ns l) {j : Nat} {y : WayV} (hy : l[j]? = some y) : ∀ x ∈ l.take j, x.ino ≠ y.ino := by
  intro x hx e
  obtain ⟨i, hi, hxi⟩ := List.mem_iff_getElem.1 hx
  rw [List.length_take] at hi
  rw [List.getElem_take] at hxi
  have hj := (List.getElem?_eq_some_iff.1 hy)
  obtain ⟨hjl, hyj⟩ := hj
  have hnd := h.2
  have h1 : (l.map WayV.ino)[i]'(by simp; omega) = (l.map WayV.ino)[j]'(by simp; omega) := by
    simp only [List.getElem_map]
    rw [hxi, hyj, e]
  exact (List.pairwise_iff_getElem.1 hnd) i j (by simp; omega) (by simp; omega) (by omega) h1

def iV (x : Int) : Value := .int .i64 x
theorem RdE.rdI {w : World} {B n : Nat} {A : Option Addr} {l : List Int} (h : RdE Enc.int w (Under B) A n l) : Rd iV w B A n l := ⟨h.1, fun hn => by
  obtain ⟨b, o, e, hb, hc⟩ := h.2 hn
  refine ⟨b, o, e, hb, fun i x hx => ?_⟩
  obtain ⟨cs, hcs, hcell⟩ := hc i x hx
  obtain rfl : cs = [.int .i64 x] := hcs
  have := hcell 0 _ rfl
  rwa [show o + (i * Enc.int.k + 0) = o + i from by show o + (i * 1 + 0) = o + i; omega] at this⟩
theorem Rd.rdeI {w : World} {B n : Nat} {A : Option Addr} {l : List Int} (h : Rd iV w B A n l) : RdE Enc.int w (Under B) A n l := ⟨h.1, fun hn => by
  obtain ⟨b, o, e, hb, hc⟩ := h.2 hn
  refine ⟨b, o, e, hb, fun i x hx => ⟨[.int .i64 x], rfl, fun j v hv => ?_⟩⟩
  have hj : j = 0 := by have := (List.getElem?_eq_some_iff.1 hv).1; simpa using this
  subst hj
  cases hv
  rw [show o + (i * Enc.int.k + 0) = o + i from by show o + (i * 1 + 0) = o + i; omega]
  exact hc i x hx⟩
set_option maxRecDepth 100000 in
theorem intw_info : (Tryz.prog.info? 3).map (fun i => (i.zero, i.size, i.bytes)) = some (some (.int .i64 0), 1, 8) := by kernel_rfl
end Go.Proofs.YtnehkgbdppbhiaaGreat

/- walk's references: place; empty rows; the fold by steps (layer 13). -/
namespace Go.Proofs.YtnehkgbdppbhiaaGreat
open Go.RowKit Go.Shelf Plain

set_option maxRecDepth 100000 in
set_option maxHeartbeats 1600000 in
theorem place_any {A : Option Addr} {n c : Nat} {l : List WayV} {i : Int} (w : World) (h : RdE wayEn w (Under w.heap.size) A n l) (hn : n ≤ 100000) :
    Calls Tryz.prog 129 #[.slice A n c, .int .i64 i] w (fun e w' => ∃ r : Int, e = .returned (.int .i64 r) ∧ w = w' ∧ decide (0 ≤ r) = cameW l i) := by
  have H := hide h
  have hl := h.1
  clear h
  go_enter Tryz.func129, Tryz.ntmps129
  go_wp2
  go_loopw [5] (fun iv wr => ∃ j : Nat, j ≤ n ∧ iv = .int .i64 j ∧ wr = w ∧ cameW (l.take j) i = false) (fun iv _ => n - (intOf iv).toNat)
  case atStart => exact ⟨0, by omega, rfl, rfl, by simp [cameW]⟩
  case round =>
    obtain ⟨j, hj, rfl, hwr, hc⟩ := hrel
    subst hwr
    have HC := hide hc
    clear hc
    by_cases hlt : j < n
    · obtain ⟨y, hy⟩ : ∃ y, l[j]? = some y := ⟨_, List.getElem?_eq_getElem (by omega)⟩
      obtain ⟨b, o, rfl, -, hcy⟩ := way_get H.out hy
      have q : wr.cell? ⟨b, o + j * 3, none⟩ = some (.int .i64 y.ino) := hcy 0 _ rfl
      have HY := hide hy
      clear hcy hy
      by_cases e : y.ino = i
      · have he : (y.ino == i) = true := by simpa using e
        have hca : cameW l i = true := came_iff.2 ⟨y, List.mem_of_getElem? HY.out, e⟩
        have HCA := hide hca
        clear e hca
        go_wp2
        go_ret
        exact ⟨(j : Int), rfl, rfl, by rw [HCA.out]; simp⟩
      · have he : (y.ino == i) = false := by simpa using e
        have hst : cameW (l.take (j + 1)) i = false := by
          have := HC.out
          unfold cameW at this ⊢
          rw [List.take_add_one, HY.out, List.any_append, this]
          simpa using e
        have HST := hide hst
        clear e hst
        go_wp2
        go_roundw
        case rel => exact ⟨j + 1, by omega, by go_num, (by first | rfl | trivial), HST.out⟩
        case measure => simp [intOf]; omega
    · obtain rfl : j = n := by omega
      have hca : cameW l i = false := by have := HC.out; rwa [List.take_of_length_le (by omega)] at this
      go_wp2
      go_ret
      exact ⟨-1, rfl, rfl, by rw [hca]; rfl⟩
/-- A literal of no elements. -/
theorem own_lit0 (w : World) (e s : Nat) {B base : Nat} (h : w.heap.size = B) (hb : base ≤ B) : (w.alloc (.cells #[] e)).ownsRow base e s (.slice (some ⟨B, 0, none⟩) 0 0) 0 [] := by
  subst h
  have h : (w.alloc (.cells #[] e)).ownsRow w.heap.size e s (.slice (some ⟨w.heap.size, 0, none⟩) 0 0) 0 [] := World.ownsRow_lit w #[] 0 (Nat.le_refl _) (by simp [maxLen]) (by simp)
  refine ⟨h.1, ?_⟩
  rcases h.2 with h1 | ⟨g, cap, cur, h1, h2, h3⟩
  · exact .inl h1
  · exact .inr ⟨g, cap, cur, h1, Nat.le_trans hb h2, h3⟩
/-- The entries so far, in a directory. -/
def entsW (ns : List NodV) (d : Int) (p : Nat) (s : StW) (l : List EntV) (i : Nat) : StW := ((l.zipIdx.take i).filter (fun x => isDir ns x.1.ino)).foldl (oneW d p) s
theorem entsW_zero (ns : List NodV) (d : Int) (p : Nat) (s : StW) (l : List EntV) : entsW ns d p s l 0 = s := by simp [entsW]
theorem entsW_succ {ns : List NodV} {d : Int} {p : Nat} {s : StW} {l : List EntV} {i : Nat} {x : EntV} (h : l[i]? = some x) : entsW ns d p s l (i + 1) = if isDir ns x.ino = true then oneW d p (entsW ns d p s l i) (x, i) else entsW ns d p s l i := by
  have hz : l.zipIdx[i]? = some (x, i) := by rw [List.getElem?_zipIdx, h]; simp
  unfold entsW
  rw [List.take_add_one, hz, List.filter_append, List.foldl_append]
  cases hd : isDir ns x.ino <;> simp [hd]
theorem entsW_pre {ns : List NodV} {d : Int} {p : Nat} {s : StW} {l : List EntV} {i : Nat} : s.1 <+: (entsW ns d p s l i).1 := by
  unfold entsW
  exact foldl_keep (P := fun t : StW => s.1 <+: t.1) _ _ (List.prefix_refl _) (fun _ _ _ hs => hs.trans one_pre)
theorem entsW_ok {ns : List NodV} {d : Int} {p : Nat} {s : StW} {l : List EntV} {i : Nat} (h : OkW ns s.1) : OkW ns (entsW ns d p s l i).1 := by
  unfold entsW
  exact foldl_keep (P := fun t : StW => OkW ns t.1) _ _ h (fun _ x hx hs => one_ok hs (List.mem_filter.1 hx).2)
theorem entsW_tw {ns : List NodV} {d : Int} {p : Nat} {s : StW} {l : List EntV} {i : Nat} : (entsW ns d p s l i).2.length ≤ s.2.length + l.length := by
  unfold entsW
  have h1 := fold_tw d p ((l.zipIdx.take i).filter (fun x => isDir ns x.1.ino)) s
  have h2 : ((l.zipIdx.take i).filter (fun x => isDir ns x.1.ino)).length ≤ l.length := Nat.le_trans (List.length_filter_le _ _) (by rw [List.length_take, List.length_zipIdx]; omega)
  omega
theorem entsW_all {ns : List NodV} {p : Nat} {s : StW} {y : WayV} (h : s.1[p]? = some y) : entsW ns y.ino p s (nodAt ns y.ino).ents (nodAt ns y.ino).ents.length = visitW ns p s := by
  unfold entsW visitW
  rw [List.take_of_length_le (by simp), h]
  rfl
set_option maxRecDepth 100000 in
set_option maxHeartbeats 1600000 in
theorem At_anyB {A : Option Addr} {B : Nat} {n c : Nat} {ns : List NodV} {i : Int} (w : World) (h : RdE nodEn w (Under B) A n ns) (hB : B ≤ w.heap.size) (hm : ns.length ≤ 100000) : Calls Tryz.prog 52 #[.agg #[.slice A n c], .int .i64 i] w (NodRet w B (nodAt ns i)) := by
  have hl := h.1
  obtain ⟨rz0, rz, hbz, -⟩ := rows2 w [.slice A n c] (nodC nod0 (.slice none 0 0) (.slice none 0 0)) 26 71
  have HZ := hide rz
  have HB := hide hbz
  have qb : ((w.alloc (.cells [Value.slice A n c].toArray 26)).alloc (.cells (nodC nod0 (.slice none 0 0) (.slice none 0 0)).toArray 71)).cell? ⟨w.heap.size, 0, none⟩ = some (.slice A n c) := rz0.cell 0
  have hN := h
  by_cases h1 : i < 1
  · have e : nodAt ns i = nod0 := nodAt_out (by omega)
    have d1 : decide (i < 1) = true := by simpa using h1
    rw [e]
    clear h hN rz rz0 hbz e
    go_enter Tryz.func52, Tryz.ntmps52
    go_wp2_with (refine wpList_storeW rfl 71 (.tmp 4) (.tmp 14) rfl 13 nod_size (w.heap.size + 1) 71 rfl (nodC nod0 (.slice none 0 0) (.slice none 0 0)) (nodC nod0 (.slice none 0 0) (.slice none 0 0)) rfl HZ.out rfl rfl (nodC_one nod0 none none 0 0 0 0) ?_; intro w9 hr9 hg9 hs9; have HR9 := hide hr9; have HB9 := hide (HB.out.grown hg9 HB.out.size (fun k hk => by have := Option.some.inj hk; omega)); clear hr9 hg9 hs9)
    exact bodyPost_ret (res_cell Tryz.results52 rfl nod_agg nod_size HR9.out rfl) rfl (NodRet.of (Nat.le_refl _) (RdE.none_ _ _ _ _) (Nat.le_refl _) (RdE.none_ _ _ _ _) HB9.out hB)
  · have d1 : decide (i < 1) = false := by simpa using h1
    by_cases h2 : (n : Int) < i
    · have e : nodAt ns i = nod0 := nodAt_out (by omega)
      have d2 : decide ((n : Int) < i) = true := by simpa using h2
      rw [e]
      clear h hN rz rz0 hbz e
      go_enter Tryz.func52, Tryz.ntmps52
      go_wp2_with (refine wpList_storeW rfl 71 (.tmp 4) (.tmp 14) rfl 13 nod_size (w.heap.size + 1) 71 rfl (nodC nod0 (.slice none 0 0) (.slice none 0 0)) (nodC nod0 (.slice none 0 0) (.slice none 0 0)) rfl HZ.out rfl rfl (nodC_one nod0 none none 0 0 0 0) ?_; intro w9 hr9 hg9 hs9; have HR9 := hide hr9; have HB9 := hide (HB.out.grown hg9 HB.out.size (fun k hk => by have := Option.some.inj hk; omega)); clear hr9 hg9 hs9)
      exact bodyPost_ret (res_cell Tryz.results52 rfl nod_agg nod_size HR9.out rfl) rfl (NodRet.of (Nat.le_refl _) (RdE.none_ _ _ _ _) (Nat.le_refl _) (RdE.none_ _ _ _ _) HB9.out hB)
    · have d2 : decide ((n : Int) < i) = false := by simpa using h2
      obtain ⟨j, x, rfl, hx, e⟩ := nodAt_in (ns := ns) (i := i) (by omega)
      rw [e]
      obtain ⟨b, o, cs, rfl, hbB, hNd, hcell⟩ := hN.get_nod hx
      have hjn : j < n := by omega
      have hcell1 := fun j' v (hv : cs[j']? = some v) => (hbz.cell (p := ⟨b, o + j * 13 + j', none⟩) (Nat.lt_of_lt_of_le hbB hB)).trans (hcell j' v hv)
      obtain ⟨A1, n1, c1, C1, m1, d1', rfl, e2, e3, e4, e5⟩ := hNd
      have HC := hide hcell1
      have E3 := hide e3
      have E5 := hide e5
      have hw1 : IntKind.i64.wrap ((j : Int) + 1 - 1) = (j : Int) := by rw [show (j : Int) + 1 - 1 = j from by omega]; exact IntWalk.i64_in _ (by omega)
      have hw2 : IntKind.i64.wrap (j : Int) = (j : Int) := IntWalk.i64_in _ (by omega)
      clear h hN rz rz0 hbz e hcell hcell1 e3 e5 hx h1 h2
      go_enter Tryz.func52, Tryz.ntmps52
      go_wp2_with (first | (refine wpList_loadX rfl 71 (.tmp 19) rfl 13 nod_agg nod_size b (o + j * 13) rfl (nodC x (.slice A1 n1 c1) (.slice C1 m1 d1')) HC.out rfl ?_) | (refine wpList_storeW rfl 71 (.tmp 4) (.tmp 20) rfl 13 nod_size (w.heap.size + 1) 71 rfl (nodC nod0 (.slice none 0 0) (.slice none 0 0)) (nodC x (.slice A1 n1 c1) (.slice C1 m1 d1')) rfl HZ.out rfl rfl (nodC_one x A1 C1 n1 c1 m1 d1') ?_; intro w9 hr9 hg9 hs9; have HR9 := hide hr9; have HB9 := hide (HB.out.grown hg9 HB.out.size (fun k hk => by have := Option.some.inj hk; omega)); clear hr9 hg9 hs9))
      exact bodyPost_ret (res_cell Tryz.results52 rfl nod_agg nod_size HR9.out rfl) rfl (NodRet.of e2 E3.out e4 E5.out HB9.out hB)
theorem two_way {B : Nat} {W0 wr w9 : World} {v6 v7 : Value} {n6 n7 e6 e7 s6 s7 : Nat} {L6 L7 cs : List Value} {t : Nat} (ho6 : wr.ownsRow B e6 s6 v6 n6 L6) (ho7 : wr.ownsRow B e7 s7 v7 n7 L7) (he : e6 ≠ e7) (hb : Below B W0 wr) (hB : B ≤ wr.heap.size) (hg : (wr.alloc (.cells cs.toArray t)).grownBy w9 v6.ownBlock) : w9.ownsRow B e7 s7 v7 n7 L7 ∧ Below B W0 w9 := by
  have ha := below_new (below_self wr) (.cells cs.toArray t)
  have h6 := ownsRow_below ho6 ha
  have h7 := ownsRow_below ho7 ha
  exact ⟨h7.kept hg (owns_apart h6 h7 he), (hb.trans (ha.mono hB)).grown hg (by have := ha.size; omega) (fun q hq => (own_block h6 q hq).1)⟩
end Go.Proofs.YtnehkgbdppbhiaaGreat

/- nodes.Beneath and nodes.Lower: a lower layer, and the node of a place in one. -/
namespace Go.Proofs.YtnehkgbdppbhiaaGreat
open Go.RowKit Go.Shelf Plain

/-- A layout, as four numbers. -/
structure GeoQ where
  (a b c d : Int)
/-- A stack's cells. -/
def stkC (g : GeoQ) (U L : Value) : List Value := [.int .i64 g.a, .int .i64 g.b, .int .i64 g.c, .int .i64 g.d, U, L]
/-- A layer: a slice of nodes. -/
def layEn : Enc (List NodV) := Enc.list nodEn
/-- It returns a layer. -/
def LayB (w : World) (B : Nat) (ns : List NodV) (e : Ending) (w' : World) : Prop := ∃ A n c, e = .returned (.agg #[.slice A n c]) ∧ n ≤ c ∧ RdE nodEn w' (Under B) A n ns ∧ Below w.heap.size w w'
theorem lay_out {ls : List (List NodV)} {la : Int} (h : ¬ (1 ≤ la ∧ la ≤ (ls.length : Int))) : layL ls la = [] := by unfold layL; rw [if_neg h]
theorem lay_in {ls : List (List NodV)} {la : Int} (h : 1 ≤ la ∧ la ≤ (ls.length : Int)) : ∃ (j : Nat) (ns : List NodV), la = (j : Int) + 1 ∧ ls[j]? = some ns ∧ layL ls la = ns := by
  obtain ⟨j, hj⟩ := Int.eq_ofNat_of_zero_le (show 0 ≤ la - 1 by omega)
  have hl : j < ls.length := by omega
  refine ⟨j, ls[j], by omega, List.getElem?_eq_getElem hl, ?_⟩
  unfold layL
  rw [if_pos h, hj]
  simp [hl]
theorem slc_one (A : Option Addr) (n c : Nat) : ∀ v ∈ [Value.slice A n c], v.oneCell' = true := by simp [Value.oneCell']
set_option maxRecDepth 100000 in
theorem stk_agg : ∀ w, (isAgg 29).run Tryz.prog w = .ok true w := fun w => by kernel_rfl
set_option maxRecDepth 100000 in
theorem stk_size : ∀ w, (Go.sizeOf 29).run Tryz.prog w = .ok 6 w := fun w => by kernel_rfl
set_option maxRecDepth 100000 in
theorem plc_agg : ∀ w, (isAgg 36).run Tryz.prog w = .ok true w := fun w => by kernel_rfl
set_option maxRecDepth 100000 in
theorem plc_size : ∀ w, (Go.sizeOf 36).run Tryz.prog w = .ok 2 w := fun w => by kernel_rfl
set_option maxRecDepth 100000 in
theorem brn_agg : ∀ w, (isAgg 26).run Tryz.prog w = .ok true w := fun w => by kernel_rfl
set_option maxRecDepth 100000 in
theorem brn_size : ∀ w, (Go.sizeOf 26).run Tryz.prog w = .ok 1 w := fun w => by kernel_rfl
set_option maxRecDepth 100000 in
set_option maxHeartbeats 1600000 in
theorem Beneath_any {g : GeoQ} {AU AL : Option Addr} {nU cU nL cL : Nat} {ls : List (List NodV)} {la : Int} {B : Nat} (w : World) (h : RdE layEn w (Under B) AL nL ls) (hB : B ≤ w.heap.size) (hm : ls.length ≤ 100) :
    Calls Tryz.prog 106 #[.agg (stkC g (.slice AU nU cU) (.slice AL nL cL)).toArray, .int .i64 la] w (LayB w B (layL ls la)) := by
  obtain ⟨r0, r1, hb2, hs2⟩ := rows2 w (stkC g (.slice AU nU cU) (.slice AL nL cL)) [.slice none 0 0] 29 26
  obtain ⟨W3, hW3⟩ : ∃ W3, (w.alloc (.cells (stkC g (.slice AU nU cU) (.slice AL nL cL)).toArray 29)).alloc (.cells [Value.slice none 0 0].toArray 26) = W3 := ⟨_, rfl⟩
  rw [hW3] at r0 r1 hb2 hs2
  have hW3' : (w.alloc (.cells #[.int .i64 g.a, .int .i64 g.b, .int .i64 g.c, .int .i64 g.d, .slice AU nU cU, .slice AL nL cL] 29)).alloc (.cells #[.slice none 0 0] 26) = W3 := hW3
  have hl := h.1
  have q5 : W3.cell? ⟨w.heap.size, 5, none⟩ = some (.slice AL nL cL) := r0.cell 5
  have HZ := hide r1
  have HB3 := hide hb2
  have hs3 : w.heap.size ≤ W3.heap.size := hb2.size
  have HL := hide (h.under hb2 hB)
  unfold stkC
  by_cases h1 : la ≤ 0
  · have e : layL ls la = [] := lay_out (by omega)
    have d1 : decide (la ≤ 0) = true := by simpa using h1
    rw [e]
    clear h r0 r1 hb2 hW3 e h1
    go_enter Tryz.func106, Tryz.ntmps106
    go_wp2_with (refine wpList_storeW rfl 26 (.tmp 4) (.tmp 14) rfl 1 brn_size (w.heap.size + 1) 26 rfl [.slice none 0 0] [.slice none 0 0] rfl HZ.out rfl rfl (slc_one _ _ _) ?_; intro w9 hr9 hg9 hs9; have HR9 := hide hr9; have HB9 := hide (HB3.out.grown hg9 HB3.out.size (fun k hk => by have := Option.some.inj hk; omega)); clear hr9 hg9 hs9)
    exact bodyPost_ret (res_cell Tryz.results106 rfl brn_agg brn_size HR9.out rfl) rfl ⟨none, 0, 0, rfl, Nat.le_refl _, RdE.none_ _ _ _ _, HB9.out⟩
  · have d1 : decide (la ≤ 0) = false := by simpa using h1
    by_cases h2 : (nL : Int) < la
    · have e : layL ls la = [] := lay_out (by omega)
      have d2 : decide ((nL : Int) < la) = true := by simpa using h2
      rw [e]
      clear h r0 r1 hb2 hW3 e h1 h2
      go_enter Tryz.func106, Tryz.ntmps106
      go_wp2_with (refine wpList_storeW rfl 26 (.tmp 4) (.tmp 14) rfl 1 brn_size (w.heap.size + 1) 26 rfl [.slice none 0 0] [.slice none 0 0] rfl HZ.out rfl rfl (slc_one _ _ _) ?_; intro w9 hr9 hg9 hs9; have HR9 := hide hr9; have HB9 := hide (HB3.out.grown hg9 HB3.out.size (fun k hk => by have := Option.some.inj hk; omega)); clear hr9 hg9 hs9)
      exact bodyPost_ret (res_cell Tryz.results106 rfl brn_agg brn_size HR9.out rfl) rfl ⟨none, 0, 0, rfl, Nat.le_refl _, RdE.none_ _ _ _ _, HB9.out⟩
    · have d2 : decide ((nL : Int) < la) = false := by simpa using h2
      obtain ⟨j, ns, hla, hns, e⟩ := lay_in (ls := ls) (la := la) (by omega)
      rw [e]
      obtain ⟨bL, oL, hAL, hbL, A2, n2, c2, hcL, hc2, hN2⟩ := RdE.get_list (F := nodEn) HL.out hns
      have hjn : j < nL := by omega
      have HNS := hide hN2
      subst hla
      subst hAL
      have hw1 : IntKind.i64.wrap ((j : Int) + 1 - 1) = (j : Int) := by rw [show (j : Int) + 1 - 1 = j from by omega]; exact IntWalk.i64_in _ (by omega)
      have hw2 : IntKind.i64.wrap (j : Int) = (j : Int) := IntWalk.i64_in _ (by omega)
      have hjl : (j : Int) < (nL : Int) := by omega
      clear h r0 r1 hb2 hW3 e h1 h2 hN2 hns hl
      go_enter Tryz.func106, Tryz.ntmps106
      go_wp2_with (first | fail | (refine wpList_storeW rfl 26 (.tmp 4) (.tmp 20) rfl 1 brn_size (w.heap.size + 1) 26 rfl [.slice none 0 0] [.slice A2 n2 c2] rfl HZ.out rfl rfl (slc_one _ _ _) ?_; intro w9 hr9 hg9 hs9; have HR9 := hide hr9; have HB9 := hide (HB3.out.grown hg9 HB3.out.size (fun k hk => by have := Option.some.inj hk; omega)); have HN9 := hide (HNS.out.mono (show Kept (Under B) W3 w9 from fun b hb => hg9.block b (by unfold Under at hb; omega) (fun e => by have := Option.some.inj e; unfold Under at hb; omega)) (fun _ h => h)); clear hr9 hg9 hs9))
      exact bodyPost_ret (res_cell Tryz.results106 rfl brn_agg brn_size HR9.out rfl) rfl ⟨A2, n2, c2, rfl, hc2, HN9.out, HB9.out⟩
theorem Beneath_e {g : GeoQ} {AU AL : Option Addr} {nU cU nL cL : Nat} {ls : List (List NodV)} {ns : List NodV} {la : Int} {B : Nat} (hx : layL ls la = ns) (w : World) (h : RdE layEn w (Under B) AL nL ls) (hB : B ≤ w.heap.size) (hm : ls.length ≤ 100) :
    Calls Tryz.prog 106 #[.agg (stkC g (.slice AU nU cU) (.slice AL nL cL)).toArray, .int .i64 la] w (LayB w B ns) := by rw [← hx]; exact Beneath_any w h hB hm
theorem Of_e {A : Option Addr} {B : Nat} {n c : Nat} {ns : List NodV} {i : Int} {x : NodV} (hx : nodAt ns i = x) (w : World) (h : RdE nodEn w (Under B) A n ns) (hB : B ≤ w.heap.size) (hm : ns.length ≤ 100000) : Calls Tryz.prog 55 #[.agg #[.slice A n c], .int .i64 i] w (NodRet w B x) := by rw [← hx]; exact Of_any w h hB hm
theorem layL_len {ls : List (List NodV)} (h : ∀ ns ∈ ls, ns.length ≤ 1000) (la : Int) : (layL ls la).length ≤ 1000 := by
  unfold layL
  split
  · cases hx : ls[(la - 1).toNat]? with
    | none => simp
    | some ns => exact h ns (List.mem_of_getElem? hx)
  · simp
set_option maxRecDepth 100000 in
set_option maxHeartbeats 4000000 in
theorem NLower_any {g : GeoQ} {AU AL : Option Addr} {nU cU nL cL : Nat} {ls : List (List NodV)} {la i : Int} {B : Nat} (w : World) (h : RdE layEn w (Under B) AL nL ls) (hB : B ≤ w.heap.size) (hm : ls.length ≤ 100) (hm2 : ∀ ns ∈ ls, ns.length ≤ 1000) :
    Calls Tryz.prog 99 #[.agg (stkC g (.slice AU nU cU) (.slice AL nL cL)).toArray, .agg #[.int .i64 la, .int .i64 i]] w (NodRet w B (lowAt ls la i)) := by
  obtain ⟨r0, r1, r2, hb3, hs3⟩ := rows3 w (stkC g (.slice AU nU cU) (.slice AL nL cL)) [.int .i64 la, .int .i64 i] (nodC nod0 (.slice none 0 0) (.slice none 0 0)) 29 36 71
  obtain ⟨W3, hW3⟩ : ∃ W3, ((w.alloc (.cells (stkC g (.slice AU nU cU) (.slice AL nL cL)).toArray 29)).alloc (.cells [Value.int .i64 la, .int .i64 i].toArray 36)).alloc (.cells (nodC nod0 (.slice none 0 0) (.slice none 0 0)).toArray 71) = W3 := ⟨_, rfl⟩
  rw [hW3] at r0 r1 r2 hb3 hs3
  have hW3' : ((w.alloc (.cells #[.int .i64 g.a, .int .i64 g.b, .int .i64 g.c, .int .i64 g.d, .slice AU nU cU, .slice AL nL cL] 29)).alloc (.cells #[.int .i64 la, .int .i64 i] 36)).alloc (.cells #[.int .i64 0, .int .i64 0, .int .i64 0, .int .i64 0, .slice none 0 0, .slice none 0 0, .int .i64 0, .int .i64 0, .string ⟨#[]⟩, .int .i64 0, .int .i64 0, .int .i64 0, .int .i64 0] 71) = W3 := hW3
  have HQ0 := hide (fun W (hb : Below W3.heap.size W3 W) => show W.cell? ⟨w.heap.size + 1, 0, none⟩ = some (.int .i64 la) from (r1.on hb).cell 0)
  have HQ1 := hide (fun W (hb : Below W3.heap.size W3 W) => show W.cell? ⟨w.heap.size + 1, 1, none⟩ = some (.int .i64 i) from (r1.on hb).cell 1)
  have R0 := hide r0
  have R2 := hide r2
  have HB3 := hide hb3
  have hs3 : w.heap.size ≤ W3.heap.size := hb3.size
  have HL := hide (h.under hb3 hB)
  have hlay := layL_len hm2 la
  rw [← lay_at]
  obtain ⟨x, hx⟩ : ∃ x, nodAt (layL ls la) i = x := ⟨_, rfl⟩
  obtain ⟨ly, hly⟩ : ∃ ly, layL ls la = ly := ⟨_, rfl⟩
  rw [hly] at hx hlay
  have HLY := hide hly
  unfold stkC
  clear h r0 r1 r2 hb3 hW3
  rw [hly, hx]
  have HX := hide hx
  clear hx hly
  go_enter Tryz.func99, Tryz.ntmps99
  go_wp2_with fail
  clear hW3'
  refine wp_region_planL (fun w' => Below W3.heap.size W3 w') [(0, true), (1, true), (2, true), (4, true), (5, true), (3, false), (6, false)] 7 (by kernel_rfl) (by kernel_rfl) (by kernel_rfl) (by kernel_rfl) (by kernel_rfl) rfl (fun _ _ _ _ _ h => h) (below_drew (below_self W3)) (fun hHeld => ?_)
  simp only [planOps, List.filterMap_cons, List.filterMap_nil, List.getElem?_toArray, List.getElem?_cons_succ, List.getElem?_cons_zero, Option.map_some]
  refine wpPlan_take (v := ?_) (by kernel_rfl) (fun wS hSw => ?_) ?_
  rotate_left
  · refine execOp_load (x := .tmp 2) (k := 6) (g := w.heap.size) (off := 0) (cs := stkC g (.slice AU nU cU) (.slice AL nL cL)) ?_ stk_agg stk_size ?_ (fun j v hv => by rw [Nat.zero_add]; exact ((R0.out.on hSw).cell j).trans hv) rfl <;> rfl
  (try simp only [Act.put, List.setIfInBounds_toArray, List.set_cons_zero, List.set_cons_succ])
  refine wpPlan_take (v := ?_) (by kernel_rfl) (fun wS hSw => ?_) ?_
  rotate_left
  · (try dsimp only at hSw); go_simp; (try with_reducible rfl)
  (try simp only [Act.put, List.setIfInBounds_toArray, List.set_cons_zero, List.set_cons_succ])
  refine wpPlan_take (v := ?_) (by kernel_rfl) (fun wS hSw => ?_) ?_
  rotate_left
  · have qx := HQ0.out wS hSw; go_simp; (try with_reducible rfl)
  (try simp only [Act.put, List.setIfInBounds_toArray, List.set_cons_zero, List.set_cons_succ])
  refine wpPlan_take (v := ?_) (by kernel_rfl) (fun wS hSw => ?_) ?_
  rotate_left
  · (try dsimp only at hSw); go_simp; (try with_reducible rfl)
  (try simp only [Act.put, List.setIfInBounds_toArray, List.set_cons_zero, List.set_cons_succ])
  refine wpPlan_take (v := ?_) (by kernel_rfl) (fun wS hSw => ?_) ?_
  rotate_left
  · have qx := HQ1.out wS hSw; go_simp; (try with_reducible rfl)
  (try simp only [Act.put, List.setIfInBounds_toArray, List.set_cons_zero, List.set_cons_succ])
  refine wpPlan_call (by kernel_rfl) (fun K hK => ?_)
  have hOld := hide hHeld
  clear hHeld
  go_simp
  go_at_call 106
  refine (Beneath_e HLY.out (B := B) _ (HL.out.under hOld.out (by omega)) (by have := hOld.out.size; omega) hm).mono ?_
  rintro e w' ⟨A1, n1, c1, rfl, e2, e3, hbel⟩
  have HN := hide e3
  clear e3
  refine hK.out _ _ (hOld.out.trans (hbel.mono hOld.out.size)) (fun hHeld => ?_)
  clear hK K
  (try simp only [Act.put, List.setIfInBounds_toArray, List.set_cons_zero, List.set_cons_succ])
  refine wpPlan_call (by kernel_rfl) (fun K hK => ?_)
  have hOld := hide hHeld
  clear hHeld
  go_simp
  go_at_call 55
  refine (Of_e HX.out (B := B) _ HN.out (by have := hOld.out.size; omega) (by omega)).mono ?_
  rintro e w' ⟨A2, n2, c2, C2, m2, d2, rfl, f2, f3, f4, f5, hbel⟩
  have E3 := hide f3
  have E5 := hide f5
  clear f3 f5
  refine hK.out _ _ (hOld.out.trans (hbel.mono hOld.out.size)) (fun hHeld => ?_)
  clear hK K
  (try simp only [Act.put, List.setIfInBounds_toArray, List.set_cons_zero, List.set_cons_succ])
  refine wpPlan_end ?_
  refine postL_go rfl (by kernel_rfl) ?_
  have R9 := hide (R2.out.on hHeld)
  have HBX := hide (HB3.out.trans (hHeld.mono hs3))
  have hsX := hHeld.size
  clear hHeld
  refine wp_storeC 71 (.tmp 4) (.tmp 11) rfl 13 nod_size (w.heap.size + 1 + 1) 0 71 rfl (nodC nod0 (.slice none 0 0) (.slice none 0 0)) (nodC x (.slice A2 n2 c2) (.slice C2 m2 d2)) rfl R9.out rfl (by exact Nat.le_refl _) (nodC_one _ _ _ _ _ _ _) ?_
  intro w9 hr9 hg9 hs9
  have e9 : splice (nodC nod0 (.slice none 0 0) (.slice none 0 0)) 0 (nodC x (.slice A2 n2 c2) (.slice C2 m2 d2)) = nodC x (.slice A2 n2 c2) (.slice C2 m2 d2) := by simp [splice, nodC]
  rw [e9] at hr9
  have HR9 := hide hr9
  have HG9 := hide hg9
  clear hr9 hg9 e9
  (try simp only [Act.put])
  go_wp2_with fail
  have hk : Kept (Under B) w' w9 := fun b hb => HG9.out.block b (by unfold Under at hb; omega) (fun e => by have := Option.some.inj e; unfold Under at hb; omega)
  exact bodyPost_ret (res_cell Tryz.results99 rfl nod_agg nod_size HR9.out rfl) rfl ⟨A2, n2, c2, C2, m2, d2, rfl, f2, E3.out.mono hk (fun _ h => h), f4, E5.out.mono hk (fun _ h => h), HBX.out.grown HG9.out (by omega) (fun k hk => by have := Option.some.inj hk; omega)⟩
end Go.Proofs.YtnehkgbdppbhiaaGreat

/- nodes.Has, nodes.Marked, nodes.Entries, nodes.First. -/
namespace Go.Proofs.YtnehkgbdppbhiaaGreat
open Go.RowKit Go.Shelf Plain

theorem bit_one : ∀ h : Fin 32, (bits .and .i64 (h.1 : Int) 1 != 0) = decide ((h.1 : Int) % 2 = 1) := by decide +kernel
theorem bit_one' {h : Int} (h0 : 0 ≤ h) (h1 : h ≤ 31) : (bits .and .i64 h 1 != 0) = decide (h % 2 = 1) := by
  obtain ⟨n, rfl⟩ := Int.eq_ofNat_of_zero_le h0
  exact bit_one ⟨n, by omega⟩
theorem bit_is1 : ∀ h : Fin 32, (bits .and .i64 (h.1 : Int) 1 == 1) = decide ((h.1 : Int) % 2 = 1) := by decide +kernel
theorem bit_is1' {h : Int} (h0 : 0 ≤ h) (h1 : h ≤ 31) : (bits .and .i64 h 1 == 1) = decide (h % 2 = 1) := by
  obtain ⟨n, rfl⟩ := Int.eq_ofNat_of_zero_le h0
  exact bit_is1 ⟨n, by omega⟩
theorem bit_is2 : ∀ h : Fin 32, (bits .and .i64 (h.1 : Int) 2 == 2) = decide ((h.1 : Int) / 2 % 2 = 1) := by decide +kernel
theorem bit_is2' {h : Int} (h0 : 0 ≤ h) (h1 : h ≤ 31) : (bits .and .i64 h 2 == 2) = decide (h / 2 % 2 = 1) := by
  obtain ⟨n, rfl⟩ := Int.eq_ofNat_of_zero_le h0
  exact bit_is2 ⟨n, by omega⟩
theorem bit_is20 : ∀ h : Fin 32, (bits .and .i64 (h.1 : Int) 20 == 20) = (decide ((h.1 : Int) / 4 % 2 = 1) && decide ((h.1 : Int) / 16 % 2 = 1)) := by decide +kernel
theorem bit_is20' {h : Int} (h0 : 0 ≤ h) (h1 : h ≤ 31) : (bits .and .i64 h 20 == 20) = (decide (h / 4 % 2 = 1) && decide (h / 16 % 2 = 1)) := by
  obtain ⟨n, rfl⟩ := Int.eq_ofNat_of_zero_le h0
  exact bit_is20 ⟨n, by omega⟩
set_option maxRecDepth 100000 in
set_option maxHeartbeats 1600000 in
theorem NHas_b {x : NodV} {D C : Option Addr} {n c m d : Nat} {q : Int} {b : Bool} (hb : (bits .and .i64 x.att.h q == q) = b) (w : World) : Calls Tryz.prog 100 #[.agg (nodC x (.slice D n c) (.slice C m d)).toArray, .int .i64 q] w (BoolB w b) := by
  have r := RowL.new w 71 (nodC x (.slice D n c) (.slice C m d))
  have hb1 := below_new (below_self w) (.cells (nodC x (.slice D n c) (.slice C m d)).toArray 71)
  obtain ⟨W1, hW1⟩ : ∃ W1, w.alloc (.cells (nodC x (.slice D n c) (.slice C m d)).toArray 71) = W1 := ⟨_, rfl⟩
  rw [hW1] at r hb1
  have hW1' : w.alloc (.cells #[.int .i64 x.k, .int .i64 x.p, .int .i64 x.n, .int .i64 x.g, .slice D n c, .slice C m d, .int .i64 x.att.h, .int .i64 x.att.o, .string ⟨x.att.r.toArray⟩, .int .i64 x.att.l, .int .i64 x.att.i, .int .i64 x.att.g, .int .i64 x.att.s] 71) = W1 := hW1
  have q6 : W1.cell? ⟨w.heap.size, 6, none⟩ = some (.int .i64 x.att.h) := r.cell 6
  have HB1 := hide hb1
  have HBB := hide hb
  unfold nodC
  clear r hb1 hW1
  go_enter Tryz.func100, Tryz.ntmps100
  go_wp2
  go_ret
  exact BoolB.of HB1.out
set_option maxRecDepth 100000 in
set_option maxHeartbeats 1600000 in
theorem Marked_b {x : NodV} {D C : Option Addr} {n c m d : Nat} {b : Bool} (hb : opq x = b) (h0 : 0 ≤ x.att.h) (h1 : x.att.h ≤ 31) (w : World) : Calls Tryz.prog 71 #[.agg (nodC x (.slice D n c) (.slice C m d)).toArray] w (BoolB w b) := by
  have r := RowL.new w 71 (nodC x (.slice D n c) (.slice C m d))
  have hb1 := below_new (below_self w) (.cells (nodC x (.slice D n c) (.slice C m d)).toArray 71)
  obtain ⟨W1, hW1⟩ : ∃ W1, w.alloc (.cells (nodC x (.slice D n c) (.slice C m d)).toArray 71) = W1 := ⟨_, rfl⟩
  rw [hW1] at r hb1
  have hW1' : w.alloc (.cells #[.int .i64 x.k, .int .i64 x.p, .int .i64 x.n, .int .i64 x.g, .slice D n c, .slice C m d, .int .i64 x.att.h, .int .i64 x.att.o, .string ⟨x.att.r.toArray⟩, .int .i64 x.att.l, .int .i64 x.att.i, .int .i64 x.att.g, .int .i64 x.att.s] 71) = W1 := hW1
  have R := hide r
  have HB1 := hide hb1
  obtain ⟨b1, hb1'⟩ : ∃ b1, (bits .and .i64 x.att.h 1 == 1) = b1 := ⟨_, rfl⟩
  obtain ⟨b2, hb2⟩ : ∃ b2, (x.att.o == 121) = b2 := ⟨_, rfl⟩
  have e : b = (b1 && b2) := by
    rw [← hb, ← hb1', ← hb2, bit_is1' h0 h1]
    unfold opq
    congr 1
  have HB1' := hide hb1'
  subst e
  unfold nodC
  clear r hb1 hW1 hb h0 h1 hb1'
  cases b1 <;> cases b2
  all_goals
    go_enter Tryz.func71, Tryz.ntmps71
    go_wp2_with (first | (refine wpList_loadW rfl 71 (.tmp 1) rfl 13 nod_agg nod_size w.heap.size 71 rfl (nodC x (.slice D n c) (.slice C m d)) R.out rfl ?_) | (go_at_call 100; refine (NHas_b HB1'.out _).mono ?_; rintro e w' ⟨rfl, hb3⟩; have q7 : w'.cell? ⟨w.heap.size, 7, none⟩ = some (.int .i64 x.att.o) := (R.out.on hb3).cell 7; have HB3 := hide hb3; clear hb3))
    go_ret
    exact BoolB.of (HB1.out.trans (HB3.out.mono HB1.out.size))
/-- It returns entries. -/
def EntsRet (w : World) (B : Nat) (l : List EntV) (e : Ending) (w' : World) : Prop := ∃ C m d, e = .returned (.slice C m d) ∧ m ≤ d ∧ RdE entEn w' (Under B) C m l ∧ Below w.heap.size w w'
set_option maxRecDepth 100000 in
set_option maxHeartbeats 4000000 in
theorem Entries_any {A : Option Addr} {n c : Nat} {ns : List NodV} {i : Int} {B : Nat} (w : World) (h : RdE nodEn w (Under B) A n ns) (hB : B ≤ w.heap.size) (hm : ns.length ≤ 100000) :
    Calls Tryz.prog 63 #[.agg #[.slice A n c], .int .i64 i] w (EntsRet w B (entB ns i)) := by
  have r0 := RowL.new w 26 [.slice A n c]
  have hb1 := below_new (below_self w) (.cells [Value.slice A n c].toArray 26)
  obtain ⟨W1, hW1⟩ : ∃ W1, w.alloc (.cells [Value.slice A n c].toArray 26) = W1 := ⟨_, rfl⟩
  rw [hW1] at r0 hb1
  have hW1' : w.alloc (.cells #[.slice A n c] 26) = W1 := hW1
  have q0 : W1.cell? ⟨w.heap.size, 0, none⟩ = some (.slice A n c) := r0.cell 0
  have HB1 := hide hb1
  have HL := hide (h.under hb1 hB)
  have hs1 : w.heap.size ≤ W1.heap.size := hb1.size
  obtain ⟨x, hx⟩ : ∃ x, nodAt ns i = x := ⟨_, rfl⟩
  have HX := hide hx
  obtain ⟨bk, hbk⟩ : ∃ bk, (x.k != 1) = bk := ⟨_, rfl⟩
  have HE := hide (show entB ns i = if bk = true then [] else x.ents from by
    unfold entB
    rw [hx, ← hbk]
    by_cases hk : x.k = 1 <;> simp [hk])
  clear r0 hb1 hW1 h hx
  rw [HE.out]
  go_enter Tryz.func63, Tryz.ntmps63
  cases bk
  all_goals
    go_wp2_with (first | (go_at_call 55; refine (Of_e HX.out W1 HL.out (Nat.le_trans hB hs1) hm).mono ?_; rintro e w3 ⟨A1, n1, c1, C1, m1, d1, rfl, e2, e3, e4, e5, hb3⟩; have E5 := hide e5; have HB3 := hide (HB1.out.trans (hb3.mono hs1)); have hs3 := hb3.size; have HZ := hide (RowL.new w3 71 (nodC nod0 (.slice none 0 0) (.slice none 0 0))); clear e3 e5 hb3) | (refine wpList_storeW rfl 71 (.tmp 5) (.tmp 8) rfl 13 nod_size w3.heap.size 71 rfl (nodC nod0 (.slice none 0 0) (.slice none 0 0)) (nodC x (.slice A1 n1 c1) (.slice C1 m1 d1)) rfl HZ.out rfl rfl (nodC_one _ _ _ _ _ _ _) ?_; intro w4 hr4 hg4 hs4; have hb4 := below_stored' hg4; have q0 : w4.cell? ⟨w3.heap.size, 0, none⟩ = some (.int .i64 x.k) := hr4.cell 0; have q5 : w4.cell? ⟨w3.heap.size, 5, none⟩ = some (.slice C1 m1 d1) := hr4.cell 5; have HB4 := hide (HB3.out.trans (hb4.mono HB3.out.size)); have E6 := hide (E5.out.under hb4 (by omega)); clear hr4 hg4 hs4 hb4))
    go_ret
    first | exact ⟨C1, m1, d1, rfl, e4, E6.out, HB4.out⟩ | exact ⟨none, 0, 0, rfl, Nat.le_refl _, RdE.none_ _ _ _ _, HB4.out⟩
end Go.Proofs.YtnehkgbdppbhiaaGreat

/- The reference's node of a place in a lower layer (layers 15, 16). -/
namespace Go.Proofs.YtnehkgbdppbhiaaGreat
open Go.RowKit Go.Shelf Plain

set_option maxRecDepth 100000 in
set_option maxHeartbeats 4000000 in
theorem RLower_any {g : GeoQ} {AU AL : Option Addr} {nU cU nL cL : Nat} {ls : List (List NodV)} {la i : Int} {B : Nat} (w : World) (h : RdE layEn w (Under B) AL nL ls) (hB : B ≤ w.heap.size) (hm : ls.length ≤ 100) (hm2 : ∀ ns ∈ ls, ns.length ≤ 1000) :
    Calls Tryz.prog 98 #[.agg (stkC g (.slice AU nU cU) (.slice AL nL cL)).toArray, .agg #[.int .i64 la, .int .i64 i]] w (NodRet w B (lowAt ls la i)) := by
  obtain ⟨r0, r1, r2, hb3, hs3⟩ := rows3 w (stkC g (.slice AU nU cU) (.slice AL nL cL)) [.int .i64 la, .int .i64 i] (nodC nod0 (.slice none 0 0) (.slice none 0 0)) 29 36 71
  obtain ⟨W3, hW3⟩ : ∃ W3, ((w.alloc (.cells (stkC g (.slice AU nU cU) (.slice AL nL cL)).toArray 29)).alloc (.cells [Value.int .i64 la, .int .i64 i].toArray 36)).alloc (.cells (nodC nod0 (.slice none 0 0) (.slice none 0 0)).toArray 71) = W3 := ⟨_, rfl⟩
  rw [hW3] at r0 r1 r2 hb3 hs3
  have hW3' : ((w.alloc (.cells #[.int .i64 g.a, .int .i64 g.b, .int .i64 g.c, .int .i64 g.d, .slice AU nU cU, .slice AL nL cL] 29)).alloc (.cells #[.int .i64 la, .int .i64 i] 36)).alloc (.cells #[.int .i64 0, .int .i64 0, .int .i64 0, .int .i64 0, .slice none 0 0, .slice none 0 0, .int .i64 0, .int .i64 0, .string ⟨#[]⟩, .int .i64 0, .int .i64 0, .int .i64 0, .int .i64 0] 71) = W3 := hW3
  have hl := h.1
  have q5 : W3.cell? ⟨w.heap.size, 5, none⟩ = some (.slice AL nL cL) := r0.cell 5
  have p0 : W3.cell? ⟨w.heap.size + 1, 0, none⟩ = some (.int .i64 la) := r1.cell 0
  have HQL := hide (fun W (hb : Below W3.heap.size W3 W) => show W.cell? ⟨w.heap.size, 5, none⟩ = some (.slice AL nL cL) from (r0.on hb).cell 5)
  have HQ0 := hide (fun W (hb : Below W3.heap.size W3 W) => show W.cell? ⟨w.heap.size + 1, 0, none⟩ = some (.int .i64 la) from (r1.on hb).cell 0)
  have HQ1 := hide (fun W (hb : Below W3.heap.size W3 W) => show W.cell? ⟨w.heap.size + 1, 1, none⟩ = some (.int .i64 i) from (r1.on hb).cell 1)
  have R2 := hide r2
  have HB3 := hide hb3
  have hs3 : w.heap.size ≤ W3.heap.size := hb3.size
  have HL := hide (h.under hb3 hB)
  unfold stkC
  by_cases h1 : la < 1
  · have e : lowAt ls la i = nod0 := low_out (by omega)
    have d1 : decide (la < 1) = true := by simpa using h1
    rw [e]
    clear h r0 r1 r2 hb3 hW3 e h1
    go_enter Tryz.func98, Tryz.ntmps98
    go_wp2_with (refine wpList_storeW rfl 71 (.tmp 4) (.tmp 16) rfl 13 nod_size (w.heap.size + 1 + 1) 71 rfl (nodC nod0 (.slice none 0 0) (.slice none 0 0)) (nodC nod0 (.slice none 0 0) (.slice none 0 0)) rfl R2.out rfl rfl (nodC_one nod0 none none 0 0 0 0) ?_; intro w9 hr9 hg9 hs9; have HR9 := hide hr9; have HB9 := hide (HB3.out.grown hg9 HB3.out.size (fun k hk => by have := Option.some.inj hk; omega)); clear hr9 hg9)
    exact bodyPost_ret (res_cell Tryz.results98 rfl nod_agg nod_size HR9.out rfl) rfl (NodRet.of (Nat.le_refl _) (RdE.none_ _ _ _ _) (Nat.le_refl _) (RdE.none_ _ _ _ _) HB9.out hB)
  · have d1 : decide (la < 1) = false := by simpa using h1
    by_cases h2 : (nL : Int) < la
    · have e : lowAt ls la i = nod0 := low_out (by omega)
      have d2 : decide ((nL : Int) < la) = true := by simpa using h2
      rw [e]
      clear h r0 r1 r2 hb3 hW3 e h1 h2
      go_enter Tryz.func98, Tryz.ntmps98
      go_wp2_with (refine wpList_storeW rfl 71 (.tmp 4) (.tmp 16) rfl 13 nod_size (w.heap.size + 1 + 1) 71 rfl (nodC nod0 (.slice none 0 0) (.slice none 0 0)) (nodC nod0 (.slice none 0 0) (.slice none 0 0)) rfl R2.out rfl rfl (nodC_one nod0 none none 0 0 0 0) ?_; intro w9 hr9 hg9 hs9; have HR9 := hide hr9; have HB9 := hide (HB3.out.grown hg9 HB3.out.size (fun k hk => by have := Option.some.inj hk; omega)); clear hr9 hg9)
      exact bodyPost_ret (res_cell Tryz.results98 rfl nod_agg nod_size HR9.out rfl) rfl (NodRet.of (Nat.le_refl _) (RdE.none_ _ _ _ _) (Nat.le_refl _) (RdE.none_ _ _ _ _) HB9.out hB)
    · have d2 : decide ((nL : Int) < la) = false := by simpa using h2
      obtain ⟨j, ns, hla, hns, e⟩ := low_in (ls := ls) (la := la) (i := i) (by omega)
      rw [e]
      obtain ⟨bL, oL, hAL, hbL, A2, n2, c2, hcL, hc2, hN2⟩ := RdE.get_list (F := nodEn) HL.out hns
      have hjn : j < nL := by omega
      have hbW : bL < W3.heap.size := Nat.lt_of_lt_of_le hbL (Nat.le_trans hB hs3)
      have HQB := hide (fun W (hb : Below W3.heap.size W3 W) => show W.cell? ⟨bL, oL + j, none⟩ = some (.slice A2 n2 c2) from (hb.cell (p := ⟨bL, oL + j, none⟩) hbW).trans hcL)
      have HNS := hide hN2
      have hnl : ns.length ≤ 1000 := hm2 ns (List.mem_of_getElem? hns)
      subst hla
      subst hAL
      have hw1 : IntKind.i64.wrap ((j : Int) + 1 - 1) = (j : Int) := by rw [show (j : Int) + 1 - 1 = j from by omega]; exact IntWalk.i64_in _ (by omega)
      have hw2 : IntKind.i64.wrap (j : Int) = (j : Int) := IntWalk.i64_in _ (by omega)
      have hjl : (j : Int) < (nL : Int) := by omega
      have hnlL : nL ≤ 100 := by omega
      clear h r0 r1 r2 hb3 hW3 e h1 h2 hcL hN2 hns hl hm2
      go_enter Tryz.func98, Tryz.ntmps98
      go_wp2_with fail
      clear q5 p0 hW3'
      refine wp_region_planL (fun w' => Below W3.heap.size W3 w') [(0, true), (1, true), (2, true), (3, true), (4, true), (5, true), (6, true), (7, true), (8, true), (9, false)] 10 (by kernel_rfl) (by kernel_rfl) (by kernel_rfl) (by kernel_rfl) (by kernel_rfl) rfl (fun _ _ _ _ _ h => h) (below_drew (below_self W3)) (fun hHeld => ?_)
      simp only [planOps, List.filterMap_cons, List.filterMap_nil, List.getElem?_toArray, List.getElem?_cons_succ, List.getElem?_cons_zero, Option.map_some]
      refine wpPlan_take (v := ?_) (by kernel_rfl) (fun wS hSw => ?_) ?_
      rotate_left
      · (try dsimp only at hSw); go_simp; (try with_reducible rfl)
      (try simp only [Act.put, List.setIfInBounds_toArray, List.set_cons_zero, List.set_cons_succ])
      refine wpPlan_take (v := ?_) (by kernel_rfl) (fun wS hSw => ?_) ?_
      rotate_left
      · have qx := HQL.out wS hSw; go_simp; (try with_reducible rfl)
      (try simp only [Act.put, List.setIfInBounds_toArray, List.set_cons_zero, List.set_cons_succ])
      refine wpPlan_take (v := ?_) (by kernel_rfl) (fun wS hSw => ?_) ?_
      rotate_left
      · (try dsimp only at hSw); go_simp; (try with_reducible rfl)
      (try simp only [Act.put, List.setIfInBounds_toArray, List.set_cons_zero, List.set_cons_succ])
      refine wpPlan_take (v := ?_) (by kernel_rfl) (fun wS hSw => ?_) ?_
      rotate_left
      · have qx := HQ0.out wS hSw; go_simp; (try with_reducible rfl)
      (try simp only [Act.put, List.setIfInBounds_toArray, List.set_cons_zero, List.set_cons_succ])
      refine wpPlan_take (v := ?_) (by kernel_rfl) (fun wS hSw => ?_) ?_
      rotate_left
      · (try dsimp only at hSw); go_simp; (try with_reducible rfl)
      (try simp only [Act.put, List.setIfInBounds_toArray, List.set_cons_zero, List.set_cons_succ])
      refine wpPlan_take (v := ?_) (by kernel_rfl) (fun wS hSw => ?_) ?_
      rotate_left
      · (try dsimp only at hSw); go_simp; (try with_reducible rfl)
      (try simp only [Act.put, List.setIfInBounds_toArray, List.set_cons_zero, List.set_cons_succ])
      refine wpPlan_take (v := ?_) (by kernel_rfl) (fun wS hSw => ?_) ?_
      rotate_left
      · have qx := HQB.out wS hSw; go_simp; (try with_reducible rfl)
      (try simp only [Act.put, List.setIfInBounds_toArray, List.set_cons_zero, List.set_cons_succ])
      refine wpPlan_take (v := ?_) (by kernel_rfl) (fun wS hSw => ?_) ?_
      rotate_left
      · (try dsimp only at hSw); go_simp; (try with_reducible rfl)
      (try simp only [Act.put, List.setIfInBounds_toArray, List.set_cons_zero, List.set_cons_succ])
      refine wpPlan_take (v := ?_) (by kernel_rfl) (fun wS hSw => ?_) ?_
      rotate_left
      · have qx := HQ1.out wS hSw; go_simp; (try with_reducible rfl)
      (try simp only [Act.put, List.setIfInBounds_toArray, List.set_cons_zero, List.set_cons_succ])
      refine wpPlan_call (by kernel_rfl) (fun K hK => ?_)
      have hOld := hide hHeld
      clear hHeld
      go_simp
      go_at_call 52
      refine (At_anyB (B := B) _ (HNS.out.under hOld.out (by omega)) (Nat.le_trans hB (Nat.le_trans hs3 hOld.out.size)) (by omega)).mono ?_
      rintro e w' ⟨A1, n1, c1, C1, m1, d1, rfl, e2, e3, e4, e5, hbel⟩
      have E3 := hide e3
      have E5 := hide e5
      clear e3 e5
      refine hK.out _ _ (hOld.out.trans (hbel.mono hOld.out.size)) (fun hHeld => ?_)
      clear hK K
      (try simp only [Act.put, List.setIfInBounds_toArray, List.set_cons_zero, List.set_cons_succ])
      refine wpPlan_end ?_
      refine postL_go rfl (by kernel_rfl) ?_
      have R9 := hide (R2.out.on hHeld)
      have HBX := hide (HB3.out.trans (hHeld.mono hs3))
      have hsX := hHeld.size
      clear hHeld
      refine wp_storeC 71 (.tmp 4) (.tmp 26) rfl 13 nod_size (w.heap.size + 1 + 1) 0 71 rfl (nodC nod0 (.slice none 0 0) (.slice none 0 0)) (nodC (nodAt ns i) (.slice A1 n1 c1) (.slice C1 m1 d1)) rfl R9.out rfl (by exact Nat.le_refl _) (nodC_one _ _ _ _ _ _ _) ?_
      intro w9 hr9 hg9 hs9
      have e9 : splice (nodC nod0 (.slice none 0 0) (.slice none 0 0)) 0 (nodC (nodAt ns i) (.slice A1 n1 c1) (.slice C1 m1 d1)) = nodC (nodAt ns i) (.slice A1 n1 c1) (.slice C1 m1 d1) := by simp [splice, nodC]
      rw [e9] at hr9
      have HR9 := hide hr9
      have HG9 := hide hg9
      clear hr9 hg9 e9
      (try simp only [Act.put])
      go_wp2_with fail
      have hk : Kept (Under B) w' w9 := fun b hb => HG9.out.block b (by unfold Under at hb; omega) (fun e => by have := Option.some.inj e; unfold Under at hb; omega)
      exact bodyPost_ret (res_cell Tryz.results98 rfl nod_agg nod_size HR9.out rfl) rfl ⟨A1, n1, c1, C1, m1, d1, rfl, e2, E3.out.mono hk (fun _ h => h), e4, E5.out.mono hk (fun _ h => h), HBX.out.grown HG9.out (by omega) (fun k hk => by have := Option.some.inj hk; omega)⟩
theorem NLower_e {g : GeoQ} {AU AL : Option Addr} {nU cU nL cL : Nat} {ls : List (List NodV)} {la i : Int} {B : Nat} {x : NodV} (hx : lowAt ls la i = x) (w : World) (h : RdE layEn w (Under B) AL nL ls) (hB : B ≤ w.heap.size) (hm : ls.length ≤ 100) (hm2 : ∀ ns ∈ ls, ns.length ≤ 1000) :
    Calls Tryz.prog 99 #[.agg (stkC g (.slice AU nU cU) (.slice AL nL cL)).toArray, .agg #[.int .i64 la, .int .i64 i]] w (NodRet w B x) := by rw [← hx]; exact NLower_any w h hB hm hm2
theorem RLower_e {g : GeoQ} {AU AL : Option Addr} {nU cU nL cL : Nat} {ls : List (List NodV)} {la i : Int} {B : Nat} {x : NodV} (hx : lowAt ls la i = x) (w : World) (h : RdE layEn w (Under B) AL nL ls) (hB : B ≤ w.heap.size) (hm : ls.length ≤ 100) (hm2 : ∀ ns ∈ ls, ns.length ≤ 1000) :
    Calls Tryz.prog 98 #[.agg (stkC g (.slice AU nU cU) (.slice AL nL cL)).toArray, .agg #[.int .i64 la, .int .i64 i]] w (NodRet w B x) := by rw [← hx]; exact RLower_any w h hB hm hm2
end Go.Proofs.YtnehkgbdppbhiaaGreat

/- lower: opaque, and the reference's; entries (layer 16). -/
namespace Go.Proofs.YtnehkgbdppbhiaaGreat
open Go.RowKit Go.Shelf Plain

/-- A node's box, and what is read of it. -/
theorem nod_cell {w : World} {g : Nat} {cs : List Value} (h : RowL w g 71 cs) {i : Nat} {v : Value} (hv : cs[i]? = some v) : w.cell? ⟨g, i, none⟩ = some v := (h.cell i).trans hv
set_option maxHeartbeats 800000 in
theorem rhas_b {h : Int} {r : Bool} (h0 : 0 ≤ h) (h1 : h ≤ 31) (hr : decide (h % 2 = 1) = r) (w : World) : Calls Tryz.prog 104 #[.int .i64 h, .int .i64 1] w fun e w' => e = .returned (.bool r) ∧ w = w' := by
  have hv : (h % 2 == 1) = r := by
    rw [← hr, Bool.eq_iff_iff]
    simp
  have HV := hide hv
  clear hr hv
  go_enter Tryz.func104, Tryz.ntmps104
  go_wp2
  go_ret
  exact ⟨by rw [← HV.out]; (first | rfl | simp), rfl⟩
set_option maxRecDepth 100000 in
theorem att_agg : ∀ w, (isAgg 69).run Tryz.prog w = .ok true w := fun w => by kernel_rfl
set_option maxRecDepth 100000 in
theorem att_size : ∀ w, (Go.sizeOf 69).run Tryz.prog w = .ok 7 w := fun w => by kernel_rfl
def attC (a : AttV) : List Value := [.int .i64 a.h, .int .i64 a.o, .string ⟨a.r.toArray⟩, .int .i64 a.l, .int .i64 a.i, .int .i64 a.g, .int .i64 a.s]
set_option maxRecDepth 100000 in
set_option maxHeartbeats 1600000 in
theorem RHas_b {a : AttV} {r : Bool} (h0 : 0 ≤ a.h) (h1 : a.h ≤ 31) (hr : decide (a.h % 2 = 1) = r) (w : World) : Calls Tryz.prog 59 #[.agg (attC a).toArray, .int .i64 1] w (BoolB w r) := by
  have r0 := RowL.new w 69 (attC a)
  have hb1 := below_new (below_self w) (.cells (attC a).toArray 69)
  obtain ⟨W1, hW1⟩ : ∃ W1, w.alloc (.cells (attC a).toArray 69) = W1 := ⟨_, rfl⟩
  rw [hW1] at r0 hb1
  have hW1' : w.alloc (.cells #[.int .i64 a.h, .int .i64 a.o, .string ⟨a.r.toArray⟩, .int .i64 a.l, .int .i64 a.i, .int .i64 a.g, .int .i64 a.s] 69) = W1 := hW1
  have q0 : W1.cell? ⟨w.heap.size, 0, none⟩ = some (.int .i64 a.h) := r0.cell 0
  have HB1 := hide hb1
  have HR := hide hr
  have d0 : decide (0 ≤ a.h) = true := decide_eq_true h0
  unfold attC
  clear r0 hb1 hW1 hr
  go_enter Tryz.func59, Tryz.ntmps59
  go_wp2_with (go_at_call 104; refine (rhas_b h0 h1 HR.out _).mono ?_; rintro e w' ⟨rfl, rfl⟩)
  go_ret
  exact BoolB.of HB1.out
set_option maxRecDepth 100000 in
set_option maxHeartbeats 1600000 in
theorem ROpq_b {x : NodV} {D C : Option Addr} {n c m d : Nat} {b : Bool} (hb : opq x = b) (h0 : 0 ≤ x.att.h) (h1 : x.att.h ≤ 31) (w : World) : Calls Tryz.prog 75 #[.agg (nodC x (.slice D n c) (.slice C m d)).toArray] w (BoolB w b) := by
  have r := RowL.new w 71 (nodC x (.slice D n c) (.slice C m d))
  have hb1 := below_new (below_self w) (.cells (nodC x (.slice D n c) (.slice C m d)).toArray 71)
  obtain ⟨W1, hW1⟩ : ∃ W1, w.alloc (.cells (nodC x (.slice D n c) (.slice C m d)).toArray 71) = W1 := ⟨_, rfl⟩
  rw [hW1] at r hb1
  have hW1' : w.alloc (.cells #[.int .i64 x.k, .int .i64 x.p, .int .i64 x.n, .int .i64 x.g, .slice D n c, .slice C m d, .int .i64 x.att.h, .int .i64 x.att.o, .string ⟨x.att.r.toArray⟩, .int .i64 x.att.l, .int .i64 x.att.i, .int .i64 x.att.g, .int .i64 x.att.s] 71) = W1 := hW1
  have HA := hide (fun (j : Nat) (v : Value) (hv : (attC x.att)[j]? = some v) => show W1.cell? ⟨w.heap.size, 6 + j, none⟩ = some v from (r.cell (6 + j)).trans (by rw [← hv]; unfold nodC attC; rw [Nat.add_comm 6 j]; rfl))
  have HRR := hide r
  have HB1 := hide hb1
  obtain ⟨b1, hb1'⟩ : ∃ b1, decide (x.att.h % 2 = 1) = b1 := ⟨_, rfl⟩
  obtain ⟨b2, hb2⟩ : ∃ b2, (x.att.o == 121) = b2 := ⟨_, rfl⟩
  have e : b = (b1 && b2) := by
    rw [← hb, ← hb1', ← hb2]
    unfold opq
    congr 1
  have HBB := hide hb1'
  subst e
  unfold nodC
  clear r hb1 hW1 hb hb1'
  cases b1 <;> cases b2
  all_goals
    go_enter Tryz.func75, Tryz.ntmps75
    go_wp2_with (first | (refine wpList_loadX rfl 69 (.tmp 3) rfl 7 att_agg att_size w.heap.size 6 rfl (attC x.att) HA.out rfl ?_) | (go_at_call 59; refine (RHas_b h0 h1 HBB.out _).mono ?_; rintro e w' ⟨rfl, hb3⟩; have q7 : w'.cell? ⟨w.heap.size, 7, none⟩ = some (.int .i64 x.att.o) := (HRR.out.on hb3).cell 7; have HB3 := hide hb3; clear hb3))
    go_ret
    exact BoolB.of (HB1.out.trans (HB3.out.mono HB1.out.size))
theorem prC_one (q : Int × Int) : ∀ v ∈ prC q, v.oneCell' = true := by simp [prC, Value.oneCell']
end Go.Proofs.YtnehkgbdppbhiaaGreat

/- nodes.First. -/
namespace Go.Proofs.YtnehkgbdppbhiaaGreat
open Go.RowKit Go.Shelf Plain

section
variable {P : Program} {T T' k k' : Nat}
/-- Two results that lie in memory. -/
theorem res_cells {fn : Func} {tmps : Array Value} {w : World} {s g t s' g' t' : Nat} {cs cs' : List Value} (hr : fn.results = #[.cell s T, .cell s' T']) (ht : tmps.getD s undef = .pointer (some ⟨g, 0, none⟩)) (ht' : tmps.getD s' undef = .pointer (some ⟨g', 0, none⟩)) (hag : ∀ w, (isAgg T).run P w = .ok true w) (hsz : ∀ w, (sizeOf T).run P w = .ok k w) (hag' : ∀ w, (isAgg T').run P w = .ok true w) (hsz' : ∀ w, (sizeOf T').run P w = .ok k' w)
    (h : RowL w g t cs) (hk : cs.length = k) (h' : RowL w g' t' cs') (hk' : cs'.length = k') : (results fn tmps).run P w = .ok (.tuple #[.agg cs.toArray, .agg cs'.toArray]) w := by
  have hl := run_loadRow (P := P) h hk
  have hl' := run_loadRow (P := P) h' hk'
  have ht1 : tmps[s]?.getD undef = .pointer (some ⟨g, 0, none⟩) := by simpa using ht
  have ht2 : tmps[s']?.getD undef = .pointer (some ⟨g', 0, none⟩) := by simpa using ht'
  simp [results, hr, ht1, ht2, hag, hsz, hl, hag', hsz', hl', go_sem]
end
/-- It returns the first entry of a name, and its node. -/
def FirstB (w : World) (B : Nat) (ns : List NodV) (o : Option EntV) (e : Ending) (w' : World) : Prop := ∃ A n c C m d, e = .returned (.tuple #[.agg (cellsE (entO o)).toArray, .agg (nodC (nodB ns o) (.slice A n c) (.slice C m d)).toArray]) ∧ n ≤ c ∧ RdE Enc.byte w' (Under B) A n (nodB ns o).data ∧ m ≤ d ∧ RdE entEn w' (Under B) C m (nodB ns o).ents ∧ Below w.heap.size w w'
/-- What the last region keeps. -/
def FirstBS (w9 : World) (base ge gn r1 r2 : Nat) (ec nc : List Value) (W : World) : Prop := RowL W ge 49 ec ∧ RowL W gn 71 nc ∧ (∃ cu, RowL W r1 49 cu ∧ cu.length = 3) ∧ (∃ cu, RowL W r2 71 cu ∧ cu.length = 13) ∧ Below base w9 W
theorem FirstBS.drew {w9 : World} {base ge gn r1 r2 : Nat} {ec nc : List Value} {W : World} (h : FirstBS w9 base ge gn r1 r2 ec nc W) : FirstBS w9 base ge gn r1 r2 ec nc W.drew := ⟨h.1, h.2.1, h.2.2.1, h.2.2.2.1, ⟨h.2.2.2.2.os, h.2.2.2.2.tape, h.2.2.2.2.output, h.2.2.2.2.size, h.2.2.2.2.block⟩⟩
theorem find_take_none {α : Type} {f : α → Bool} {l : List α} {k : Nat} {x : α} (h : (l.take k).find? f = none) (hx : l[k]? = some x) (hf : f x = false) : (l.take (k + 1)).find? f = none := by
  rw [List.take_add_one, hx, List.find?_append, h]
  simp [hf]
theorem find_take_some {α : Type} {f : α → Bool} {l : List α} {k : Nat} {x : α} (h : (l.take k).find? f = none) (hx : l[k]? = some x) (hf : f x = true) : l.find? f = some x := by
  have hk := (List.getElem?_eq_some_iff.1 hx).1
  have hd : l = l.take k ++ x :: l.drop (k + 1) := by
    rw [(List.getElem?_eq_some_iff.1 hx).2.symm, ← List.drop_eq_getElem_cons hk, List.take_append_drop]
  rw [hd, List.find?_append, h]
  simp [hf]
set_option maxRecDepth 100000 in
set_option maxHeartbeats 8000000 in
theorem First_any {A : Option Addr} {n c : Nat} {ns : List NodV} {i : Int} {nm : List UInt8} {B : Nat} (w : World) (h : RdE nodEn w (Under B) A n ns) (hB : B ≤ w.heap.size) (hm : ns.length ≤ 100000) (hel : (entB ns i).length ≤ 16) :
    Calls Tryz.prog 95 #[.agg #[.slice A n c], .int .i64 i, .string ⟨nm.toArray⟩] w (FirstB w B ns (firstB ns i nm)) := by
  obtain ⟨r0, r1, r2, hb4, hs4⟩ := rows3 w [.slice A n c] [.int .i64 0, .int .i64 0, .string ⟨#[]⟩] (nodC nod0 (.slice none 0 0) (.slice none 0 0)) 26 49 71
  obtain ⟨W4, hW4⟩ : ∃ W4, ((w.alloc (.cells [Value.slice A n c].toArray 26)).alloc (.cells [Value.int .i64 0, .int .i64 0, .string ⟨#[]⟩].toArray 49)).alloc (.cells (nodC nod0 (.slice none 0 0) (.slice none 0 0)).toArray 71) = W4 := ⟨_, rfl⟩
  rw [hW4] at r0 r1 r2 hb4 hs4
  have hW4' : ((w.alloc (.cells #[.slice A n c] 26)).alloc (.cells #[.int .i64 0, .int .i64 0, .string ⟨#[]⟩] 49)).alloc (.cells #[.int .i64 0, .int .i64 0, .int .i64 0, .int .i64 0, .slice none 0 0, .slice none 0 0, .int .i64 0, .int .i64 0, .string ⟨#[]⟩, .int .i64 0, .int .i64 0, .int .i64 0, .int .i64 0] 71) = W4 := hW4
  have q0 : W4.cell? ⟨w.heap.size, 0, none⟩ = some (.slice A n c) := r0.cell 0
  have R0 := hide r0
  have R1 := hide r1
  have R2 := hide r2
  have HB4 := hide hb4
  have HL := hide (h.under hb4 hB)
  have hs4l : w.heap.size + 3 ≤ W4.heap.size := by omega
  obtain ⟨EL, hEL⟩ : ∃ EL, entB ns i = EL := ⟨_, rfl⟩
  obtain ⟨FO, hFO⟩ : ∃ FO, firstB ns i nm = FO := ⟨_, rfl⟩
  rw [hFO]
  rw [hEL] at hel
  have HEL := hide hEL
  have HFO := hide hFO
  clear r0 r1 r2 hb4 hW4 h hEL hs4 hFO
  go_enter Tryz.func95, Tryz.ntmps95
  go_wp2_with (first | (go_at_call 63; refine (Entries_any W4 HL.out (by omega) hm).mono ?_; rw [HEL.out]; rintro e w5 ⟨C, m, d, rfl, hmd, hE, hb5⟩; have HE := hide hE; have HB5 := hide hb5; clear hE hb5))
  have hEm := HE.out.1
  have hm16 : m ≤ 16 := by omega
  have HEM := hide hEm
  clear hEm hW4' hel q0
  go_loopw [15] (fun v15 wr => ∃ j : Nat, j ≤ m ∧ v15 = .int .i64 j ∧ Below w5.heap.size w5 wr ∧ (EL.take j).find? (useB ns nm) = none) (fun v15 _ => m - (intOf v15).toNat)
  case atStart => exact ⟨0, by omega, rfl, below_self _, by simp⟩
  case round =>
    obtain ⟨j, hj, rfl, hbr, hnone⟩ := hrel
    have HN := hide hnone
    have HBR := hide hbr
    have hbsz := hbr.size
    have hs5 := HB5.out.size
    have HB4r := hide (HB5.out.trans (hbr.mono hs5))
    have HBw := hide (HB4.out.trans (HB4r.out.mono (by omega)))
    clear hnone hbr
    by_cases hlt : j < m
    · obtain ⟨e, he⟩ : ∃ e, EL[j]? = some e := ⟨_, List.getElem?_eq_getElem (by have := HEM.out; omega)⟩
      obtain ⟨bE, oE, rfl, hbE, hcE⟩ := ent_get (HE.out.under HBR.out (by omega)) he
      have HCE := hide hcE
      have HEJ := hide he
      have HZE := hide (RowL.new wr 49 [.int .i64 0, .int .i64 0, .string ⟨#[]⟩])
      obtain ⟨x, hx⟩ : ∃ x, nodAt ns e.ino = x := ⟨_, rfl⟩
      have HX := hide hx
      obtain ⟨b2, hb2⟩ : ∃ b2, (x.k != 0) = b2 := ⟨_, rfl⟩
      have hjm : (j : Int) < (m : Int) := by omega
      clear he hcE
      by_cases hnm : e.name = nm
      rotate_left
      · have HU := hide (show useB ns nm e = false from by unfold useB; simp [hnm])
        have hnb1 : (e.name == nm) = false := by simpa using hnm
        have hnb2 : (e.name != nm) = true := by simpa using hnm
        have hnb3 : ¬ ({ data := e.name.toArray } : ByteArray) = { data := nm.toArray } := by simpa using hnm
        clear hx
        go_wp2_with (first | (refine wpList_loadX rfl 49 (.tmp 17) rfl 3 entw_agg entw_size bE (oE + j * 3) rfl (cellsE e) HCE.out rfl ?_) | (refine wpList_storeW rfl 49 (.tmp 9) (.tmp 18) rfl 3 entw_size wr.heap.size 49 rfl [.int .i64 0, .int .i64 0, .string ⟨#[]⟩] (cellsE e) rfl HZE.out rfl rfl (cellsE_one e) ?_; intro w6 hr6 hg6 hs6; have hb6 := below_stored' hg6; have qe1 : w6.cell? ⟨wr.heap.size, 1, none⟩ = some (.int .i64 e.ino) := hr6.cell 1; have qe2 : w6.cell? ⟨wr.heap.size, 2, none⟩ = some (.string ⟨e.name.toArray⟩) := hr6.cell 2; have qb : w6.cell? ⟨w.heap.size, 0, none⟩ = some (.slice A n c) := ((R0.out.on HB4r.out).on hb6).cell 0; have R6 := hide hr6; have HB6 := hide hb6; clear hr6 hg6 hs6 hb6))
        go_roundw
        case rel => exact ⟨j + 1, by omega, by go_num, HBR.out.trans (HB6.out.mono hbsz), find_take_none HN.out HEJ.out HU.out⟩
        case measure => simp [intOf]; omega
      have HU := hide (show useB ns nm e = b2 from by
        rw [← hb2, ← hx]
        unfold useB
        by_cases hk : (nodAt ns e.ino).k = 0 <;> simp [hk, hnm])
      subst hnm
      clear hx
      cases b2
      · skip
        go_wp2_with (first | (refine wpList_loadX rfl 49 (.tmp 17) rfl 3 entw_agg entw_size bE (oE + j * 3) rfl (cellsE e) HCE.out rfl ?_) | (refine wpList_storeW rfl 49 (.tmp 9) (.tmp 18) rfl 3 entw_size wr.heap.size 49 rfl [.int .i64 0, .int .i64 0, .string ⟨#[]⟩] (cellsE e) rfl HZE.out rfl rfl (cellsE_one e) ?_; intro w6 hr6 hg6 hs6; have hb6 := below_stored' hg6; have qe1 : w6.cell? ⟨wr.heap.size, 1, none⟩ = some (.int .i64 e.ino) := hr6.cell 1; have qe2 : w6.cell? ⟨wr.heap.size, 2, none⟩ = some (.string ⟨e.name.toArray⟩) := hr6.cell 2; have qb : w6.cell? ⟨w.heap.size, 0, none⟩ = some (.slice A n c) := ((R0.out.on HB4r.out).on hb6).cell 0; have R6 := hide hr6; have HB6 := hide hb6; clear hr6 hg6 hs6 hb6) | (go_at_call 55; refine (Of_e HX.out w6 (HL.out.under (HB4r.out.trans (HB6.out.mono (by omega))) (by omega)) (by have := HB6.out.size; omega) hm).mono ?_; rintro ez w8 ⟨A1, n1, c1, C1, m1, d1, rfl, e2, e3, e4, e5, hb8⟩; have E3 := hide e3; have E5 := hide e5; have HB8 := hide hb8; have HZN := hide (RowL.new w8 71 (nodC nod0 (.slice none 0 0) (.slice none 0 0))); clear e3 e5 hb8) | (refine wpList_storeW rfl 71 (.tmp 10) (.tmp 26) rfl 13 nod_size w8.heap.size 71 rfl (nodC nod0 (.slice none 0 0) (.slice none 0 0)) (nodC x (.slice A1 n1 c1) (.slice C1 m1 d1)) rfl HZN.out rfl rfl (nodC_one _ _ _ _ _ _ _) ?_; intro w9 hr9 hg9 hs9; have hb9 := below_stored' hg9; have qk : w9.cell? ⟨w8.heap.size, 0, none⟩ = some (.int .i64 x.k) := hr9.cell 0; have R9 := hide hr9; have HB9 := hide (HB6.out.trans ((HB8.out.trans (hb9.mono HB8.out.size)).mono HB6.out.size)); have R69 := hide ((R6.out.on HB8.out).on hb9); have hs9l := hr9.lt; have E39 := hide (E3.out.under hb9 (by have := HB6.out.size; have := HB8.out.size; omega)); have E59 := hide (E5.out.under hb9 (by have := HB6.out.size; have := HB8.out.size; omega)); clear hr9 hg9 hs9 hb9))
        go_roundw
        case rel => exact ⟨j + 1, by omega, by go_num, HBR.out.trans (HB9.out.mono hbsz), find_take_none HN.out HEJ.out HU.out⟩
        case measure => simp [intOf]; omega
      · skip
        go_wp2_with (first | (refine wpList_loadX rfl 49 (.tmp 17) rfl 3 entw_agg entw_size bE (oE + j * 3) rfl (cellsE e) HCE.out rfl ?_) | (refine wpList_storeW rfl 49 (.tmp 9) (.tmp 18) rfl 3 entw_size wr.heap.size 49 rfl [.int .i64 0, .int .i64 0, .string ⟨#[]⟩] (cellsE e) rfl HZE.out rfl rfl (cellsE_one e) ?_; intro w6 hr6 hg6 hs6; have hb6 := below_stored' hg6; have qe1 : w6.cell? ⟨wr.heap.size, 1, none⟩ = some (.int .i64 e.ino) := hr6.cell 1; have qe2 : w6.cell? ⟨wr.heap.size, 2, none⟩ = some (.string ⟨e.name.toArray⟩) := hr6.cell 2; have qb : w6.cell? ⟨w.heap.size, 0, none⟩ = some (.slice A n c) := ((R0.out.on HB4r.out).on hb6).cell 0; have R6 := hide hr6; have HB6 := hide hb6; clear hr6 hg6 hs6 hb6) | (go_at_call 55; refine (Of_e HX.out w6 (HL.out.under (HB4r.out.trans (HB6.out.mono (by omega))) (by omega)) (by have := HB6.out.size; omega) hm).mono ?_; rintro ez w8 ⟨A1, n1, c1, C1, m1, d1, rfl, e2, e3, e4, e5, hb8⟩; have E3 := hide e3; have E5 := hide e5; have HB8 := hide hb8; have HZN := hide (RowL.new w8 71 (nodC nod0 (.slice none 0 0) (.slice none 0 0))); clear e3 e5 hb8) | (refine wpList_storeW rfl 71 (.tmp 10) (.tmp 26) rfl 13 nod_size w8.heap.size 71 rfl (nodC nod0 (.slice none 0 0) (.slice none 0 0)) (nodC x (.slice A1 n1 c1) (.slice C1 m1 d1)) rfl HZN.out rfl rfl (nodC_one _ _ _ _ _ _ _) ?_; intro w9 hr9 hg9 hs9; have hb9 := below_stored' hg9; have qk : w9.cell? ⟨w8.heap.size, 0, none⟩ = some (.int .i64 x.k) := hr9.cell 0; have R9 := hide hr9; have HB9 := hide (HB6.out.trans ((HB8.out.trans (hb9.mono HB8.out.size)).mono HB6.out.size)); have R69 := hide ((R6.out.on HB8.out).on hb9); have hs9l := hr9.lt; have E39 := hide (E3.out.under hb9 (by have := HB6.out.size; have := HB8.out.size; omega)); have E59 := hide (E5.out.under hb9 (by have := HB6.out.size; have := HB8.out.size; omega)); clear hr9 hg9 hs9 hb9))
        have hsw6 := HB6.out.size
        have hsw8 := HB8.out.size
        have HFS := hide (show FirstBS w9 w.heap.size wr.heap.size w8.heap.size (w.heap.size + 1) (w.heap.size + 1 + 1) (cellsE e) (nodC x (.slice A1 n1 c1) (.slice C1 m1 d1)) w9 from ⟨R69.out, R9.out, ⟨_, (R1.out.on HB4r.out).on HB9.out, rfl⟩, ⟨_, (R2.out.on HB4r.out).on HB9.out, rfl⟩, Below.refl _ _⟩)
        have hsum : w.heap.size + 3 ≤ wr.heap.size := by omega
        have hs69 : w.heap.size ≤ w9.heap.size := by omega
        clear qk qe1 qe2 qb
        (try simp only [Act.put])
        refine wp_region_planN (fun w' => FirstBS w9 w.heap.size wr.heap.size w8.heap.size (w.heap.size + 1) (w.heap.size + 1 + 1) (cellsE e) (nodC x (.slice A1 n1 c1) (.slice C1 m1 d1)) w') [(0, true), (1, true), (2, false), (3, false)] (by kernel_rfl) (by kernel_rfl) (by kernel_rfl) (by kernel_rfl) rfl (fun _ _ _ _ _ h => h) (HFS.out.drew) (fun hHeld => ?_)
        simp only [planOps, List.filterMap_cons, List.filterMap_nil, List.getElem?_toArray, List.getElem?_cons_succ, List.getElem?_cons_zero, Option.map_some]
        refine wpPlan_take (v := ?_) (by kernel_rfl) (fun wS hSw => ?_) ?_
        rotate_left
        · refine execOp_load (x := .tmp 9) (k := 3) (g := wr.heap.size) (off := 0) (cs := cellsE e) ?_ entw_agg entw_size ?_ (fun j v hv => by rw [Nat.zero_add]; exact (hSw.1.cell j).trans hv) rfl <;> rfl
        (try simp only [Act.put, List.setIfInBounds_toArray, List.set_cons_zero, List.set_cons_succ])
        refine wpPlan_take (v := ?_) (by kernel_rfl) (fun wS hSw => ?_) ?_
        rotate_left
        · refine execOp_load (x := .tmp 10) (k := 13) (g := w8.heap.size) (off := 0) (cs := (nodC x (.slice A1 n1 c1) (.slice C1 m1 d1))) ?_ nod_agg nod_size ?_ (fun j v hv => by rw [Nat.zero_add]; exact (hSw.2.1.cell j).trans hv) rfl <;> rfl
        (try simp only [Act.put, List.setIfInBounds_toArray, List.set_cons_zero, List.set_cons_succ])
        refine wpPlan_call (by kernel_rfl) (fun K hK => ?_)
        have hOld := hide hHeld
        clear hHeld
        obtain ⟨p1, p2, ⟨cu3, p3, l3⟩, ⟨cu4, p4, l4⟩, p5⟩ := hOld.out
        refine wp_storeC 49 (.tmp 6) (.tmp 30) rfl 3 entw_size (w.heap.size + 1) 0 49 rfl cu3 (cellsE e) rfl p3 rfl (by omega) (cellsE_one e) ?_
        intro w' hr' hg' hs'
        rw [splice_all _ _ (by rw [l3]; rfl)] at hr'
        refine hK.out _ _ (⟨p1.grown hg' (fun e => by have := Option.some.inj e; omega), p2.grown hg' (fun e => by have := Option.some.inj e; omega), ⟨_, hr', rfl⟩, ⟨cu4, p4.grown hg' (fun e => by have := Option.some.inj e; omega), l4⟩, p5.grown hg' (by have := p5.size; omega) (fun k hk => by have := Option.some.inj hk; omega)⟩) (fun hHeld => ?_)
        clear hK K
        have HRP := hide hr'
        clear hr' hg' hs' p1 p2 p3 p4 p5
        (try simp only [Act.put])
        refine wpPlan_call (by kernel_rfl) (fun K hK => ?_)
        have hOld := hide hHeld
        clear hHeld
        obtain ⟨p1, p2, ⟨cu3, p3, l3⟩, ⟨cu4, p4, l4⟩, p5⟩ := hOld.out
        refine wp_storeC 71 (.tmp 7) (.tmp 31) rfl 13 nod_size (w.heap.size + 1 + 1) 0 71 rfl cu4 (nodC x (.slice A1 n1 c1) (.slice C1 m1 d1)) rfl p4 rfl (by omega) (nodC_one _ _ _ _ _ _ _) ?_
        intro w' hr' hg' hs'
        rw [splice_all _ _ (by rw [l4]; rfl)] at hr'
        refine hK.out _ _ (⟨p1.grown hg' (fun e => by have := Option.some.inj e; omega), p2.grown hg' (fun e => by have := Option.some.inj e; omega), ⟨cu3, p3.grown hg' (fun e => by have := Option.some.inj e; omega), l3⟩, ⟨_, hr', rfl⟩, p5.grown hg' (by have := p5.size; omega) (fun k hk => by have := Option.some.inj hk; omega)⟩) (fun hHeld => ?_)
        clear hK K
        have HRP2 := hide (HRP.out.grown hg' (fun e => by have := Option.some.inj e; omega))
        have HRN := hide hr'
        clear hr' hg' hs' p1 p2 p3 p4 p5
        (try simp only [Act.put])
        refine wpPlan_end ?_
        have HSF := hide hHeld
        clear hHeld
        go_wp2_with fail
        obtain ⟨-, -, -, -, hbF⟩ := HSF.out
        have eFO : FO = some e := by
          rw [← HFO.out]
          unfold firstB
          rw [HEL.out, find_take_some HN.out HEJ.out HU.out]
        have hkU : Kept (Under B) w9 w' := fun b hb => hbF.block b (Nat.lt_of_lt_of_le hb hB)
        subst eFO
        have hx2 : nodB ns (some e) = x := HX.out
        refine bodyPost_ret (res_cells Tryz.results95 rfl rfl entw_agg entw_size nod_agg nod_size HRP2.out rfl HRN.out rfl) rfl ⟨A1, n1, c1, C1, m1, d1, by rw [hx2]; rfl, e2, by rw [hx2]; exact E39.out.mono hkU (fun _ h => h), e4, by rw [hx2]; exact E59.out.mono hkU (fun _ h => h), (HBw.out.trans (HB9.out.mono (by omega))).trans hbF⟩
    · obtain rfl : j = m := by omega
      have HR1 := hide (R1.out.on HB4r.out)
      have HR2 := hide (R2.out.on HB4r.out)
      go_wp2_with (first | (refine wpList_storeW rfl 49 (.tmp 6) (.tmp 33) rfl 3 entw_size (w.heap.size + 1) 49 rfl [.int .i64 0, .int .i64 0, .string ⟨#[]⟩] (cellsE ent0) rfl HR1.out rfl rfl (cellsE_one ent0) ?_; intro w6 hr6 hg6 hs6; have R6 := hide hr6; have R36 := hide (HR2.out.grown hg6 (fun e => by have := Option.some.inj e; omega)); have HB6 := hide (HBw.out.grown hg6 (by omega) (fun k hk => by have := Option.some.inj hk; omega)); clear hr6 hg6) | (refine wpList_storeW rfl 71 (.tmp 7) (.tmp 34) rfl 13 nod_size (w.heap.size + 1 + 1) 71 rfl (nodC nod0 (.slice none 0 0) (.slice none 0 0)) (nodC nod0 (.slice none 0 0) (.slice none 0 0)) rfl R36.out rfl rfl (nodC_one nod0 none none 0 0 0 0) ?_; intro w7 hr7 hg7 hs7; have R7 := hide hr7; have R67 := hide (R6.out.grown hg7 (fun e => by have := Option.some.inj e; omega)); have HB7 := hide (HB6.out.grown hg7 (by omega) (fun k hk => by have := Option.some.inj hk; omega)); clear hr7 hg7))
      have eFO : FO = none := by
        rw [← HFO.out]
        unfold firstB
        have h1 := HN.out
        rw [List.take_of_length_le (by have := HEM.out; omega)] at h1
        rw [HEL.out, h1]
      subst eFO
      exact bodyPost_ret (res_cells Tryz.results95 rfl rfl entw_agg entw_size nod_agg nod_size R67.out rfl R7.out rfl) rfl ⟨none, 0, 0, none, 0, 0, rfl, Nat.le_refl _, RdE.none_ _ _ _ _, Nat.le_refl _, RdE.none_ _ _ _ _, HB7.out⟩
theorem First_e {A : Option Addr} {n c : Nat} {ns : List NodV} {i : Int} {nm : List UInt8} {B : Nat} {o : Option EntV} (ho : firstB ns i nm = o) (w : World) (h : RdE nodEn w (Under B) A n ns) (hB : B ≤ w.heap.size) (hm : ns.length ≤ 100000) (hel : (entB ns i).length ≤ 16) :
    Calls Tryz.prog 95 #[.agg #[.slice A n c], .int .i64 i, .string ⟨nm.toArray⟩] w (FirstB w B ns o) := by rw [← ho]; exact First_any w h hB hm hel
end Go.Proofs.YtnehkgbdppbhiaaGreat

