/- walk: without (layer 13). -/
import Derived.Test.YtnehkgbdppbhiaaWalP
namespace Go.Proofs.Ytnehkgbdppbhiaa
open Go.RowKit Go.Shelf Plain

set_option maxRecDepth 100000 in
theorem u8_info' : (Try.prog.info? 5).map (fun i => (i.zero, i.size, i.bytes)) = some (some (.int .u8 0), 1, 1) := by kernel_rfl
/-- It returns a node of whatever memory. -/
def NodRet2 (w : World) (x : NodV) (e : Ending) (w' : World) : Prop := ∃ A n c C m d, e = .returned (.agg (nodC x (.slice A n c) (.slice C m d)).toArray) ∧ n ≤ c ∧ RdE Enc.byte w' (fun b => w.heap.size ≤ b ∧ b < w'.heap.size) A n x.data ∧ m ≤ d ∧ RdE entEn w' (fun b => w.heap.size ≤ b ∧ b < w'.heap.size) C m x.ents ∧ Below w.heap.size w w'
def keepF (f : Int × Int → Bool) (i : Int) (l : List EntV) (k : Nat) : List EntV := ((l.zipIdx.take k).filter (fun x => !f (i, (x.2 : Int)))).map (fun x => x.1)
theorem keepF_succ {f : Int × Int → Bool} {i : Int} {l : List EntV} {k : Nat} {x : EntV} (h : l[k]? = some x) : keepF f i l (k + 1) = if f (i, (k : Int)) = true then keepF f i l k else keepF f i l k ++ [x] := by
  have hz : l.zipIdx[k]? = some (x, k) := by rw [List.getElem?_zipIdx, h]; simp
  unfold keepF
  rw [List.take_add_one, hz, List.filter_append, List.map_append]
  cases hd : f (i, (k : Int)) <;> simp [hd]
theorem keepF_len (f : Int × Int → Bool) (i : Int) (l : List EntV) (k : Nat) : (keepF f i l k).length ≤ k := by
  unfold keepF
  rw [List.length_map]
  refine Nat.le_trans (List.length_filter_le _ _) ?_
  rw [List.length_take]
  omega
set_option maxRecDepth 100000 in
theorem entw_info : (Try.prog.info? 70).map (fun i => (i.zero, i.size, i.bytes)) = some (some (.agg #[.int .i64 0, .int .i64 0, .string ⟨#[]⟩]), 3, 32) := by kernel_rfl
theorem lit_entw (x : EntV) (W : World) : (Instr.buildSlice 53 1 #[(0, .agg (cellsE x).toArray)]).run Try.prog W = .ok (.slice (some ⟨W.heap.size, 0, none⟩) 1 1) (W.alloc (.cells (cellsE x).toArray 70)) := by
  obtain ⟨it, hi, hz, hsz, -⟩ := info_parts entw_info
  refine run_buildSlice W _ 70 1 _ _ it _ Try.underlying53 hi hz (by omega) (by omega) ?_
  rw [hsz]
  have := Great.fill_whole (s := 3) (by omega) [.agg (cellsE x).toArray] ((Array.range (1 * 3)).map ((Value.agg #[.int .i64 0, .int .i64 0, .string ⟨#[]⟩]).cells[· % (Value.agg #[.int .i64 0, .int .i64 0, .string ⟨#[]⟩]).cells.size]!)) (by intro v hv; rw [List.mem_singleton] at hv; subst hv; simp [Value.cells, cellsE]) (by simp)
  simpa [Value.cells] using this
theorem own_ent {W : World} {base t n c : Nat} {A : Option Addr} {l : List EntV} (h : W.ownsRow base t 3 (.slice A n c) n (flatE l)) : OwE entEn W base t A n c l := by
  have hl := h.1
  rw [flatE_len] at hl
  refine ⟨l.map cellsE, by rw [show (l.map cellsE).flatten = flatE l from by simp [flatE, List.flatMap]]; exact h, ⟨by simp, fun i cs x h1 h2 => ?_⟩, by omega⟩
  rw [List.getElem?_map, h2] at h1
  cases h1
  exact ⟨[_], [_, _], rfl, rfl, [_], [_], rfl, rfl, rfl⟩
theorem ow_flat {W : World} {base t n c : Nat} {A : Option Addr} {l : List EntV} (h : W.ownsRow base t 3 (.slice A n c) n (flatE l)) : l.length = n := by have hl := h.1; rw [flatE_len] at hl; omega
theorem ent_fresh {W : World} {base t n c : Nat} {A : Option Addr} {l : List EntV} (h : W.ownsRow base t 3 (.slice A n c) n (flatE l)) : RdE entEn W (fun b => base ≤ b ∧ b < W.heap.size) A n l := by
  refine ⟨ow_flat h, fun h0 => ?_⟩
  have hl := h.1
  rcases h.2 with ⟨_, h0'⟩ | ⟨g, cap, cur, he, hb, hg, _⟩
  · omega
  · simp only [Value.slice.injEq] at he
    obtain ⟨rfl, -, -⟩ := he
    refine ⟨g, 0, rfl, ⟨hb, heap_lt hg⟩, fun i x hx => ⟨cellsE x, ⟨[_], [_, _], rfl, rfl, [_], [_], rfl, rfl, rfl⟩, fun j v hv => ?_⟩⟩
    have hj : j < 3 := by have := (List.getElem?_eq_some_iff.1 hv).1; simpa [cellsE] using this
    have hi := (List.getElem?_eq_some_iff.1 hx).1
    have hn := ow_flat h
    rw [Nat.zero_add]
    refine (World.ownsRow.cellAt (g := g) h (i * 3 + j) (by omega)).trans ?_
    have := flat_get (k := 3) (css := l.map cellsE) (fun cs hc => by obtain ⟨z, _, rfl⟩ := List.mem_map.1 hc; rfl) (i := i) (j := j) (cs := cellsE x) (by rw [List.getElem?_map, hx]; rfl) hj
    rw [show flatE l = (l.map cellsE).flatten from by simp [flatE, List.flatMap], this]
    exact hv
theorem byte_fresh {W : World} {base t n c : Nat} {A : Option Addr} {l : List UInt8} (h : W.ownsRow base t 1 (.slice A n c) n (bvs l)) : RdE Enc.byte W (fun b => base ≤ b ∧ b < W.heap.size) A n l := by
  refine RdE.of_bs (Bs.of_own h) (fun h0 a ha => ?_)
  rcases h.2 with ⟨_, h0'⟩ | ⟨g, cap, cur, he, hb, hg, _⟩
  · omega
  · simp only [Value.slice.injEq] at he
    obtain ⟨rfl, -, -⟩ := he
    cases ha
    exact ⟨hb, heap_lt hg⟩
/-- A literal of one element, as the walk meets it. -/
theorem wpList_litW {P : Program} {w w' : World} {ops : Array Oper} {rest : List Oper} {o : Oper} {a : Act} {Q : Exit → Act → World → Prop} (hgd : o.guard = none) (t : Nat) (x : Operand) (ho : o.op = .buildSlice t 1 #[(0, x)]) (vx v : Value) (hx : a.eval x = vx) (hr : (Instr.buildSlice t 1 #[(0, vx)]).run P w = .ok v w') (hK : wpList P ops Q rest (a.put o.dst v) w') : wpList P ops Q (o :: rest) a w := by
  refine wpList_plain hgd fun K hK' => ?_
  unfold Oper.wp execOp
  simp only [ho, List.map_toArray, List.map_cons, List.map_nil, hx, Sem.run_bind, Sem.run_pure, Result.andThen_ok, hr]
  exact hK' _ _ hK
end Go.Proofs.Ytnehkgbdppbhiaa
