/- walk: Twice (layer 13). -/
import Derived.Test.YtnehkgbdppbhiaaGreatWalK
namespace Go.Proofs.YtnehkgbdppbhiaaGreat
open Go.RowKit Go.Shelf Plain

/-- Two numbers in two cells. -/
def prC (q : Int × Int) : List Value := [.int .i64 q.1, .int .i64 q.2]
def prEn : Enc (Int × Int) where
  k := 2
  R := fun _ _ cs x => cs = prC x
  len := fun h => by rw [h]; rfl
  one := fun h v hv => by
    rw [h] at hv
    simp only [prC, List.mem_cons, List.not_mem_nil, or_false] at hv
    rcases hv with rfl | rfl <;> rfl
  mono := fun h _ _ => h
def flatR (l : List (Int × Int)) : List Value := (l.map prC).flatten
theorem flatR_snoc (l : List (Int × Int)) (q : Int × Int) : flatR (l ++ [q]) = flatR l ++ prC q := by simp [flatR]
theorem flatR_len (l : List (Int × Int)) : (flatR l).length = l.length * 2 := by
  have := flat_len (k := 2) (css := l.map prC) (fun cs h => by obtain ⟨x, _, rfl⟩ := List.mem_map.1 h; rfl)
  simpa [flatR] using this
theorem own_pr {W : World} {base t n c : Nat} {A : Option Addr} {l : List (Int × Int)} (h : W.ownsRow base t 2 (.slice A n c) n (flatR l)) : OwE prEn W base t A n c l := by
  have hl := h.1
  rw [flatR_len] at hl
  refine ⟨l.map prC, h, ⟨by simp, fun i cs x h1 h2 => ?_⟩, by omega⟩
  rw [List.getElem?_map, h2] at h1
  cases h1
  exact rfl
/-- An entry by where it stands: its inode and slot. -/
def slotQ (ns : List NodV) (q : Int × Nat) : Int × Int := (q.1, (((nodAt ns q.1).ents[q.2]?).getD ent0).slot)
def twiceS (ns : List NodV) (s : StW) : List (Int × Int) := s.2.map (slotQ ns)
/-- It returns a list of pairs. -/
def PairsRet (w : World) (l : List (Int × Int)) (e : Ending) (w' : World) : Prop := ∃ A n c, e = .returned (.slice A n c) ∧ n ≤ c ∧ RdE prEn w' (Under w'.heap.size) A n l ∧ Below w.heap.size w w'
def zpr : Value := .agg #[.int .i64 0, .int .i64 0]
set_option maxRecDepth 100000 in
theorem pr_info : (Tryz.prog.info? 169).map (fun i => (i.zero, i.size, i.bytes)) = some (some zpr, 2, 16) := by kernel_rfl
theorem lit_pr (q : Int × Int) (W : World) : (Instr.buildSlice 148 1 #[(0, .agg (prC q).toArray)]).run Tryz.prog W = .ok (.slice (some ⟨W.heap.size, 0, none⟩) 1 1) (W.alloc (.cells (prC q).toArray 169)) := by
  obtain ⟨it, hi, hz, hsz, -⟩ := info_parts pr_info
  refine run_buildSlice W _ 169 1 _ _ it zpr Tryz.underlying148 hi hz (by omega) (by omega) ?_
  rw [hsz]
  have := Great.fill_whole (s := 2) (by omega) [.agg (prC q).toArray] ((Array.range (1 * 2)).map (zpr.cells[· % zpr.cells.size]!)) (by intro v hv; rw [List.mem_singleton] at hv; subst hv; simp [Value.cells, prC]) (by simp)
  simpa [Value.cells] using this
set_option maxRecDepth 100000 in
theorem nam_agg : ∀ w, (isAgg 178).run Tryz.prog w = .ok true w := fun w => by kernel_rfl
set_option maxRecDepth 100000 in
theorem nam_size : ∀ w, (Go.sizeOf 178).run Tryz.prog w = .ok 2 w := fun w => by kernel_rfl
theorem twC_one (q : Int × Nat) : ∀ v ∈ twC q, v.oneCell' = true := by simp [twC, Value.oneCell']
theorem flatT_get {l : List (Int × Nat)} {j : Nat} {q : Int × Nat} (h : l[j]? = some q) {i : Nat} (hi : i < 2) : (flatT l)[j * 2 + i]? = (twC q)[i]? := by
  have := flat_get (k := 2) (css := l.map twC) (fun cs hc => by obtain ⟨z, _, rfl⟩ := List.mem_map.1 hc; rfl) (i := j) (j := i) (cs := twC q) (by rw [List.getElem?_map, h]; rfl) hi
  rw [show flatT l = (l.map twC).flatten from by simp [flatT, List.flatMap]]
  exact this
end Go.Proofs.YtnehkgbdppbhiaaGreat
