/- walk: names, an iterator over the entries that name directories (layer 13). -/
import Derived.Test.YtnehkgbdppbhiaaWalH
namespace Go.Proofs.Ytnehkgbdppbhiaa
open Go.RowKit Go.Shelf Plain
attribute [local go_sem] Oper.semAt_some

/-- What a round must keep: the layer, the walker's word of it, the iterator's two boxes. -/
def KpN (B g : Nat) (ns : List NodV) (m1 m2 : Nat) (W W' : World) : Prop := (∀ k, k < B → W'.heap[k]? = W.heap[k]?) ∧ (WkN W B g ns → WkN W' B g ns) ∧ W'.cell? ⟨m1, 0, none⟩ = W.cell? ⟨m1, 0, none⟩ ∧ W'.cell? ⟨m2, 0, none⟩ = W.cell? ⟨m2, 0, none⟩ ∧ W.heap.size ≤ W'.heap.size
section
variable {B g m1 m2 : Nat} {ns : List NodV} {U V W : World}
theorem kpN_t (h : KpN B g ns m1 m2 U V) (k : KpN B g ns m1 m2 V W) : KpN B g ns m1 m2 U W := ⟨fun i hi => (k.1 i hi).trans (h.1 i hi), fun hh => k.2.1 (h.2.1 hh), k.2.2.1.trans h.2.2.1, k.2.2.2.1.trans h.2.2.2.1, Nat.le_trans h.2.2.2.2 k.2.2.2.2⟩
theorem kpN_below {n : Nat} (hB : B ≤ n) (hg : g < n) (h1 : m1 < n) (h2 : m2 < n) (h : Below n U V) : KpN B g ns m1 m2 U V := ⟨fun i hi => h.block i (by omega), fun hh => by
  obtain ⟨A, m, c, h3, h4⟩ := hh
  exact ⟨A, m, c, (h.cell (p := ⟨g, 0, none⟩) hg).trans h3, h4.mono (fun b hb => h.block b (Nat.lt_of_lt_of_le hb hB)) (fun _ h => h)⟩, h.cell (p := ⟨m1, 0, none⟩) h1, h.cell (p := ⟨m2, 0, none⟩) h2, h.size⟩
theorem WkN.kp (h : WkN U B g ns) (k : KpN B g ns m1 m2 U V) : WkN V B g ns := k.2.1 h
end
/-- An entry that names a directory, and its place. -/
abbrev DirE (ns : List NodV) (l : List EntV) := { x : EntV × Nat // x ∈ dirsOf ns l }
def encN {ns : List NodV} {l : List EntV} (x : DirE ns l) : Array Value := #[.int .i64 (x.1.2 : Int), .agg (cellsE x.1.1).toArray]
def dirsK (ns : List NodV) (l : List EntV) (k : Nat) : List (EntV × Nat) := (l.zipIdx.take k).filter (fun x => isDir ns x.1.ino)
theorem dirsK_all {ns : List NodV} {l : List EntV} {k : Nat} (h : l.length ≤ k) : dirsK ns l k = dirsOf ns l := by
  unfold dirsK dirsOf
  rw [List.take_of_length_le (by simpa using h)]
theorem dirsK_succ {ns : List NodV} {l : List EntV} {k : Nat} {x : EntV} (h : l[k]? = some x) : dirsK ns l (k + 1) = if isDir ns x.ino = true then dirsK ns l k ++ [(x, k)] else dirsK ns l k := by
  have hk := (List.getElem?_eq_some_iff.1 h).1
  have hz : l.zipIdx[k]? = some (x, k) := by rw [List.getElem?_zipIdx, h]; simp
  unfold dirsK
  rw [List.take_add_one, hz, List.filter_append]
  split
  · rename_i hd
    simp [hd]
  · rename_i hd
    simp [hd]
theorem dirsK_mem {ns : List NodV} {l : List EntV} {k : Nat} {x : EntV} (h : l[k]? = some x) (hd : isDir ns x.ino = true) : (x, k) ∈ dirsOf ns l := by
  unfold dirsOf
  refine List.mem_filter.2 ⟨List.mem_zipIdx_iff_getElem?.2 h, hd⟩
theorem dirsK_len {ns : List NodV} {l : List EntV} {k : Nat} {x : EntV} (h : l[k]? = some x) (hd : isDir ns x.ino = true) : (dirsK ns l k).length < (dirsOf ns l).length := by
  have h1 : (dirsK ns l (k + 1)).length ≤ (dirsOf ns l).length := by
    unfold dirsK dirsOf
    exact ((List.take_sublist _ _).filter _).length_le
  rw [dirsK_succ h, if_pos hd, List.length_append] at h1
  simp at h1
  omega
set_option maxRecDepth 100000 in
theorem entw_agg : ∀ w, (isAgg 70).run Try.prog w = .ok true w := fun w => by kernel_rfl
set_option maxRecDepth 100000 in
theorem entw_size : ∀ w, (Go.sizeOf 70).run Try.prog w = .ok 3 w := fun w => by kernel_rfl
theorem cellsE_one (x : EntV) : ∀ v ∈ cellsE x, v.oneCell' = true := by simp [cellsE, Value.oneCell']
theorem below_stored' {W2 W3 : World} {o : Obj} (hg : (W2.alloc o).grownBy W3 (some W2.heap.size)) : Below W2.heap.size W2 W3 := (below_new (below_self W2) o).grown hg (by simp) (fun g hg => by have := Option.some.inj hg; omega)
end Go.Proofs.Ytnehkgbdppbhiaa
