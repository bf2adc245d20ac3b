/- walk: the law's awake (layer 13). -/
import Derived.Test.YtnehkgbdppbhiaaWalT
import Derived.Test.YtnehkgbdppbhiaaPlanG
import Derived.Deep.Cut
import Derived.Deep.CutRange
namespace Go.Proofs.Ytnehkgbdppbhiaa
open Go.RowKit Go.Shelf Plain

def eA : List EntV := [⟨0, 3, [120]⟩, ⟨1, 1, [121]⟩]
def eB : List EntV := [⟨0, 2, [122]⟩]
def nA : NodV := { nod0 with k := 1, ents := eA }
def nB : NodV := { nod0 with k := 2 }
def nC : NodV := { nod0 with k := 1, ents := eB }
def nsA : List NodV := [nA, nB, nC]
def wysA : List WayV := [⟨1, -1, []⟩, ⟨3, 0, [120]⟩]
def prA : List NodV := [{ nod0 with k := 1, ents := [⟨0, 3, [120]⟩] }, nB, nC]
theorem aw_walk : walkW nsA [1] = (wysA, [(1, 1)]) := by decide +kernel
theorem aw_dirs : (walkW nsA [1]).1 = wysA := by rw [aw_walk]
theorem aw_prune : pruneW nsA (walkW nsA [1]) = prA := by decide +kernel
theorem aw_twice : twiceS nsA (walkW nsA [1]) = [(1, 1)] := by decide +kernel
theorem aw_reach : reachL nsA (walkW nsA [1]).1 = [true, true, true] := by decide +kernel
theorem aw_path : pathS wysA 1 = [[120]] := by decide +kernel
theorem aw_join : (47 :: Lib.join [[120]] [47] : List UInt8) = [47, 120] := by decide +kernel
theorem aw_many : Many nsA := by unfold Many; decide +kernel
theorem aw_data : ∀ x ∈ nsA, x.data.length ≤ 1000 := by decide +kernel
theorem int_one (W : World) : RdE Enc.int (W.alloc (.cells #[.int .i64 1] 3)) (Under (W.alloc (.cells #[.int .i64 1] 3)).heap.size) (some ⟨W.heap.size, 0, none⟩) 1 [1] := by
  refine ⟨rfl, fun _ => ⟨_, _, rfl, by unfold Under; simp, fun i x hx => ⟨[.int .i64 x], rfl, fun j v hv => ?_⟩⟩⟩
  have hi : i = 0 := by have := (List.getElem?_eq_some_iff.1 hx).1; simpa using this
  have hj : j = 0 := by have := (List.getElem?_eq_some_iff.1 hv).1; simpa using this
  subst hi hj
  have h := (RowL.new W 3 [.int .i64 1]).cell 0
  simp only [List.getElem?_cons_zero, Option.some.injEq] at hx hv
  subst hx hv
  exact h
/-- It reads so, and lies not in that block. -/
def RdN {α : Type} (E : Enc α) (W : World) (g : Nat) (A : Option Addr) (n : Nat) (l : List α) : Prop := RdE E W (fun b => b < W.heap.size ∧ b ≠ g) A n l
section
variable {α : Type} {E : Enc α} {W W' : World} {g n : Nat} {A : Option Addr} {l : List α}
theorem RdN.on (h : RdN E W g A n l) (hb : Below W.heap.size W W') : RdN E W' g A n l := RdE.mono h (fun _ hb' => hb.block _ hb'.1) (fun _ hb' => ⟨Nat.lt_of_lt_of_le hb'.1 hb.size, hb'.2⟩)
theorem RdN.of_under (h : RdE E W (Under W.heap.size) A n l) (o : Obj) : RdN E (W.alloc o) W.heap.size A n l := RdE.mono h (fun _ hb => (below_new (below_self W) o).block _ hb) (fun b hb => ⟨by have : b < W.heap.size := hb; simp; omega, by have : b < W.heap.size := hb; omega⟩)
theorem RdN.of_fresh {w0 : Nat} (h : RdE E W (fun b => w0 ≤ b ∧ b < W.heap.size) A n l) (hg : g < w0) : RdN E W g A n l := RdE.mono h (fun _ _ => rfl) (fun _ hb => ⟨hb.2, by omega⟩)
theorem RdN.grown (h : RdN E W g A n l) (hg : W.grownBy W' (some g)) : RdE E W' (Under W'.heap.size) A n l := RdE.mono h (fun _ hb => hg.block _ hb.1 (fun e => hb.2 (Option.some.inj e))) (fun _ hb => Nat.lt_of_lt_of_le hb.1 hg.size)
end
theorem ent_row {W : World} {g t : Nat} {l : List EntV} {D : Nat → Prop} (h : RowL W g t (flatE l)) (hD : D g) : RdE entEn W D (some ⟨g, 0, none⟩) l.length l := by
  refine ⟨rfl, fun _ => ⟨g, 0, rfl, hD, fun i x hx => ⟨cellsE x, ⟨[_], [_, _], rfl, rfl, [_], [_], rfl, rfl, rfl⟩, fun j v hv => ?_⟩⟩⟩
  have hj : j < 3 := by have := (List.getElem?_eq_some_iff.1 hv).1; simpa [cellsE] using this
  rw [Nat.zero_add, h.cell]
  have := flat_get (k := 3) (css := l.map cellsE) (fun cs hc => by obtain ⟨z, _, rfl⟩ := List.mem_map.1 hc; rfl) (i := i) (j := j) (cs := cellsE x) (by rw [List.getElem?_map, hx]; rfl) hj
  rw [show flatE l = (l.map cellsE).flatten from by simp [flatE, List.flatMap]]
  exact this.trans hv
def LitF (w W : World) : Prop := RdE nodEn W (Under W.heap.size) (some ⟨w.heap.size + 1 + 1, 0, none⟩) 3 nsA ∧ RowL W (w.heap.size + 1 + 1 + 1) 26 [.slice (some ⟨w.heap.size + 1 + 1, 0, none⟩) 3 3] ∧ Below w.heap.size w W
def cssA (h : Nat) : List (List Value) := [nodC nA (.slice none 0 0) (.slice (some ⟨h, 0, none⟩) 2 2), nodC nB (.slice none 0 0) (.slice none 0 0), nodC nC (.slice none 0 0) (.slice (some ⟨h + 1, 0, none⟩) 1 1)]
theorem lit13 (w : World) : LitF w ((((w.alloc (.cells (flatE eA).toArray 70)).alloc (.cells (flatE eB).toArray 70)).alloc (.cells (cssA w.heap.size).flatten.toArray 59)).alloc (.cells [Value.slice (some ⟨w.heap.size + 1 + 1, 0, none⟩) 3 3].toArray 26)) := by
  obtain ⟨W1, h1⟩ : ∃ W1, w.alloc (.cells (flatE eA).toArray 70) = W1 := ⟨_, rfl⟩
  have r1 := RowL.new w 70 (flatE eA)
  have b1 := below_new (below_self w) (.cells (flatE eA).toArray 70)
  have s1 : (w.alloc (.cells (flatE eA).toArray 70)).heap.size = w.heap.size + 1 := by simp
  rw [h1] at r1 b1 s1 ⊢
  obtain ⟨W2, h2⟩ : ∃ W2, W1.alloc (.cells (flatE eB).toArray 70) = W2 := ⟨_, rfl⟩
  have r2 := RowL.new W1 70 (flatE eB)
  have b2 := below_new (below_self W1) (.cells (flatE eB).toArray 70)
  have s2 : (W1.alloc (.cells (flatE eB).toArray 70)).heap.size = W1.heap.size + 1 := by simp
  rw [h2] at r2 b2 s2 ⊢
  obtain ⟨W3, h3⟩ : ∃ W3, W2.alloc (.cells (cssA w.heap.size).flatten.toArray 59) = W3 := ⟨_, rfl⟩
  have r3 := RowL.new W2 59 (cssA w.heap.size).flatten
  have b3 := below_new (below_self W2) (.cells (cssA w.heap.size).flatten.toArray 59)
  have s3 : (W2.alloc (.cells (cssA w.heap.size).flatten.toArray 59)).heap.size = W2.heap.size + 1 := by simp
  rw [h3] at r3 b3 s3 ⊢
  have r4 := RowL.new W3 26 [Value.slice (some ⟨w.heap.size + 1 + 1, 0, none⟩) 3 3]
  have b4 := below_new (below_self W3) (.cells [Value.slice (some ⟨w.heap.size + 1 + 1, 0, none⟩) 3 3].toArray 26)
  have R1 := ((r1.on b2).on b3).on b4
  have R2 := (r2.on b3).on b4
  have R3 := r3.on b4
  rw [s1] at R2
  rw [s2, s1] at R3
  rw [s3, s2, s1] at r4
  have hs4 : (W3.alloc (.cells [Value.slice (some ⟨w.heap.size + 1 + 1, 0, none⟩) 3 3].toArray 26)).heap.size = w.heap.size + 4 := by simp; omega
  refine ⟨?_, r4, below_step (below_step (below_step b1 b2) b3) b4⟩
  have hN : NodesAt 0 (w.heap.size + 1 + 1) nsA (W3.alloc (.cells [Value.slice (some ⟨w.heap.size + 1 + 1, 0, none⟩) 3 3].toArray 26)) := by
    refine ⟨cssA w.heap.size, R3, rfl, fun i cs x hc hx => ?_⟩
    have hi : i < 3 := (List.getElem?_eq_some_iff.1 hx).1
    obtain rfl | rfl | rfl : i = 0 ∨ i = 1 ∨ i = 2 := by omega
    · cases hc
      cases hx
      exact ⟨none, 0, 0, _, 2, 2, rfl, Nat.le_refl _, RdE.none_ _ _ _ _, Nat.le_refl _, ent_row R1 ⟨Nat.zero_le _, by omega, by omega⟩⟩
    · cases hc
      cases hx
      exact ⟨none, 0, 0, none, 0, 0, rfl, Nat.le_refl _, RdE.none_ _ _ _ _, Nat.le_refl _, RdE.none_ _ _ _ _⟩
    · cases hc
      cases hx
      exact ⟨none, 0, 0, _, 1, 1, rfl, Nat.le_refl _, RdE.none_ _ _ _ _, Nat.le_refl _, ent_row R2 ⟨Nat.zero_le _, by omega, by omega⟩⟩
  exact (hN.rd (n := 3) (Nat.zero_le _) rfl).mono (fun _ _ => rfl) (fun b hb => hb.2)
end Go.Proofs.Ytnehkgbdppbhiaa
