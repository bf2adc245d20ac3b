/- walk: the law's awake (layer 13). -/
import Derived.Test.YtalhkcheglbolaaWalT
import Derived.Test.YtalhkcheglbolaaPlanG
import Derived.Deep.Cut
import Derived.Deep.CutRange
namespace Go.Proofs.Ytalhkcheglbolaa
open Go.RowKit Go.Shelf Plain

def eA : List EntV := [⟨0, 3, [120]⟩, ⟨1, 1, [121]⟩]
def eB : List EntV := [⟨0, 2, [122]⟩]
def nA : NodV := { nod0 with k := 1, ents := eA }
def nB : NodV := { nod0 with k := 2 }
def nC : NodV := { nod0 with k := 1, ents := eB }
def nsA : List NodV := [nA, nB, nC]
def wysA : List WayV := [⟨1, -1, []⟩, ⟨3, 0, [120]⟩]
def prA : List NodV := [{ nod0 with k := 1, ents := [⟨0, 3, [120]⟩] }, nB, nC]
theorem aw_walk : walkW nsA [1] = (wysA, [(1, 1)]) := by decide +kernel
theorem aw_dirs : (walkW nsA [1]).1 = wysA := by rw [aw_walk]
theorem aw_prune : pruneW nsA (walkW nsA [1]) = prA := by decide +kernel
theorem aw_twice : twiceS nsA (walkW nsA [1]) = [(1, 1)] := by decide +kernel
theorem aw_reach : reachL nsA (walkW nsA [1]).1 = [true, true, true] := by decide +kernel
theorem aw_path : pathS wysA 1 = [[120]] := by decide +kernel
theorem aw_join : (47 :: Lib.join [[120]] [47] : List UInt8) = [47, 120] := by decide +kernel
theorem aw_many : Many nsA := by unfold Many; decide +kernel
theorem aw_data : ∀ x ∈ nsA, x.data.length ≤ 1000 := by decide +kernel
theorem int_one (W : World) : RdE Enc.int (W.alloc (.cells #[.int .i64 1] 3)) (Under (W.alloc (.cells #[.int .i64 1] 3)).heap.size) (some ⟨W.heap.size, 0, none⟩) 1 [1] := by
  refine ⟨rfl, fun _ => ⟨_, _, rfl, by unfold Under; simp, fun i x hx => ⟨[.int .i64 x], rfl, fun j v hv => ?_⟩⟩⟩
  have hi : i = 0 := by have := (List.getElem?_eq_some_iff.1 hx).1; simpa using this
  have hj : j = 0 := by have := (List.getElem?_eq_some_iff.1 hv).1; simpa using this
  subst hi hj
  have h := (RowL.new W 3 [.int .i64 1]).cell 0
  simp only [List.getElem?_cons_zero, Option.some.injEq] at hx hv
  subst hx hv
  exact h
theorem pr_one (W : World) : RdE prEn (W.alloc (.cells #[.int .i64 1, .int .i64 1] 36)) (Under (W.alloc (.cells #[.int .i64 1, .int .i64 1] 36)).heap.size) (some ⟨W.heap.size, 0, none⟩) 1 [(1, 1)] := by
  refine ⟨rfl, fun _ => ⟨_, _, rfl, by unfold Under; simp, fun i x hx => ⟨prC x, rfl, fun j v hv => ?_⟩⟩⟩
  have hi : i = 0 := by have := (List.getElem?_eq_some_iff.1 hx).1; simpa using this
  subst hi
  cases hx
  have h := (RowL.new W 36 (prC (1, 1))).cell (0 + (0 * prEn.k + j))
  refine Eq.trans h ?_
  rw [show 0 + (0 * prEn.k + j) = j from by omega]
  exact hv
/-- It reads so, and lies not in that block. -/
def RdN {α : Type} (E : Enc α) (W : World) (g : Nat) (A : Option Addr) (n : Nat) (l : List α) : Prop := RdE E W (fun b => b < W.heap.size ∧ b ≠ g) A n l
section
variable {α : Type} {E : Enc α} {W W' : World} {g n : Nat} {A : Option Addr} {l : List α}
theorem RdN.on (h : RdN E W g A n l) (hb : Below W.heap.size W W') : RdN E W' g A n l := RdE.mono h (fun _ hb' => hb.block _ hb'.1) (fun _ hb' => ⟨Nat.lt_of_lt_of_le hb'.1 hb.size, hb'.2⟩)
theorem RdN.of_under (h : RdE E W (Under W.heap.size) A n l) (o : Obj) : RdN E (W.alloc o) W.heap.size A n l := RdE.mono h (fun _ hb => (below_new (below_self W) o).block _ hb) (fun b hb => ⟨by have : b < W.heap.size := hb; simp; omega, by have : b < W.heap.size := hb; omega⟩)
theorem RdN.of_fresh {w0 : Nat} (h : RdE E W (fun b => w0 ≤ b ∧ b < W.heap.size) A n l) (hg : g < w0) : RdN E W g A n l := RdE.mono h (fun _ _ => rfl) (fun _ hb => ⟨hb.2, by omega⟩)
theorem RdN.grown (h : RdN E W g A n l) (hg : W.grownBy W' (some g)) : RdE E W' (Under W'.heap.size) A n l := RdE.mono h (fun _ hb => hg.block _ hb.1 (fun e => hb.2 (Option.some.inj e))) (fun _ hb => Nat.lt_of_lt_of_le hb.1 hg.size)
end
theorem ent_row {W : World} {g t : Nat} {l : List EntV} {D : Nat → Prop} (h : RowL W g t (flatE l)) (hD : D g) : RdE entEn W D (some ⟨g, 0, none⟩) l.length l := by
  refine ⟨rfl, fun _ => ⟨g, 0, rfl, hD, fun i x hx => ⟨cellsE x, ⟨[_], [_, _], rfl, rfl, [_], [_], rfl, rfl, rfl⟩, fun j v hv => ?_⟩⟩⟩
  have hj : j < 3 := by have := (List.getElem?_eq_some_iff.1 hv).1; simpa [cellsE] using this
  rw [Nat.zero_add, h.cell]
  have := flat_get (k := 3) (css := l.map cellsE) (fun cs hc => by obtain ⟨z, _, rfl⟩ := List.mem_map.1 hc; rfl) (i := i) (j := j) (cs := cellsE x) (by rw [List.getElem?_map, hx]; rfl) hj
  rw [show flatE l = (l.map cellsE).flatten from by simp [flatE, List.flatMap]]
  exact this.trans hv
set_option maxRecDepth 100000 in
theorem eq_wayA (W : World) : (binOp .eql 33 (.agg #[.int .i64 3, .int .i64 0, .string ⟨#[120]⟩]) (.agg #[.int .i64 3, .int .i64 0, .string ⟨#[120]⟩])).run Try.prog W = .ok (.bool true) W := by
  simp [go_sem]
def LitF (w W : World) : Prop := RdE nodEn W (Under W.heap.size) (some ⟨w.heap.size + 1 + 1, 0, none⟩) 3 nsA ∧ RowL W (w.heap.size + 1 + 1 + 1) 24 [.slice (some ⟨w.heap.size + 1 + 1, 0, none⟩) 3 3] ∧ Below w.heap.size w W
def cssA (h : Nat) : List (List Value) := [nodC nA (.slice none 0 0) (.slice (some ⟨h, 0, none⟩) 2 2), nodC nB (.slice none 0 0) (.slice none 0 0), nodC nC (.slice none 0 0) (.slice (some ⟨h + 1, 0, none⟩) 1 1)]
theorem lit13 (w : World) : LitF w ((((w.alloc (.cells (flatE eA).toArray 67)).alloc (.cells (flatE eB).toArray 67)).alloc (.cells (cssA w.heap.size).flatten.toArray 64)).alloc (.cells [Value.slice (some ⟨w.heap.size + 1 + 1, 0, none⟩) 3 3].toArray 24)) := by
  obtain ⟨W1, h1⟩ : ∃ W1, w.alloc (.cells (flatE eA).toArray 67) = W1 := ⟨_, rfl⟩
  have r1 := RowL.new w 67 (flatE eA)
  have b1 := below_new (below_self w) (.cells (flatE eA).toArray 67)
  have s1 : (w.alloc (.cells (flatE eA).toArray 67)).heap.size = w.heap.size + 1 := by simp
  rw [h1] at r1 b1 s1 ⊢
  obtain ⟨W2, h2⟩ : ∃ W2, W1.alloc (.cells (flatE eB).toArray 67) = W2 := ⟨_, rfl⟩
  have r2 := RowL.new W1 67 (flatE eB)
  have b2 := below_new (below_self W1) (.cells (flatE eB).toArray 67)
  have s2 : (W1.alloc (.cells (flatE eB).toArray 67)).heap.size = W1.heap.size + 1 := by simp
  rw [h2] at r2 b2 s2 ⊢
  obtain ⟨W3, h3⟩ : ∃ W3, W2.alloc (.cells (cssA w.heap.size).flatten.toArray 64) = W3 := ⟨_, rfl⟩
  have r3 := RowL.new W2 64 (cssA w.heap.size).flatten
  have b3 := below_new (below_self W2) (.cells (cssA w.heap.size).flatten.toArray 64)
  have s3 : (W2.alloc (.cells (cssA w.heap.size).flatten.toArray 64)).heap.size = W2.heap.size + 1 := by simp
  rw [h3] at r3 b3 s3 ⊢
  have r4 := RowL.new W3 24 [Value.slice (some ⟨w.heap.size + 1 + 1, 0, none⟩) 3 3]
  have b4 := below_new (below_self W3) (.cells [Value.slice (some ⟨w.heap.size + 1 + 1, 0, none⟩) 3 3].toArray 24)
  have R1 := ((r1.on b2).on b3).on b4
  have R2 := (r2.on b3).on b4
  have R3 := r3.on b4
  rw [s1] at R2
  rw [s2, s1] at R3
  rw [s3, s2, s1] at r4
  have hs4 : (W3.alloc (.cells [Value.slice (some ⟨w.heap.size + 1 + 1, 0, none⟩) 3 3].toArray 24)).heap.size = w.heap.size + 4 := by simp; omega
  refine ⟨?_, r4, below_step (below_step (below_step b1 b2) b3) b4⟩
  have hN : NodesAt 0 (w.heap.size + 1 + 1) nsA (W3.alloc (.cells [Value.slice (some ⟨w.heap.size + 1 + 1, 0, none⟩) 3 3].toArray 24)) := by
    refine ⟨cssA w.heap.size, R3, rfl, fun i cs x hc hx => ?_⟩
    have hi : i < 3 := (List.getElem?_eq_some_iff.1 hx).1
    obtain rfl | rfl | rfl : i = 0 ∨ i = 1 ∨ i = 2 := by omega
    · cases hc
      cases hx
      exact ⟨none, 0, 0, _, 2, 2, rfl, Nat.le_refl _, RdE.none_ _ _ _ _, Nat.le_refl _, ent_row R1 ⟨Nat.zero_le _, by omega, by omega⟩⟩
    · cases hc
      cases hx
      exact ⟨none, 0, 0, none, 0, 0, rfl, Nat.le_refl _, RdE.none_ _ _ _ _, Nat.le_refl _, RdE.none_ _ _ _ _⟩
    · cases hc
      cases hx
      exact ⟨none, 0, 0, _, 1, 1, rfl, Nat.le_refl _, RdE.none_ _ _ _ _, Nat.le_refl _, ent_row R2 ⟨Nat.zero_le _, by omega, by omega⟩⟩
  exact (hN.rd (n := 3) (Nat.zero_le _) rfl).mono (fun _ _ => rfl) (fun b hb => hb.2)
set_option maxRecDepth 100000 in
set_option maxHeartbeats 40000000 in
theorem awake13_any (w : World) : Calls Try.prog 8 #[] w (LawOk w) := by
  have hlit : LitF w ((((w.alloc (.cells #[.int .i64 0, .int .i64 3, .string ⟨#[120]⟩, .int .i64 1, .int .i64 1, .string ⟨#[121]⟩] 67)).alloc (.cells #[.int .i64 0, .int .i64 2, .string ⟨#[122]⟩] 67)).alloc (.cells #[.int .i64 1, .int .i64 0, .int .i64 0, .int .i64 0, .slice none 0 0, .slice (some ⟨w.heap.size, 0, none⟩) 2 2, .int .i64 0, .int .i64 0, .string ⟨#[]⟩, .int .i64 0, .int .i64 0, .int .i64 0, .int .i64 0, .int .i64 2, .int .i64 0, .int .i64 0, .int .i64 0, .slice none 0 0, .slice none 0 0, .int .i64 0, .int .i64 0, .string ⟨#[]⟩, .int .i64 0, .int .i64 0, .int .i64 0, .int .i64 0, .int .i64 1, .int .i64 0, .int .i64 0, .int .i64 0, .slice none 0 0, .slice (some ⟨w.heap.size + 1, 0, none⟩) 1 1, .int .i64 0, .int .i64 0, .string ⟨#[]⟩, .int .i64 0, .int .i64 0, .int .i64 0, .int .i64 0] 64)).alloc (.cells #[.slice (some ⟨w.heap.size + 1 + 1, 0, none⟩) 3 3] 24)) := lit13 w
  have HLIT := hide hlit
  have qB : (((((w.alloc (.cells #[.int .i64 0, .int .i64 3, .string ⟨#[120]⟩, .int .i64 1, .int .i64 1, .string ⟨#[121]⟩] 67)).alloc (.cells #[.int .i64 0, .int .i64 2, .string ⟨#[122]⟩] 67)).alloc (.cells #[.int .i64 1, .int .i64 0, .int .i64 0, .int .i64 0, .slice none 0 0, .slice (some ⟨w.heap.size, 0, none⟩) 2 2, .int .i64 0, .int .i64 0, .string ⟨#[]⟩, .int .i64 0, .int .i64 0, .int .i64 0, .int .i64 0, .int .i64 2, .int .i64 0, .int .i64 0, .int .i64 0, .slice none 0 0, .slice none 0 0, .int .i64 0, .int .i64 0, .string ⟨#[]⟩, .int .i64 0, .int .i64 0, .int .i64 0, .int .i64 0, .int .i64 1, .int .i64 0, .int .i64 0, .int .i64 0, .slice none 0 0, .slice (some ⟨w.heap.size + 1, 0, none⟩) 1 1, .int .i64 0, .int .i64 0, .string ⟨#[]⟩, .int .i64 0, .int .i64 0, .int .i64 0, .int .i64 0] 64)).alloc (.cells #[.slice (some ⟨w.heap.size + 1 + 1, 0, none⟩) 3 3] 24))).cell? ⟨w.heap.size + 1 + 1 + 1, 0, none⟩ = some (.slice (some ⟨w.heap.size + 1 + 1, 0, none⟩) 3 3) := hlit.2.1.cell 0
  clear hlit
  go_enter Try.func8, Try.ntmps8
  go_upto_region 2 with fail
  have HN0 := hide HLIT.out.1
  have HR0 := hide HLIT.out.2.1
  have HBL := hide HLIT.out.2.1.lt
  have HW := hide HLIT.out.2.2
  clear HLIT
  generalize ((((w.alloc (.cells #[.int .i64 0, .int .i64 3, .string ⟨#[120]⟩, .int .i64 1, .int .i64 1, .string ⟨#[121]⟩] 67)).alloc (.cells #[.int .i64 0, .int .i64 2, .string ⟨#[122]⟩] 67)).alloc (.cells #[.int .i64 1, .int .i64 0, .int .i64 0, .int .i64 0, .slice none 0 0, .slice (some ⟨w.heap.size, 0, none⟩) 2 2, .int .i64 0, .int .i64 0, .string ⟨#[]⟩, .int .i64 0, .int .i64 0, .int .i64 0, .int .i64 0, .int .i64 2, .int .i64 0, .int .i64 0, .int .i64 0, .slice none 0 0, .slice none 0 0, .int .i64 0, .int .i64 0, .string ⟨#[]⟩, .int .i64 0, .int .i64 0, .int .i64 0, .int .i64 0, .int .i64 1, .int .i64 0, .int .i64 0, .int .i64 0, .slice none 0 0, .slice (some ⟨w.heap.size + 1, 0, none⟩) 1 1, .int .i64 0, .int .i64 0, .string ⟨#[]⟩, .int .i64 0, .int .i64 0, .int .i64 0, .int .i64 0] 64)).alloc (.cells #[.slice (some ⟨w.heap.size + 1 + 1, 0, none⟩) 3 3] 24)) = w4 at *
  generalize w.heap.size + 1 + 1 + 1 = hB at *
  generalize w.heap.size + 1 + 1 = hN at *
  go_cut [2, 3] from 14 to 19 (fun v2 v3 wx => ∃ A5 c5 A7 c7 g3, v2 = .slice A5 2 c5 ∧ v3 = .pointer (some ⟨g3, 0, none⟩) ∧ RdE wayEn wx (Under wx.heap.size) A5 2 wysA ∧ 2 ≤ c5 ∧ RowL wx g3 24 [.slice A7 3 c7] ∧ RdE nodEn wx (Under wx.heap.size) A7 3 prA ∧ Below w4.heap.size w4 wx)
  case first =>
    have HN := hide (HN0.out.on (below_drew (below_self w4)))
    refine wp_region_G (fun w' => Below w4.heap.size w4 w' ∧ w'.cell? ⟨hB, 0, none⟩ = some (.slice (some ⟨hN, 0, none⟩) 3 3)) (.take 0 (.take 3 (.alt 1 (.alt 2 (.alt 4 (.alt 5 (.alt 6 (.take 7 (.alt 8 .leaf .stop)) .stop) (.alt 6 (.alt 5 (.take 7 (.alt 8 .leaf .stop)) .stop) .stop)) (.alt 6 (.alt 4 (.alt 5 (.take 7 (.alt 8 .leaf .stop)) .stop) .stop) .stop)) (.alt 4 (.alt 2 (.alt 5 (.alt 6 (.take 7 (.alt 8 .leaf .stop)) .stop) (.alt 6 (.alt 5 (.take 7 (.alt 8 .leaf .stop)) .stop) .stop)) (.alt 6 (.alt 2 (.alt 5 (.take 7 (.alt 8 .leaf .stop)) .stop) .stop) .stop)) (.alt 6 (.alt 2 (.alt 4 (.alt 5 (.take 7 (.alt 8 .leaf .stop)) .stop) .stop) (.alt 4 (.alt 2 (.alt 5 (.take 7 (.alt 8 .leaf .stop)) .stop) .stop) .stop)) .stop))) (.alt 4 (.alt 1 (.alt 2 (.alt 5 (.alt 6 (.take 7 (.alt 8 .leaf .stop)) .stop) (.alt 6 (.alt 5 (.take 7 (.alt 8 .leaf .stop)) .stop) .stop)) (.alt 6 (.alt 2 (.alt 5 (.take 7 (.alt 8 .leaf .stop)) .stop) .stop) .stop)) (.alt 6 (.alt 1 (.alt 2 (.alt 5 (.take 7 (.alt 8 .leaf .stop)) .stop) .stop) .stop) .stop)) (.alt 6 (.alt 1 (.alt 2 (.alt 4 (.alt 5 (.take 7 (.alt 8 .leaf .stop)) .stop) .stop) (.alt 4 (.alt 2 (.alt 5 (.take 7 (.alt 8 .leaf .stop)) .stop) .stop) .stop)) (.alt 4 (.alt 1 (.alt 2 (.alt 5 (.take 7 (.alt 8 .leaf .stop)) .stop) .stop) .stop) .stop)) .stop))))) (by kernel_rfl) (by kernel_rfl) (by kernel_rfl) (by kernel_rfl) rfl (fun _ _ _ _ _ h => h) ⟨below_drew (below_self w4), qB⟩ (fun hHeld => ?_)
    clear qB
    generalize w4.drew = wd at *
    simp only [PT.map, List.getElem?_toArray, List.getElem?_cons_succ, List.getElem?_cons_zero]
    refine wpPT_take (v := ?_) (by kernel_rfl) (fun wS hSw => ?_) ?_
    rotate_left
    · (try dsimp only at hSw); go_simp; (try with_reducible rfl)
    (try simp only [Act.put, List.setIfInBounds_toArray, List.set_cons_zero, List.set_cons_succ])
    refine wpPT_take (v := ?_) (by kernel_rfl) (fun wS hSw => ?_) ?_
    rotate_left
    · (try dsimp only at hSw); go_simp; (try with_reducible rfl)
    (try simp only [Act.put, List.setIfInBounds_toArray, List.set_cons_zero, List.set_cons_succ])
    refine wpPT_alt (by kernel_rfl) (fun K hK => ?_) ?_
    · skip
      have hOld := hide hHeld
      clear hHeld
      unfold Oper.wp execOp
      go_simp
      have hal := below_new (below_self wd) (.cells #[.int .i64 1] 3)
      have hb' := hal.mono (B' := w4.heap.size) hOld.out.1.size
      have HFN := hide (int_one wd)
      refine hK.out _ _ (⟨hOld.out.1.trans hb', (hb'.cell (p := ⟨hB, 0, none⟩) HBL.out).trans hOld.out.2⟩) (fun hHeld => ?_)
      clear hK K
      have HN' := hide (HN.out.on hal)
      clear HN
      have HN := HN'
      clear HN'
      have HF1 := HFN
      clear hal hb' hOld HFN
      generalize wd.alloc (.cells #[.int .i64 1] 3) = z0 at *
      (try simp only [Act.put, List.setIfInBounds_toArray, List.set_cons_zero, List.set_cons_succ])
      refine wpPT_alt (by kernel_rfl) (fun K hK => ?_) ?_
      · skip
        have hOld := hide hHeld
        clear hHeld
        go_simp
        go_at_call 9
        refine (Dirs_any _ HN.out HF1.out aw_many (by omega)).mono ?_
        rintro e w' ⟨A5, n5, c5, rfl, hc5, hl5, hbel⟩
        have hb' := hbel.mono (B' := w4.heap.size) hOld.out.1.size
        rw [aw_dirs] at hl5
        obtain rfl : n5 = 2 := hl5.1.symm
        have HL := hide (hl5.mono (fun _ _ => rfl) (fun b hb => hb.2) : RdE wayEn w' (Under w'.heap.size) _ _ _)
        have HN' := hide (HN.out.on hbel)
        clear HN
        have HN := HN'
        clear HN'
        have HF1' := hide (HF1.out.on hbel)
        clear HF1
        have HF1 := HF1'
        clear HF1'
        clear hl5 hbel
        refine hK.out _ _ (⟨hOld.out.1.trans hb', (hb'.cell (p := ⟨hB, 0, none⟩) HBL.out).trans hOld.out.2⟩) (fun hHeld => ?_)
        clear hK K
        (try simp only [Act.put, List.setIfInBounds_toArray, List.set_cons_zero, List.set_cons_succ])
        refine wpPT_alt (by kernel_rfl) (fun K hK => ?_) ?_
        · skip
          have hOld := hide hHeld
          clear hHeld
          unfold Oper.wp execOp
          go_simp
          have hal := below_new (below_self w') (.cells #[.int .i64 1] 3)
          have hb' := hal.mono (B' := w4.heap.size) hOld.out.1.size
          have HFN := hide (int_one w')
          refine hK.out _ _ (⟨hOld.out.1.trans hb', (hb'.cell (p := ⟨hB, 0, none⟩) HBL.out).trans hOld.out.2⟩) (fun hHeld => ?_)
          clear hK K
          have HN' := hide (HN.out.on hal)
          clear HN
          have HN := HN'
          clear HN'
          have HF1' := hide (HF1.out.on hal)
          clear HF1
          have HF1 := HF1'
          clear HF1'
          have HL' := hide (HL.out.on hal)
          clear HL
          have HL := HL'
          clear HL'
          have HF4 := HFN
          clear hal hb' hOld HFN
          generalize w'.alloc (.cells #[.int .i64 1] 3) = z2 at *
          (try simp only [Act.put, List.setIfInBounds_toArray, List.set_cons_zero, List.set_cons_succ])
          refine wpPT_alt (by kernel_rfl) (fun K hK => ?_) ?_
          · skip
            have hOld := hide hHeld
            clear hHeld
            go_simp
            go_at_call 21
            refine (Prune_any _ HN.out HF4.out aw_many aw_data (by omega)).mono ?_
            rintro e w' ⟨A7, n7, c7, rfl, hc7, hl7, hbel⟩
            have hb' := hbel.mono (B' := w4.heap.size) hOld.out.1.size
            rw [aw_prune] at hl7
            obtain rfl : n7 = 3 := hl7.1.symm
            have HP := hide (hl7.mono (fun _ _ => rfl) (fun b hb => hb.2) : RdE nodEn w' (Under w'.heap.size) _ _ _)
            have HN' := hide (HN.out.on hbel)
            clear HN
            have HN := HN'
            clear HN'
            have HF1' := hide (HF1.out.on hbel)
            clear HF1
            have HF1 := HF1'
            clear HF1'
            have HF4' := hide (HF4.out.on hbel)
            clear HF4
            have HF4 := HF4'
            clear HF4'
            have HL' := hide (HL.out.on hbel)
            clear HL
            have HL := HL'
            clear HL'
            clear hl7 hbel
            refine hK.out _ _ (⟨hOld.out.1.trans hb', (hb'.cell (p := ⟨hB, 0, none⟩) HBL.out).trans hOld.out.2⟩) (fun hHeld => ?_)
            clear hK K
            (try simp only [Act.put, List.setIfInBounds_toArray, List.set_cons_zero, List.set_cons_succ])
            refine wpPT_alt (by kernel_rfl) (fun K hK => ?_) ?_
            rotate_left
            · exact wpPT_stop
            have hOld := hide hHeld
            clear hHeld
            unfold Oper.wp execOp
            go_simp
            have hal := below_new (below_self w') (.cells #[.slice none 0 0] 24)
            have hb' := hal.mono (B' := w4.heap.size) hOld.out.1.size
            have HGN := hide (RowL.new w' 24 [.slice none 0 0])
            have hg3 : w4.heap.size ≤ w'.heap.size := hOld.out.1.size
            refine hK.out _ _ (⟨hOld.out.1.trans hb', (hb'.cell (p := ⟨hB, 0, none⟩) HBL.out).trans hOld.out.2⟩) (fun hHeld => ?_)
            clear hK K
            have HN' := hide (HN.out.on hal)
            clear HN
            have HN := HN'
            clear HN'
            have HF1' := hide (HF1.out.on hal)
            clear HF1
            have HF1 := HF1'
            clear HF1'
            have HF4' := hide (HF4.out.on hal)
            clear HF4
            have HF4 := HF4'
            clear HF4'
            have HL' := hide (RdN.of_under HL.out (.cells #[.slice none 0 0] 24))
            clear HL
            have HL := HL'
            clear HL'
            have HP' := hide (RdN.of_under HP.out (.cells #[.slice none 0 0] 24))
            clear HP
            have HP := HP'
            clear HP'
            have HG := HGN
            clear hal hb' hOld HGN
            generalize w'.alloc (.cells #[.slice none 0 0] 24) = z4 at *
            generalize w'.heap.size = g3 at *
            (try simp only [Act.put, List.setIfInBounds_toArray, List.set_cons_zero, List.set_cons_succ])
            refine wpPT_take (v := ?_) (by kernel_rfl) (fun wS hSw => ?_) ?_
            rotate_left
            · (try dsimp only at hSw); go_simp; (try with_reducible rfl)
            (try simp only [Act.put, List.setIfInBounds_toArray, List.set_cons_zero, List.set_cons_succ])
            refine wpPT_alt (by kernel_rfl) (fun K hK => ?_) ?_
            rotate_left
            · exact wpPT_stop
            have hOld := hide hHeld
            clear hHeld
            refine wp_storeC 24 (.tmp 3) (.tmp 19) rfl 1 lay_size g3 0 24 rfl [.slice none 0 0] [.slice A7 3 c7] rfl HG.out rfl (by simp) (by simp [Value.oneCell']) ?_
            intro w9 hr9 hg9 hs9
            refine hK.out _ _ (⟨hOld.out.1.grown hg9 hOld.out.1.size (fun k hk => by have := Option.some.inj hk; omega), (cell_same (hg9.block hB (by have := HBL.out; have := hOld.out.1.size; omega) (fun e => by have := Option.some.inj e; have := HBL.out; omega))).trans hOld.out.2⟩) (fun hHeld => ?_)
            clear hK K
            have HL9 := hide (RdN.grown HL.out hg9)
            have HP9 := hide (RdN.grown HP.out hg9)
            have HG9 := hide hr9
            clear hg9 hs9 hr9
            simp only [Act.put]
            refine wpPT_leaf ?_
            have HB9 := hide hHeld.1
            clear hHeld hOld
            go_wp2_with fail
            go_meet
            case rel => exact ⟨A5, c5, A7, c7, g3, rfl, rfl, HL9.out, hc5, HG9.out, HP9.out, HB9.out⟩
          refine wpPT_alt (by kernel_rfl) (fun K hK => ?_) ?_
          · skip
            have hOld := hide hHeld
            clear hHeld
            unfold Oper.wp execOp
            go_simp
            have hal := below_new (below_self z2) (.cells #[.slice none 0 0] 24)
            have hb' := hal.mono (B' := w4.heap.size) hOld.out.1.size
            have HGN := hide (RowL.new z2 24 [.slice none 0 0])
            have hg3 : w4.heap.size ≤ z2.heap.size := hOld.out.1.size
            refine hK.out _ _ (⟨hOld.out.1.trans hb', (hb'.cell (p := ⟨hB, 0, none⟩) HBL.out).trans hOld.out.2⟩) (fun hHeld => ?_)
            clear hK K
            have HN' := hide (HN.out.on hal)
            clear HN
            have HN := HN'
            clear HN'
            have HF1' := hide (HF1.out.on hal)
            clear HF1
            have HF1 := HF1'
            clear HF1'
            have HF4' := hide (HF4.out.on hal)
            clear HF4
            have HF4 := HF4'
            clear HF4'
            have HL' := hide (RdN.of_under HL.out (.cells #[.slice none 0 0] 24))
            clear HL
            have HL := HL'
            clear HL'
            have HG := HGN
            clear hal hb' hOld HGN
            generalize z2.alloc (.cells #[.slice none 0 0] 24) = z3 at *
            generalize z2.heap.size = g3 at *
            (try simp only [Act.put, List.setIfInBounds_toArray, List.set_cons_zero, List.set_cons_succ])
            refine wpPT_alt (by kernel_rfl) (fun K hK => ?_) ?_
            rotate_left
            · exact wpPT_stop
            have hOld := hide hHeld
            clear hHeld
            go_simp
            go_at_call 21
            refine (Prune_any _ HN.out HF4.out aw_many aw_data (by omega)).mono ?_
            rintro e w' ⟨A7, n7, c7, rfl, hc7, hl7, hbel⟩
            have hb' := hbel.mono (B' := w4.heap.size) hOld.out.1.size
            rw [aw_prune] at hl7
            obtain rfl : n7 = 3 := hl7.1.symm
            have HP := hide (RdN.of_fresh hl7 HG.out.lt)
            have HN' := hide (HN.out.on hbel)
            clear HN
            have HN := HN'
            clear HN'
            have HF1' := hide (HF1.out.on hbel)
            clear HF1
            have HF1 := HF1'
            clear HF1'
            have HF4' := hide (HF4.out.on hbel)
            clear HF4
            have HF4 := HF4'
            clear HF4'
            have HL' := hide (HL.out.on hbel)
            clear HL
            have HL := HL'
            clear HL'
            have HG' := hide (HG.out.on hbel)
            clear HG
            have HG := HG'
            clear HG'
            clear hl7 hbel
            refine hK.out _ _ (⟨hOld.out.1.trans hb', (hb'.cell (p := ⟨hB, 0, none⟩) HBL.out).trans hOld.out.2⟩) (fun hHeld => ?_)
            clear hK K
            (try simp only [Act.put, List.setIfInBounds_toArray, List.set_cons_zero, List.set_cons_succ])
            refine wpPT_take (v := ?_) (by kernel_rfl) (fun wS hSw => ?_) ?_
            rotate_left
            · (try dsimp only at hSw); go_simp; (try with_reducible rfl)
            (try simp only [Act.put, List.setIfInBounds_toArray, List.set_cons_zero, List.set_cons_succ])
            refine wpPT_alt (by kernel_rfl) (fun K hK => ?_) ?_
            rotate_left
            · exact wpPT_stop
            have hOld := hide hHeld
            clear hHeld
            refine wp_storeC 24 (.tmp 3) (.tmp 19) rfl 1 lay_size g3 0 24 rfl [.slice none 0 0] [.slice A7 3 c7] rfl HG.out rfl (by simp) (by simp [Value.oneCell']) ?_
            intro w9 hr9 hg9 hs9
            refine hK.out _ _ (⟨hOld.out.1.grown hg9 hOld.out.1.size (fun k hk => by have := Option.some.inj hk; omega), (cell_same (hg9.block hB (by have := HBL.out; have := hOld.out.1.size; omega) (fun e => by have := Option.some.inj e; have := HBL.out; omega))).trans hOld.out.2⟩) (fun hHeld => ?_)
            clear hK K
            have HL9 := hide (RdN.grown HL.out hg9)
            have HP9 := hide (RdN.grown HP.out hg9)
            have HG9 := hide hr9
            clear hg9 hs9 hr9
            simp only [Act.put]
            refine wpPT_leaf ?_
            have HB9 := hide hHeld.1
            clear hHeld hOld
            go_wp2_with fail
            go_meet
            case rel => exact ⟨A5, c5, A7, c7, g3, rfl, rfl, HL9.out, hc5, HG9.out, HP9.out, HB9.out⟩
          exact wpPT_stop
        refine wpPT_alt (by kernel_rfl) (fun K hK => ?_) ?_
        · skip
          have hOld := hide hHeld
          clear hHeld
          unfold Oper.wp execOp
          go_simp
          have hal := below_new (below_self w') (.cells #[.slice none 0 0] 24)
          have hb' := hal.mono (B' := w4.heap.size) hOld.out.1.size
          have HGN := hide (RowL.new w' 24 [.slice none 0 0])
          have hg3 : w4.heap.size ≤ w'.heap.size := hOld.out.1.size
          refine hK.out _ _ (⟨hOld.out.1.trans hb', (hb'.cell (p := ⟨hB, 0, none⟩) HBL.out).trans hOld.out.2⟩) (fun hHeld => ?_)
          clear hK K
          have HN' := hide (HN.out.on hal)
          clear HN
          have HN := HN'
          clear HN'
          have HF1' := hide (HF1.out.on hal)
          clear HF1
          have HF1 := HF1'
          clear HF1'
          have HL' := hide (RdN.of_under HL.out (.cells #[.slice none 0 0] 24))
          clear HL
          have HL := HL'
          clear HL'
          have HG := HGN
          clear hal hb' hOld HGN
          generalize w'.alloc (.cells #[.slice none 0 0] 24) = z2 at *
          generalize w'.heap.size = g3 at *
          (try simp only [Act.put, List.setIfInBounds_toArray, List.set_cons_zero, List.set_cons_succ])
          refine wpPT_alt (by kernel_rfl) (fun K hK => ?_) ?_
          rotate_left
          · exact wpPT_stop
          have hOld := hide hHeld
          clear hHeld
          unfold Oper.wp execOp
          go_simp
          have hal := below_new (below_self z2) (.cells #[.int .i64 1] 3)
          have hb' := hal.mono (B' := w4.heap.size) hOld.out.1.size
          have HFN := hide (int_one z2)
          refine hK.out _ _ (⟨hOld.out.1.trans hb', (hb'.cell (p := ⟨hB, 0, none⟩) HBL.out).trans hOld.out.2⟩) (fun hHeld => ?_)
          clear hK K
          have HN' := hide (HN.out.on hal)
          clear HN
          have HN := HN'
          clear HN'
          have HF1' := hide (HF1.out.on hal)
          clear HF1
          have HF1 := HF1'
          clear HF1'
          have HL' := hide (HL.out.on hal)
          clear HL
          have HL := HL'
          clear HL'
          have HG' := hide (HG.out.on hal)
          clear HG
          have HG := HG'
          clear HG'
          have HF4 := HFN
          clear hal hb' hOld HFN
          generalize z2.alloc (.cells #[.int .i64 1] 3) = z3 at *
          (try simp only [Act.put, List.setIfInBounds_toArray, List.set_cons_zero, List.set_cons_succ])
          refine wpPT_alt (by kernel_rfl) (fun K hK => ?_) ?_
          rotate_left
          · exact wpPT_stop
          have hOld := hide hHeld
          clear hHeld
          go_simp
          go_at_call 21
          refine (Prune_any _ HN.out HF4.out aw_many aw_data (by omega)).mono ?_
          rintro e w' ⟨A7, n7, c7, rfl, hc7, hl7, hbel⟩
          have hb' := hbel.mono (B' := w4.heap.size) hOld.out.1.size
          rw [aw_prune] at hl7
          obtain rfl : n7 = 3 := hl7.1.symm
          have HP := hide (RdN.of_fresh hl7 HG.out.lt)
          have HN' := hide (HN.out.on hbel)
          clear HN
          have HN := HN'
          clear HN'
          have HF1' := hide (HF1.out.on hbel)
          clear HF1
          have HF1 := HF1'
          clear HF1'
          have HF4' := hide (HF4.out.on hbel)
          clear HF4
          have HF4 := HF4'
          clear HF4'
          have HL' := hide (HL.out.on hbel)
          clear HL
          have HL := HL'
          clear HL'
          have HG' := hide (HG.out.on hbel)
          clear HG
          have HG := HG'
          clear HG'
          clear hl7 hbel
          refine hK.out _ _ (⟨hOld.out.1.trans hb', (hb'.cell (p := ⟨hB, 0, none⟩) HBL.out).trans hOld.out.2⟩) (fun hHeld => ?_)
          clear hK K
          (try simp only [Act.put, List.setIfInBounds_toArray, List.set_cons_zero, List.set_cons_succ])
          refine wpPT_take (v := ?_) (by kernel_rfl) (fun wS hSw => ?_) ?_
          rotate_left
          · (try dsimp only at hSw); go_simp; (try with_reducible rfl)
          (try simp only [Act.put, List.setIfInBounds_toArray, List.set_cons_zero, List.set_cons_succ])
          refine wpPT_alt (by kernel_rfl) (fun K hK => ?_) ?_
          rotate_left
          · exact wpPT_stop
          have hOld := hide hHeld
          clear hHeld
          refine wp_storeC 24 (.tmp 3) (.tmp 19) rfl 1 lay_size g3 0 24 rfl [.slice none 0 0] [.slice A7 3 c7] rfl HG.out rfl (by simp) (by simp [Value.oneCell']) ?_
          intro w9 hr9 hg9 hs9
          refine hK.out _ _ (⟨hOld.out.1.grown hg9 hOld.out.1.size (fun k hk => by have := Option.some.inj hk; omega), (cell_same (hg9.block hB (by have := HBL.out; have := hOld.out.1.size; omega) (fun e => by have := Option.some.inj e; have := HBL.out; omega))).trans hOld.out.2⟩) (fun hHeld => ?_)
          clear hK K
          have HL9 := hide (RdN.grown HL.out hg9)
          have HP9 := hide (RdN.grown HP.out hg9)
          have HG9 := hide hr9
          clear hg9 hs9 hr9
          simp only [Act.put]
          refine wpPT_leaf ?_
          have HB9 := hide hHeld.1
          clear hHeld hOld
          go_wp2_with fail
          go_meet
          case rel => exact ⟨A5, c5, A7, c7, g3, rfl, rfl, HL9.out, hc5, HG9.out, HP9.out, HB9.out⟩
        exact wpPT_stop
      refine wpPT_alt (by kernel_rfl) (fun K hK => ?_) ?_
      · skip
        have hOld := hide hHeld
        clear hHeld
        unfold Oper.wp execOp
        go_simp
        have hal := below_new (below_self z0) (.cells #[.int .i64 1] 3)
        have hb' := hal.mono (B' := w4.heap.size) hOld.out.1.size
        have HFN := hide (int_one z0)
        refine hK.out _ _ (⟨hOld.out.1.trans hb', (hb'.cell (p := ⟨hB, 0, none⟩) HBL.out).trans hOld.out.2⟩) (fun hHeld => ?_)
        clear hK K
        have HN' := hide (HN.out.on hal)
        clear HN
        have HN := HN'
        clear HN'
        have HF1' := hide (HF1.out.on hal)
        clear HF1
        have HF1 := HF1'
        clear HF1'
        have HF4 := HFN
        clear hal hb' hOld HFN
        generalize z0.alloc (.cells #[.int .i64 1] 3) = z1 at *
        (try simp only [Act.put, List.setIfInBounds_toArray, List.set_cons_zero, List.set_cons_succ])
        refine wpPT_alt (by kernel_rfl) (fun K hK => ?_) ?_
        · skip
          have hOld := hide hHeld
          clear hHeld
          go_simp
          go_at_call 9
          refine (Dirs_any _ HN.out HF1.out aw_many (by omega)).mono ?_
          rintro e w' ⟨A5, n5, c5, rfl, hc5, hl5, hbel⟩
          have hb' := hbel.mono (B' := w4.heap.size) hOld.out.1.size
          rw [aw_dirs] at hl5
          obtain rfl : n5 = 2 := hl5.1.symm
          have HL := hide (hl5.mono (fun _ _ => rfl) (fun b hb => hb.2) : RdE wayEn w' (Under w'.heap.size) _ _ _)
          have HN' := hide (HN.out.on hbel)
          clear HN
          have HN := HN'
          clear HN'
          have HF1' := hide (HF1.out.on hbel)
          clear HF1
          have HF1 := HF1'
          clear HF1'
          have HF4' := hide (HF4.out.on hbel)
          clear HF4
          have HF4 := HF4'
          clear HF4'
          clear hl5 hbel
          refine hK.out _ _ (⟨hOld.out.1.trans hb', (hb'.cell (p := ⟨hB, 0, none⟩) HBL.out).trans hOld.out.2⟩) (fun hHeld => ?_)
          clear hK K
          (try simp only [Act.put, List.setIfInBounds_toArray, List.set_cons_zero, List.set_cons_succ])
          refine wpPT_alt (by kernel_rfl) (fun K hK => ?_) ?_
          · skip
            have hOld := hide hHeld
            clear hHeld
            go_simp
            go_at_call 21
            refine (Prune_any _ HN.out HF4.out aw_many aw_data (by omega)).mono ?_
            rintro e w' ⟨A7, n7, c7, rfl, hc7, hl7, hbel⟩
            have hb' := hbel.mono (B' := w4.heap.size) hOld.out.1.size
            rw [aw_prune] at hl7
            obtain rfl : n7 = 3 := hl7.1.symm
            have HP := hide (hl7.mono (fun _ _ => rfl) (fun b hb => hb.2) : RdE nodEn w' (Under w'.heap.size) _ _ _)
            have HN' := hide (HN.out.on hbel)
            clear HN
            have HN := HN'
            clear HN'
            have HF1' := hide (HF1.out.on hbel)
            clear HF1
            have HF1 := HF1'
            clear HF1'
            have HF4' := hide (HF4.out.on hbel)
            clear HF4
            have HF4 := HF4'
            clear HF4'
            have HL' := hide (HL.out.on hbel)
            clear HL
            have HL := HL'
            clear HL'
            clear hl7 hbel
            refine hK.out _ _ (⟨hOld.out.1.trans hb', (hb'.cell (p := ⟨hB, 0, none⟩) HBL.out).trans hOld.out.2⟩) (fun hHeld => ?_)
            clear hK K
            (try simp only [Act.put, List.setIfInBounds_toArray, List.set_cons_zero, List.set_cons_succ])
            refine wpPT_alt (by kernel_rfl) (fun K hK => ?_) ?_
            rotate_left
            · exact wpPT_stop
            have hOld := hide hHeld
            clear hHeld
            unfold Oper.wp execOp
            go_simp
            have hal := below_new (below_self w') (.cells #[.slice none 0 0] 24)
            have hb' := hal.mono (B' := w4.heap.size) hOld.out.1.size
            have HGN := hide (RowL.new w' 24 [.slice none 0 0])
            have hg3 : w4.heap.size ≤ w'.heap.size := hOld.out.1.size
            refine hK.out _ _ (⟨hOld.out.1.trans hb', (hb'.cell (p := ⟨hB, 0, none⟩) HBL.out).trans hOld.out.2⟩) (fun hHeld => ?_)
            clear hK K
            have HN' := hide (HN.out.on hal)
            clear HN
            have HN := HN'
            clear HN'
            have HF1' := hide (HF1.out.on hal)
            clear HF1
            have HF1 := HF1'
            clear HF1'
            have HF4' := hide (HF4.out.on hal)
            clear HF4
            have HF4 := HF4'
            clear HF4'
            have HL' := hide (RdN.of_under HL.out (.cells #[.slice none 0 0] 24))
            clear HL
            have HL := HL'
            clear HL'
            have HP' := hide (RdN.of_under HP.out (.cells #[.slice none 0 0] 24))
            clear HP
            have HP := HP'
            clear HP'
            have HG := HGN
            clear hal hb' hOld HGN
            generalize w'.alloc (.cells #[.slice none 0 0] 24) = z4 at *
            generalize w'.heap.size = g3 at *
            (try simp only [Act.put, List.setIfInBounds_toArray, List.set_cons_zero, List.set_cons_succ])
            refine wpPT_take (v := ?_) (by kernel_rfl) (fun wS hSw => ?_) ?_
            rotate_left
            · (try dsimp only at hSw); go_simp; (try with_reducible rfl)
            (try simp only [Act.put, List.setIfInBounds_toArray, List.set_cons_zero, List.set_cons_succ])
            refine wpPT_alt (by kernel_rfl) (fun K hK => ?_) ?_
            rotate_left
            · exact wpPT_stop
            have hOld := hide hHeld
            clear hHeld
            refine wp_storeC 24 (.tmp 3) (.tmp 19) rfl 1 lay_size g3 0 24 rfl [.slice none 0 0] [.slice A7 3 c7] rfl HG.out rfl (by simp) (by simp [Value.oneCell']) ?_
            intro w9 hr9 hg9 hs9
            refine hK.out _ _ (⟨hOld.out.1.grown hg9 hOld.out.1.size (fun k hk => by have := Option.some.inj hk; omega), (cell_same (hg9.block hB (by have := HBL.out; have := hOld.out.1.size; omega) (fun e => by have := Option.some.inj e; have := HBL.out; omega))).trans hOld.out.2⟩) (fun hHeld => ?_)
            clear hK K
            have HL9 := hide (RdN.grown HL.out hg9)
            have HP9 := hide (RdN.grown HP.out hg9)
            have HG9 := hide hr9
            clear hg9 hs9 hr9
            simp only [Act.put]
            refine wpPT_leaf ?_
            have HB9 := hide hHeld.1
            clear hHeld hOld
            go_wp2_with fail
            go_meet
            case rel => exact ⟨A5, c5, A7, c7, g3, rfl, rfl, HL9.out, hc5, HG9.out, HP9.out, HB9.out⟩
          refine wpPT_alt (by kernel_rfl) (fun K hK => ?_) ?_
          · skip
            have hOld := hide hHeld
            clear hHeld
            unfold Oper.wp execOp
            go_simp
            have hal := below_new (below_self w') (.cells #[.slice none 0 0] 24)
            have hb' := hal.mono (B' := w4.heap.size) hOld.out.1.size
            have HGN := hide (RowL.new w' 24 [.slice none 0 0])
            have hg3 : w4.heap.size ≤ w'.heap.size := hOld.out.1.size
            refine hK.out _ _ (⟨hOld.out.1.trans hb', (hb'.cell (p := ⟨hB, 0, none⟩) HBL.out).trans hOld.out.2⟩) (fun hHeld => ?_)
            clear hK K
            have HN' := hide (HN.out.on hal)
            clear HN
            have HN := HN'
            clear HN'
            have HF1' := hide (HF1.out.on hal)
            clear HF1
            have HF1 := HF1'
            clear HF1'
            have HF4' := hide (HF4.out.on hal)
            clear HF4
            have HF4 := HF4'
            clear HF4'
            have HL' := hide (RdN.of_under HL.out (.cells #[.slice none 0 0] 24))
            clear HL
            have HL := HL'
            clear HL'
            have HG := HGN
            clear hal hb' hOld HGN
            generalize w'.alloc (.cells #[.slice none 0 0] 24) = z3 at *
            generalize w'.heap.size = g3 at *
            (try simp only [Act.put, List.setIfInBounds_toArray, List.set_cons_zero, List.set_cons_succ])
            refine wpPT_alt (by kernel_rfl) (fun K hK => ?_) ?_
            rotate_left
            · exact wpPT_stop
            have hOld := hide hHeld
            clear hHeld
            go_simp
            go_at_call 21
            refine (Prune_any _ HN.out HF4.out aw_many aw_data (by omega)).mono ?_
            rintro e w' ⟨A7, n7, c7, rfl, hc7, hl7, hbel⟩
            have hb' := hbel.mono (B' := w4.heap.size) hOld.out.1.size
            rw [aw_prune] at hl7
            obtain rfl : n7 = 3 := hl7.1.symm
            have HP := hide (RdN.of_fresh hl7 HG.out.lt)
            have HN' := hide (HN.out.on hbel)
            clear HN
            have HN := HN'
            clear HN'
            have HF1' := hide (HF1.out.on hbel)
            clear HF1
            have HF1 := HF1'
            clear HF1'
            have HF4' := hide (HF4.out.on hbel)
            clear HF4
            have HF4 := HF4'
            clear HF4'
            have HL' := hide (HL.out.on hbel)
            clear HL
            have HL := HL'
            clear HL'
            have HG' := hide (HG.out.on hbel)
            clear HG
            have HG := HG'
            clear HG'
            clear hl7 hbel
            refine hK.out _ _ (⟨hOld.out.1.trans hb', (hb'.cell (p := ⟨hB, 0, none⟩) HBL.out).trans hOld.out.2⟩) (fun hHeld => ?_)
            clear hK K
            (try simp only [Act.put, List.setIfInBounds_toArray, List.set_cons_zero, List.set_cons_succ])
            refine wpPT_take (v := ?_) (by kernel_rfl) (fun wS hSw => ?_) ?_
            rotate_left
            · (try dsimp only at hSw); go_simp; (try with_reducible rfl)
            (try simp only [Act.put, List.setIfInBounds_toArray, List.set_cons_zero, List.set_cons_succ])
            refine wpPT_alt (by kernel_rfl) (fun K hK => ?_) ?_
            rotate_left
            · exact wpPT_stop
            have hOld := hide hHeld
            clear hHeld
            refine wp_storeC 24 (.tmp 3) (.tmp 19) rfl 1 lay_size g3 0 24 rfl [.slice none 0 0] [.slice A7 3 c7] rfl HG.out rfl (by simp) (by simp [Value.oneCell']) ?_
            intro w9 hr9 hg9 hs9
            refine hK.out _ _ (⟨hOld.out.1.grown hg9 hOld.out.1.size (fun k hk => by have := Option.some.inj hk; omega), (cell_same (hg9.block hB (by have := HBL.out; have := hOld.out.1.size; omega) (fun e => by have := Option.some.inj e; have := HBL.out; omega))).trans hOld.out.2⟩) (fun hHeld => ?_)
            clear hK K
            have HL9 := hide (RdN.grown HL.out hg9)
            have HP9 := hide (RdN.grown HP.out hg9)
            have HG9 := hide hr9
            clear hg9 hs9 hr9
            simp only [Act.put]
            refine wpPT_leaf ?_
            have HB9 := hide hHeld.1
            clear hHeld hOld
            go_wp2_with fail
            go_meet
            case rel => exact ⟨A5, c5, A7, c7, g3, rfl, rfl, HL9.out, hc5, HG9.out, HP9.out, HB9.out⟩
          exact wpPT_stop
        refine wpPT_alt (by kernel_rfl) (fun K hK => ?_) ?_
        · skip
          have hOld := hide hHeld
          clear hHeld
          unfold Oper.wp execOp
          go_simp
          have hal := below_new (below_self z1) (.cells #[.slice none 0 0] 24)
          have hb' := hal.mono (B' := w4.heap.size) hOld.out.1.size
          have HGN := hide (RowL.new z1 24 [.slice none 0 0])
          have hg3 : w4.heap.size ≤ z1.heap.size := hOld.out.1.size
          refine hK.out _ _ (⟨hOld.out.1.trans hb', (hb'.cell (p := ⟨hB, 0, none⟩) HBL.out).trans hOld.out.2⟩) (fun hHeld => ?_)
          clear hK K
          have HN' := hide (HN.out.on hal)
          clear HN
          have HN := HN'
          clear HN'
          have HF1' := hide (HF1.out.on hal)
          clear HF1
          have HF1 := HF1'
          clear HF1'
          have HF4' := hide (HF4.out.on hal)
          clear HF4
          have HF4 := HF4'
          clear HF4'
          have HG := HGN
          clear hal hb' hOld HGN
          generalize z1.alloc (.cells #[.slice none 0 0] 24) = z2 at *
          generalize z1.heap.size = g3 at *
          (try simp only [Act.put, List.setIfInBounds_toArray, List.set_cons_zero, List.set_cons_succ])
          refine wpPT_alt (by kernel_rfl) (fun K hK => ?_) ?_
          rotate_left
          · exact wpPT_stop
          have hOld := hide hHeld
          clear hHeld
          go_simp
          go_at_call 9
          refine (Dirs_any _ HN.out HF1.out aw_many (by omega)).mono ?_
          rintro e w' ⟨A5, n5, c5, rfl, hc5, hl5, hbel⟩
          have hb' := hbel.mono (B' := w4.heap.size) hOld.out.1.size
          rw [aw_dirs] at hl5
          obtain rfl : n5 = 2 := hl5.1.symm
          have HL := hide (RdN.of_fresh hl5 HG.out.lt)
          have HN' := hide (HN.out.on hbel)
          clear HN
          have HN := HN'
          clear HN'
          have HF1' := hide (HF1.out.on hbel)
          clear HF1
          have HF1 := HF1'
          clear HF1'
          have HF4' := hide (HF4.out.on hbel)
          clear HF4
          have HF4 := HF4'
          clear HF4'
          have HG' := hide (HG.out.on hbel)
          clear HG
          have HG := HG'
          clear HG'
          clear hl5 hbel
          refine hK.out _ _ (⟨hOld.out.1.trans hb', (hb'.cell (p := ⟨hB, 0, none⟩) HBL.out).trans hOld.out.2⟩) (fun hHeld => ?_)
          clear hK K
          (try simp only [Act.put, List.setIfInBounds_toArray, List.set_cons_zero, List.set_cons_succ])
          refine wpPT_alt (by kernel_rfl) (fun K hK => ?_) ?_
          rotate_left
          · exact wpPT_stop
          have hOld := hide hHeld
          clear hHeld
          go_simp
          go_at_call 21
          refine (Prune_any _ HN.out HF4.out aw_many aw_data (by omega)).mono ?_
          rintro e w' ⟨A7, n7, c7, rfl, hc7, hl7, hbel⟩
          have hb' := hbel.mono (B' := w4.heap.size) hOld.out.1.size
          rw [aw_prune] at hl7
          obtain rfl : n7 = 3 := hl7.1.symm
          have HP := hide (RdN.of_fresh hl7 HG.out.lt)
          have HN' := hide (HN.out.on hbel)
          clear HN
          have HN := HN'
          clear HN'
          have HF1' := hide (HF1.out.on hbel)
          clear HF1
          have HF1 := HF1'
          clear HF1'
          have HF4' := hide (HF4.out.on hbel)
          clear HF4
          have HF4 := HF4'
          clear HF4'
          have HL' := hide (HL.out.on hbel)
          clear HL
          have HL := HL'
          clear HL'
          have HG' := hide (HG.out.on hbel)
          clear HG
          have HG := HG'
          clear HG'
          clear hl7 hbel
          refine hK.out _ _ (⟨hOld.out.1.trans hb', (hb'.cell (p := ⟨hB, 0, none⟩) HBL.out).trans hOld.out.2⟩) (fun hHeld => ?_)
          clear hK K
          (try simp only [Act.put, List.setIfInBounds_toArray, List.set_cons_zero, List.set_cons_succ])
          refine wpPT_take (v := ?_) (by kernel_rfl) (fun wS hSw => ?_) ?_
          rotate_left
          · (try dsimp only at hSw); go_simp; (try with_reducible rfl)
          (try simp only [Act.put, List.setIfInBounds_toArray, List.set_cons_zero, List.set_cons_succ])
          refine wpPT_alt (by kernel_rfl) (fun K hK => ?_) ?_
          rotate_left
          · exact wpPT_stop
          have hOld := hide hHeld
          clear hHeld
          refine wp_storeC 24 (.tmp 3) (.tmp 19) rfl 1 lay_size g3 0 24 rfl [.slice none 0 0] [.slice A7 3 c7] rfl HG.out rfl (by simp) (by simp [Value.oneCell']) ?_
          intro w9 hr9 hg9 hs9
          refine hK.out _ _ (⟨hOld.out.1.grown hg9 hOld.out.1.size (fun k hk => by have := Option.some.inj hk; omega), (cell_same (hg9.block hB (by have := HBL.out; have := hOld.out.1.size; omega) (fun e => by have := Option.some.inj e; have := HBL.out; omega))).trans hOld.out.2⟩) (fun hHeld => ?_)
          clear hK K
          have HL9 := hide (RdN.grown HL.out hg9)
          have HP9 := hide (RdN.grown HP.out hg9)
          have HG9 := hide hr9
          clear hg9 hs9 hr9
          simp only [Act.put]
          refine wpPT_leaf ?_
          have HB9 := hide hHeld.1
          clear hHeld hOld
          go_wp2_with fail
          go_meet
          case rel => exact ⟨A5, c5, A7, c7, g3, rfl, rfl, HL9.out, hc5, HG9.out, HP9.out, HB9.out⟩
        exact wpPT_stop
      refine wpPT_alt (by kernel_rfl) (fun K hK => ?_) ?_
      · skip
        have hOld := hide hHeld
        clear hHeld
        unfold Oper.wp execOp
        go_simp
        have hal := below_new (below_self z0) (.cells #[.slice none 0 0] 24)
        have hb' := hal.mono (B' := w4.heap.size) hOld.out.1.size
        have HGN := hide (RowL.new z0 24 [.slice none 0 0])
        have hg3 : w4.heap.size ≤ z0.heap.size := hOld.out.1.size
        refine hK.out _ _ (⟨hOld.out.1.trans hb', (hb'.cell (p := ⟨hB, 0, none⟩) HBL.out).trans hOld.out.2⟩) (fun hHeld => ?_)
        clear hK K
        have HN' := hide (HN.out.on hal)
        clear HN
        have HN := HN'
        clear HN'
        have HF1' := hide (HF1.out.on hal)
        clear HF1
        have HF1 := HF1'
        clear HF1'
        have HG := HGN
        clear hal hb' hOld HGN
        generalize z0.alloc (.cells #[.slice none 0 0] 24) = z1 at *
        generalize z0.heap.size = g3 at *
        (try simp only [Act.put, List.setIfInBounds_toArray, List.set_cons_zero, List.set_cons_succ])
        refine wpPT_alt (by kernel_rfl) (fun K hK => ?_) ?_
        · skip
          have hOld := hide hHeld
          clear hHeld
          go_simp
          go_at_call 9
          refine (Dirs_any _ HN.out HF1.out aw_many (by omega)).mono ?_
          rintro e w' ⟨A5, n5, c5, rfl, hc5, hl5, hbel⟩
          have hb' := hbel.mono (B' := w4.heap.size) hOld.out.1.size
          rw [aw_dirs] at hl5
          obtain rfl : n5 = 2 := hl5.1.symm
          have HL := hide (RdN.of_fresh hl5 HG.out.lt)
          have HN' := hide (HN.out.on hbel)
          clear HN
          have HN := HN'
          clear HN'
          have HF1' := hide (HF1.out.on hbel)
          clear HF1
          have HF1 := HF1'
          clear HF1'
          have HG' := hide (HG.out.on hbel)
          clear HG
          have HG := HG'
          clear HG'
          clear hl5 hbel
          refine hK.out _ _ (⟨hOld.out.1.trans hb', (hb'.cell (p := ⟨hB, 0, none⟩) HBL.out).trans hOld.out.2⟩) (fun hHeld => ?_)
          clear hK K
          (try simp only [Act.put, List.setIfInBounds_toArray, List.set_cons_zero, List.set_cons_succ])
          refine wpPT_alt (by kernel_rfl) (fun K hK => ?_) ?_
          rotate_left
          · exact wpPT_stop
          have hOld := hide hHeld
          clear hHeld
          unfold Oper.wp execOp
          go_simp
          have hal := below_new (below_self w') (.cells #[.int .i64 1] 3)
          have hb' := hal.mono (B' := w4.heap.size) hOld.out.1.size
          have HFN := hide (int_one w')
          refine hK.out _ _ (⟨hOld.out.1.trans hb', (hb'.cell (p := ⟨hB, 0, none⟩) HBL.out).trans hOld.out.2⟩) (fun hHeld => ?_)
          clear hK K
          have HN' := hide (HN.out.on hal)
          clear HN
          have HN := HN'
          clear HN'
          have HF1' := hide (HF1.out.on hal)
          clear HF1
          have HF1 := HF1'
          clear HF1'
          have HL' := hide (HL.out.on hal)
          clear HL
          have HL := HL'
          clear HL'
          have HG' := hide (HG.out.on hal)
          clear HG
          have HG := HG'
          clear HG'
          have HF4 := HFN
          clear hal hb' hOld HFN
          generalize w'.alloc (.cells #[.int .i64 1] 3) = z3 at *
          (try simp only [Act.put, List.setIfInBounds_toArray, List.set_cons_zero, List.set_cons_succ])
          refine wpPT_alt (by kernel_rfl) (fun K hK => ?_) ?_
          rotate_left
          · exact wpPT_stop
          have hOld := hide hHeld
          clear hHeld
          go_simp
          go_at_call 21
          refine (Prune_any _ HN.out HF4.out aw_many aw_data (by omega)).mono ?_
          rintro e w' ⟨A7, n7, c7, rfl, hc7, hl7, hbel⟩
          have hb' := hbel.mono (B' := w4.heap.size) hOld.out.1.size
          rw [aw_prune] at hl7
          obtain rfl : n7 = 3 := hl7.1.symm
          have HP := hide (RdN.of_fresh hl7 HG.out.lt)
          have HN' := hide (HN.out.on hbel)
          clear HN
          have HN := HN'
          clear HN'
          have HF1' := hide (HF1.out.on hbel)
          clear HF1
          have HF1 := HF1'
          clear HF1'
          have HF4' := hide (HF4.out.on hbel)
          clear HF4
          have HF4 := HF4'
          clear HF4'
          have HL' := hide (HL.out.on hbel)
          clear HL
          have HL := HL'
          clear HL'
          have HG' := hide (HG.out.on hbel)
          clear HG
          have HG := HG'
          clear HG'
          clear hl7 hbel
          refine hK.out _ _ (⟨hOld.out.1.trans hb', (hb'.cell (p := ⟨hB, 0, none⟩) HBL.out).trans hOld.out.2⟩) (fun hHeld => ?_)
          clear hK K
          (try simp only [Act.put, List.setIfInBounds_toArray, List.set_cons_zero, List.set_cons_succ])
          refine wpPT_take (v := ?_) (by kernel_rfl) (fun wS hSw => ?_) ?_
          rotate_left
          · (try dsimp only at hSw); go_simp; (try with_reducible rfl)
          (try simp only [Act.put, List.setIfInBounds_toArray, List.set_cons_zero, List.set_cons_succ])
          refine wpPT_alt (by kernel_rfl) (fun K hK => ?_) ?_
          rotate_left
          · exact wpPT_stop
          have hOld := hide hHeld
          clear hHeld
          refine wp_storeC 24 (.tmp 3) (.tmp 19) rfl 1 lay_size g3 0 24 rfl [.slice none 0 0] [.slice A7 3 c7] rfl HG.out rfl (by simp) (by simp [Value.oneCell']) ?_
          intro w9 hr9 hg9 hs9
          refine hK.out _ _ (⟨hOld.out.1.grown hg9 hOld.out.1.size (fun k hk => by have := Option.some.inj hk; omega), (cell_same (hg9.block hB (by have := HBL.out; have := hOld.out.1.size; omega) (fun e => by have := Option.some.inj e; have := HBL.out; omega))).trans hOld.out.2⟩) (fun hHeld => ?_)
          clear hK K
          have HL9 := hide (RdN.grown HL.out hg9)
          have HP9 := hide (RdN.grown HP.out hg9)
          have HG9 := hide hr9
          clear hg9 hs9 hr9
          simp only [Act.put]
          refine wpPT_leaf ?_
          have HB9 := hide hHeld.1
          clear hHeld hOld
          go_wp2_with fail
          go_meet
          case rel => exact ⟨A5, c5, A7, c7, g3, rfl, rfl, HL9.out, hc5, HG9.out, HP9.out, HB9.out⟩
        refine wpPT_alt (by kernel_rfl) (fun K hK => ?_) ?_
        · skip
          have hOld := hide hHeld
          clear hHeld
          unfold Oper.wp execOp
          go_simp
          have hal := below_new (below_self z1) (.cells #[.int .i64 1] 3)
          have hb' := hal.mono (B' := w4.heap.size) hOld.out.1.size
          have HFN := hide (int_one z1)
          refine hK.out _ _ (⟨hOld.out.1.trans hb', (hb'.cell (p := ⟨hB, 0, none⟩) HBL.out).trans hOld.out.2⟩) (fun hHeld => ?_)
          clear hK K
          have HN' := hide (HN.out.on hal)
          clear HN
          have HN := HN'
          clear HN'
          have HF1' := hide (HF1.out.on hal)
          clear HF1
          have HF1 := HF1'
          clear HF1'
          have HG' := hide (HG.out.on hal)
          clear HG
          have HG := HG'
          clear HG'
          have HF4 := HFN
          clear hal hb' hOld HFN
          generalize z1.alloc (.cells #[.int .i64 1] 3) = z2 at *
          (try simp only [Act.put, List.setIfInBounds_toArray, List.set_cons_zero, List.set_cons_succ])
          refine wpPT_alt (by kernel_rfl) (fun K hK => ?_) ?_
          rotate_left
          · exact wpPT_stop
          have hOld := hide hHeld
          clear hHeld
          go_simp
          go_at_call 9
          refine (Dirs_any _ HN.out HF1.out aw_many (by omega)).mono ?_
          rintro e w' ⟨A5, n5, c5, rfl, hc5, hl5, hbel⟩
          have hb' := hbel.mono (B' := w4.heap.size) hOld.out.1.size
          rw [aw_dirs] at hl5
          obtain rfl : n5 = 2 := hl5.1.symm
          have HL := hide (RdN.of_fresh hl5 HG.out.lt)
          have HN' := hide (HN.out.on hbel)
          clear HN
          have HN := HN'
          clear HN'
          have HF1' := hide (HF1.out.on hbel)
          clear HF1
          have HF1 := HF1'
          clear HF1'
          have HF4' := hide (HF4.out.on hbel)
          clear HF4
          have HF4 := HF4'
          clear HF4'
          have HG' := hide (HG.out.on hbel)
          clear HG
          have HG := HG'
          clear HG'
          clear hl5 hbel
          refine hK.out _ _ (⟨hOld.out.1.trans hb', (hb'.cell (p := ⟨hB, 0, none⟩) HBL.out).trans hOld.out.2⟩) (fun hHeld => ?_)
          clear hK K
          (try simp only [Act.put, List.setIfInBounds_toArray, List.set_cons_zero, List.set_cons_succ])
          refine wpPT_alt (by kernel_rfl) (fun K hK => ?_) ?_
          rotate_left
          · exact wpPT_stop
          have hOld := hide hHeld
          clear hHeld
          go_simp
          go_at_call 21
          refine (Prune_any _ HN.out HF4.out aw_many aw_data (by omega)).mono ?_
          rintro e w' ⟨A7, n7, c7, rfl, hc7, hl7, hbel⟩
          have hb' := hbel.mono (B' := w4.heap.size) hOld.out.1.size
          rw [aw_prune] at hl7
          obtain rfl : n7 = 3 := hl7.1.symm
          have HP := hide (RdN.of_fresh hl7 HG.out.lt)
          have HN' := hide (HN.out.on hbel)
          clear HN
          have HN := HN'
          clear HN'
          have HF1' := hide (HF1.out.on hbel)
          clear HF1
          have HF1 := HF1'
          clear HF1'
          have HF4' := hide (HF4.out.on hbel)
          clear HF4
          have HF4 := HF4'
          clear HF4'
          have HL' := hide (HL.out.on hbel)
          clear HL
          have HL := HL'
          clear HL'
          have HG' := hide (HG.out.on hbel)
          clear HG
          have HG := HG'
          clear HG'
          clear hl7 hbel
          refine hK.out _ _ (⟨hOld.out.1.trans hb', (hb'.cell (p := ⟨hB, 0, none⟩) HBL.out).trans hOld.out.2⟩) (fun hHeld => ?_)
          clear hK K
          (try simp only [Act.put, List.setIfInBounds_toArray, List.set_cons_zero, List.set_cons_succ])
          refine wpPT_take (v := ?_) (by kernel_rfl) (fun wS hSw => ?_) ?_
          rotate_left
          · (try dsimp only at hSw); go_simp; (try with_reducible rfl)
          (try simp only [Act.put, List.setIfInBounds_toArray, List.set_cons_zero, List.set_cons_succ])
          refine wpPT_alt (by kernel_rfl) (fun K hK => ?_) ?_
          rotate_left
          · exact wpPT_stop
          have hOld := hide hHeld
          clear hHeld
          refine wp_storeC 24 (.tmp 3) (.tmp 19) rfl 1 lay_size g3 0 24 rfl [.slice none 0 0] [.slice A7 3 c7] rfl HG.out rfl (by simp) (by simp [Value.oneCell']) ?_
          intro w9 hr9 hg9 hs9
          refine hK.out _ _ (⟨hOld.out.1.grown hg9 hOld.out.1.size (fun k hk => by have := Option.some.inj hk; omega), (cell_same (hg9.block hB (by have := HBL.out; have := hOld.out.1.size; omega) (fun e => by have := Option.some.inj e; have := HBL.out; omega))).trans hOld.out.2⟩) (fun hHeld => ?_)
          clear hK K
          have HL9 := hide (RdN.grown HL.out hg9)
          have HP9 := hide (RdN.grown HP.out hg9)
          have HG9 := hide hr9
          clear hg9 hs9 hr9
          simp only [Act.put]
          refine wpPT_leaf ?_
          have HB9 := hide hHeld.1
          clear hHeld hOld
          go_wp2_with fail
          go_meet
          case rel => exact ⟨A5, c5, A7, c7, g3, rfl, rfl, HL9.out, hc5, HG9.out, HP9.out, HB9.out⟩
        exact wpPT_stop
      exact wpPT_stop
    refine wpPT_alt (by kernel_rfl) (fun K hK => ?_) ?_
    · skip
      have hOld := hide hHeld
      clear hHeld
      unfold Oper.wp execOp
      go_simp
      have hal := below_new (below_self wd) (.cells #[.int .i64 1] 3)
      have hb' := hal.mono (B' := w4.heap.size) hOld.out.1.size
      have HFN := hide (int_one wd)
      refine hK.out _ _ (⟨hOld.out.1.trans hb', (hb'.cell (p := ⟨hB, 0, none⟩) HBL.out).trans hOld.out.2⟩) (fun hHeld => ?_)
      clear hK K
      have HN' := hide (HN.out.on hal)
      clear HN
      have HN := HN'
      clear HN'
      have HF4 := HFN
      clear hal hb' hOld HFN
      generalize wd.alloc (.cells #[.int .i64 1] 3) = z0 at *
      (try simp only [Act.put, List.setIfInBounds_toArray, List.set_cons_zero, List.set_cons_succ])
      refine wpPT_alt (by kernel_rfl) (fun K hK => ?_) ?_
      · skip
        have hOld := hide hHeld
        clear hHeld
        unfold Oper.wp execOp
        go_simp
        have hal := below_new (below_self z0) (.cells #[.int .i64 1] 3)
        have hb' := hal.mono (B' := w4.heap.size) hOld.out.1.size
        have HFN := hide (int_one z0)
        refine hK.out _ _ (⟨hOld.out.1.trans hb', (hb'.cell (p := ⟨hB, 0, none⟩) HBL.out).trans hOld.out.2⟩) (fun hHeld => ?_)
        clear hK K
        have HN' := hide (HN.out.on hal)
        clear HN
        have HN := HN'
        clear HN'
        have HF4' := hide (HF4.out.on hal)
        clear HF4
        have HF4 := HF4'
        clear HF4'
        have HF1 := HFN
        clear hal hb' hOld HFN
        generalize z0.alloc (.cells #[.int .i64 1] 3) = z1 at *
        (try simp only [Act.put, List.setIfInBounds_toArray, List.set_cons_zero, List.set_cons_succ])
        refine wpPT_alt (by kernel_rfl) (fun K hK => ?_) ?_
        · skip
          have hOld := hide hHeld
          clear hHeld
          go_simp
          go_at_call 9
          refine (Dirs_any _ HN.out HF1.out aw_many (by omega)).mono ?_
          rintro e w' ⟨A5, n5, c5, rfl, hc5, hl5, hbel⟩
          have hb' := hbel.mono (B' := w4.heap.size) hOld.out.1.size
          rw [aw_dirs] at hl5
          obtain rfl : n5 = 2 := hl5.1.symm
          have HL := hide (hl5.mono (fun _ _ => rfl) (fun b hb => hb.2) : RdE wayEn w' (Under w'.heap.size) _ _ _)
          have HN' := hide (HN.out.on hbel)
          clear HN
          have HN := HN'
          clear HN'
          have HF1' := hide (HF1.out.on hbel)
          clear HF1
          have HF1 := HF1'
          clear HF1'
          have HF4' := hide (HF4.out.on hbel)
          clear HF4
          have HF4 := HF4'
          clear HF4'
          clear hl5 hbel
          refine hK.out _ _ (⟨hOld.out.1.trans hb', (hb'.cell (p := ⟨hB, 0, none⟩) HBL.out).trans hOld.out.2⟩) (fun hHeld => ?_)
          clear hK K
          (try simp only [Act.put, List.setIfInBounds_toArray, List.set_cons_zero, List.set_cons_succ])
          refine wpPT_alt (by kernel_rfl) (fun K hK => ?_) ?_
          · skip
            have hOld := hide hHeld
            clear hHeld
            go_simp
            go_at_call 21
            refine (Prune_any _ HN.out HF4.out aw_many aw_data (by omega)).mono ?_
            rintro e w' ⟨A7, n7, c7, rfl, hc7, hl7, hbel⟩
            have hb' := hbel.mono (B' := w4.heap.size) hOld.out.1.size
            rw [aw_prune] at hl7
            obtain rfl : n7 = 3 := hl7.1.symm
            have HP := hide (hl7.mono (fun _ _ => rfl) (fun b hb => hb.2) : RdE nodEn w' (Under w'.heap.size) _ _ _)
            have HN' := hide (HN.out.on hbel)
            clear HN
            have HN := HN'
            clear HN'
            have HF1' := hide (HF1.out.on hbel)
            clear HF1
            have HF1 := HF1'
            clear HF1'
            have HF4' := hide (HF4.out.on hbel)
            clear HF4
            have HF4 := HF4'
            clear HF4'
            have HL' := hide (HL.out.on hbel)
            clear HL
            have HL := HL'
            clear HL'
            clear hl7 hbel
            refine hK.out _ _ (⟨hOld.out.1.trans hb', (hb'.cell (p := ⟨hB, 0, none⟩) HBL.out).trans hOld.out.2⟩) (fun hHeld => ?_)
            clear hK K
            (try simp only [Act.put, List.setIfInBounds_toArray, List.set_cons_zero, List.set_cons_succ])
            refine wpPT_alt (by kernel_rfl) (fun K hK => ?_) ?_
            rotate_left
            · exact wpPT_stop
            have hOld := hide hHeld
            clear hHeld
            unfold Oper.wp execOp
            go_simp
            have hal := below_new (below_self w') (.cells #[.slice none 0 0] 24)
            have hb' := hal.mono (B' := w4.heap.size) hOld.out.1.size
            have HGN := hide (RowL.new w' 24 [.slice none 0 0])
            have hg3 : w4.heap.size ≤ w'.heap.size := hOld.out.1.size
            refine hK.out _ _ (⟨hOld.out.1.trans hb', (hb'.cell (p := ⟨hB, 0, none⟩) HBL.out).trans hOld.out.2⟩) (fun hHeld => ?_)
            clear hK K
            have HN' := hide (HN.out.on hal)
            clear HN
            have HN := HN'
            clear HN'
            have HF1' := hide (HF1.out.on hal)
            clear HF1
            have HF1 := HF1'
            clear HF1'
            have HF4' := hide (HF4.out.on hal)
            clear HF4
            have HF4 := HF4'
            clear HF4'
            have HL' := hide (RdN.of_under HL.out (.cells #[.slice none 0 0] 24))
            clear HL
            have HL := HL'
            clear HL'
            have HP' := hide (RdN.of_under HP.out (.cells #[.slice none 0 0] 24))
            clear HP
            have HP := HP'
            clear HP'
            have HG := HGN
            clear hal hb' hOld HGN
            generalize w'.alloc (.cells #[.slice none 0 0] 24) = z4 at *
            generalize w'.heap.size = g3 at *
            (try simp only [Act.put, List.setIfInBounds_toArray, List.set_cons_zero, List.set_cons_succ])
            refine wpPT_take (v := ?_) (by kernel_rfl) (fun wS hSw => ?_) ?_
            rotate_left
            · (try dsimp only at hSw); go_simp; (try with_reducible rfl)
            (try simp only [Act.put, List.setIfInBounds_toArray, List.set_cons_zero, List.set_cons_succ])
            refine wpPT_alt (by kernel_rfl) (fun K hK => ?_) ?_
            rotate_left
            · exact wpPT_stop
            have hOld := hide hHeld
            clear hHeld
            refine wp_storeC 24 (.tmp 3) (.tmp 19) rfl 1 lay_size g3 0 24 rfl [.slice none 0 0] [.slice A7 3 c7] rfl HG.out rfl (by simp) (by simp [Value.oneCell']) ?_
            intro w9 hr9 hg9 hs9
            refine hK.out _ _ (⟨hOld.out.1.grown hg9 hOld.out.1.size (fun k hk => by have := Option.some.inj hk; omega), (cell_same (hg9.block hB (by have := HBL.out; have := hOld.out.1.size; omega) (fun e => by have := Option.some.inj e; have := HBL.out; omega))).trans hOld.out.2⟩) (fun hHeld => ?_)
            clear hK K
            have HL9 := hide (RdN.grown HL.out hg9)
            have HP9 := hide (RdN.grown HP.out hg9)
            have HG9 := hide hr9
            clear hg9 hs9 hr9
            simp only [Act.put]
            refine wpPT_leaf ?_
            have HB9 := hide hHeld.1
            clear hHeld hOld
            go_wp2_with fail
            go_meet
            case rel => exact ⟨A5, c5, A7, c7, g3, rfl, rfl, HL9.out, hc5, HG9.out, HP9.out, HB9.out⟩
          refine wpPT_alt (by kernel_rfl) (fun K hK => ?_) ?_
          · skip
            have hOld := hide hHeld
            clear hHeld
            unfold Oper.wp execOp
            go_simp
            have hal := below_new (below_self w') (.cells #[.slice none 0 0] 24)
            have hb' := hal.mono (B' := w4.heap.size) hOld.out.1.size
            have HGN := hide (RowL.new w' 24 [.slice none 0 0])
            have hg3 : w4.heap.size ≤ w'.heap.size := hOld.out.1.size
            refine hK.out _ _ (⟨hOld.out.1.trans hb', (hb'.cell (p := ⟨hB, 0, none⟩) HBL.out).trans hOld.out.2⟩) (fun hHeld => ?_)
            clear hK K
            have HN' := hide (HN.out.on hal)
            clear HN
            have HN := HN'
            clear HN'
            have HF1' := hide (HF1.out.on hal)
            clear HF1
            have HF1 := HF1'
            clear HF1'
            have HF4' := hide (HF4.out.on hal)
            clear HF4
            have HF4 := HF4'
            clear HF4'
            have HL' := hide (RdN.of_under HL.out (.cells #[.slice none 0 0] 24))
            clear HL
            have HL := HL'
            clear HL'
            have HG := HGN
            clear hal hb' hOld HGN
            generalize w'.alloc (.cells #[.slice none 0 0] 24) = z3 at *
            generalize w'.heap.size = g3 at *
            (try simp only [Act.put, List.setIfInBounds_toArray, List.set_cons_zero, List.set_cons_succ])
            refine wpPT_alt (by kernel_rfl) (fun K hK => ?_) ?_
            rotate_left
            · exact wpPT_stop
            have hOld := hide hHeld
            clear hHeld
            go_simp
            go_at_call 21
            refine (Prune_any _ HN.out HF4.out aw_many aw_data (by omega)).mono ?_
            rintro e w' ⟨A7, n7, c7, rfl, hc7, hl7, hbel⟩
            have hb' := hbel.mono (B' := w4.heap.size) hOld.out.1.size
            rw [aw_prune] at hl7
            obtain rfl : n7 = 3 := hl7.1.symm
            have HP := hide (RdN.of_fresh hl7 HG.out.lt)
            have HN' := hide (HN.out.on hbel)
            clear HN
            have HN := HN'
            clear HN'
            have HF1' := hide (HF1.out.on hbel)
            clear HF1
            have HF1 := HF1'
            clear HF1'
            have HF4' := hide (HF4.out.on hbel)
            clear HF4
            have HF4 := HF4'
            clear HF4'
            have HL' := hide (HL.out.on hbel)
            clear HL
            have HL := HL'
            clear HL'
            have HG' := hide (HG.out.on hbel)
            clear HG
            have HG := HG'
            clear HG'
            clear hl7 hbel
            refine hK.out _ _ (⟨hOld.out.1.trans hb', (hb'.cell (p := ⟨hB, 0, none⟩) HBL.out).trans hOld.out.2⟩) (fun hHeld => ?_)
            clear hK K
            (try simp only [Act.put, List.setIfInBounds_toArray, List.set_cons_zero, List.set_cons_succ])
            refine wpPT_take (v := ?_) (by kernel_rfl) (fun wS hSw => ?_) ?_
            rotate_left
            · (try dsimp only at hSw); go_simp; (try with_reducible rfl)
            (try simp only [Act.put, List.setIfInBounds_toArray, List.set_cons_zero, List.set_cons_succ])
            refine wpPT_alt (by kernel_rfl) (fun K hK => ?_) ?_
            rotate_left
            · exact wpPT_stop
            have hOld := hide hHeld
            clear hHeld
            refine wp_storeC 24 (.tmp 3) (.tmp 19) rfl 1 lay_size g3 0 24 rfl [.slice none 0 0] [.slice A7 3 c7] rfl HG.out rfl (by simp) (by simp [Value.oneCell']) ?_
            intro w9 hr9 hg9 hs9
            refine hK.out _ _ (⟨hOld.out.1.grown hg9 hOld.out.1.size (fun k hk => by have := Option.some.inj hk; omega), (cell_same (hg9.block hB (by have := HBL.out; have := hOld.out.1.size; omega) (fun e => by have := Option.some.inj e; have := HBL.out; omega))).trans hOld.out.2⟩) (fun hHeld => ?_)
            clear hK K
            have HL9 := hide (RdN.grown HL.out hg9)
            have HP9 := hide (RdN.grown HP.out hg9)
            have HG9 := hide hr9
            clear hg9 hs9 hr9
            simp only [Act.put]
            refine wpPT_leaf ?_
            have HB9 := hide hHeld.1
            clear hHeld hOld
            go_wp2_with fail
            go_meet
            case rel => exact ⟨A5, c5, A7, c7, g3, rfl, rfl, HL9.out, hc5, HG9.out, HP9.out, HB9.out⟩
          exact wpPT_stop
        refine wpPT_alt (by kernel_rfl) (fun K hK => ?_) ?_
        · skip
          have hOld := hide hHeld
          clear hHeld
          unfold Oper.wp execOp
          go_simp
          have hal := below_new (below_self z1) (.cells #[.slice none 0 0] 24)
          have hb' := hal.mono (B' := w4.heap.size) hOld.out.1.size
          have HGN := hide (RowL.new z1 24 [.slice none 0 0])
          have hg3 : w4.heap.size ≤ z1.heap.size := hOld.out.1.size
          refine hK.out _ _ (⟨hOld.out.1.trans hb', (hb'.cell (p := ⟨hB, 0, none⟩) HBL.out).trans hOld.out.2⟩) (fun hHeld => ?_)
          clear hK K
          have HN' := hide (HN.out.on hal)
          clear HN
          have HN := HN'
          clear HN'
          have HF1' := hide (HF1.out.on hal)
          clear HF1
          have HF1 := HF1'
          clear HF1'
          have HF4' := hide (HF4.out.on hal)
          clear HF4
          have HF4 := HF4'
          clear HF4'
          have HG := HGN
          clear hal hb' hOld HGN
          generalize z1.alloc (.cells #[.slice none 0 0] 24) = z2 at *
          generalize z1.heap.size = g3 at *
          (try simp only [Act.put, List.setIfInBounds_toArray, List.set_cons_zero, List.set_cons_succ])
          refine wpPT_alt (by kernel_rfl) (fun K hK => ?_) ?_
          rotate_left
          · exact wpPT_stop
          have hOld := hide hHeld
          clear hHeld
          go_simp
          go_at_call 9
          refine (Dirs_any _ HN.out HF1.out aw_many (by omega)).mono ?_
          rintro e w' ⟨A5, n5, c5, rfl, hc5, hl5, hbel⟩
          have hb' := hbel.mono (B' := w4.heap.size) hOld.out.1.size
          rw [aw_dirs] at hl5
          obtain rfl : n5 = 2 := hl5.1.symm
          have HL := hide (RdN.of_fresh hl5 HG.out.lt)
          have HN' := hide (HN.out.on hbel)
          clear HN
          have HN := HN'
          clear HN'
          have HF1' := hide (HF1.out.on hbel)
          clear HF1
          have HF1 := HF1'
          clear HF1'
          have HF4' := hide (HF4.out.on hbel)
          clear HF4
          have HF4 := HF4'
          clear HF4'
          have HG' := hide (HG.out.on hbel)
          clear HG
          have HG := HG'
          clear HG'
          clear hl5 hbel
          refine hK.out _ _ (⟨hOld.out.1.trans hb', (hb'.cell (p := ⟨hB, 0, none⟩) HBL.out).trans hOld.out.2⟩) (fun hHeld => ?_)
          clear hK K
          (try simp only [Act.put, List.setIfInBounds_toArray, List.set_cons_zero, List.set_cons_succ])
          refine wpPT_alt (by kernel_rfl) (fun K hK => ?_) ?_
          rotate_left
          · exact wpPT_stop
          have hOld := hide hHeld
          clear hHeld
          go_simp
          go_at_call 21
          refine (Prune_any _ HN.out HF4.out aw_many aw_data (by omega)).mono ?_
          rintro e w' ⟨A7, n7, c7, rfl, hc7, hl7, hbel⟩
          have hb' := hbel.mono (B' := w4.heap.size) hOld.out.1.size
          rw [aw_prune] at hl7
          obtain rfl : n7 = 3 := hl7.1.symm
          have HP := hide (RdN.of_fresh hl7 HG.out.lt)
          have HN' := hide (HN.out.on hbel)
          clear HN
          have HN := HN'
          clear HN'
          have HF1' := hide (HF1.out.on hbel)
          clear HF1
          have HF1 := HF1'
          clear HF1'
          have HF4' := hide (HF4.out.on hbel)
          clear HF4
          have HF4 := HF4'
          clear HF4'
          have HL' := hide (HL.out.on hbel)
          clear HL
          have HL := HL'
          clear HL'
          have HG' := hide (HG.out.on hbel)
          clear HG
          have HG := HG'
          clear HG'
          clear hl7 hbel
          refine hK.out _ _ (⟨hOld.out.1.trans hb', (hb'.cell (p := ⟨hB, 0, none⟩) HBL.out).trans hOld.out.2⟩) (fun hHeld => ?_)
          clear hK K
          (try simp only [Act.put, List.setIfInBounds_toArray, List.set_cons_zero, List.set_cons_succ])
          refine wpPT_take (v := ?_) (by kernel_rfl) (fun wS hSw => ?_) ?_
          rotate_left
          · (try dsimp only at hSw); go_simp; (try with_reducible rfl)
          (try simp only [Act.put, List.setIfInBounds_toArray, List.set_cons_zero, List.set_cons_succ])
          refine wpPT_alt (by kernel_rfl) (fun K hK => ?_) ?_
          rotate_left
          · exact wpPT_stop
          have hOld := hide hHeld
          clear hHeld
          refine wp_storeC 24 (.tmp 3) (.tmp 19) rfl 1 lay_size g3 0 24 rfl [.slice none 0 0] [.slice A7 3 c7] rfl HG.out rfl (by simp) (by simp [Value.oneCell']) ?_
          intro w9 hr9 hg9 hs9
          refine hK.out _ _ (⟨hOld.out.1.grown hg9 hOld.out.1.size (fun k hk => by have := Option.some.inj hk; omega), (cell_same (hg9.block hB (by have := HBL.out; have := hOld.out.1.size; omega) (fun e => by have := Option.some.inj e; have := HBL.out; omega))).trans hOld.out.2⟩) (fun hHeld => ?_)
          clear hK K
          have HL9 := hide (RdN.grown HL.out hg9)
          have HP9 := hide (RdN.grown HP.out hg9)
          have HG9 := hide hr9
          clear hg9 hs9 hr9
          simp only [Act.put]
          refine wpPT_leaf ?_
          have HB9 := hide hHeld.1
          clear hHeld hOld
          go_wp2_with fail
          go_meet
          case rel => exact ⟨A5, c5, A7, c7, g3, rfl, rfl, HL9.out, hc5, HG9.out, HP9.out, HB9.out⟩
        exact wpPT_stop
      refine wpPT_alt (by kernel_rfl) (fun K hK => ?_) ?_
      · skip
        have hOld := hide hHeld
        clear hHeld
        unfold Oper.wp execOp
        go_simp
        have hal := below_new (below_self z0) (.cells #[.slice none 0 0] 24)
        have hb' := hal.mono (B' := w4.heap.size) hOld.out.1.size
        have HGN := hide (RowL.new z0 24 [.slice none 0 0])
        have hg3 : w4.heap.size ≤ z0.heap.size := hOld.out.1.size
        refine hK.out _ _ (⟨hOld.out.1.trans hb', (hb'.cell (p := ⟨hB, 0, none⟩) HBL.out).trans hOld.out.2⟩) (fun hHeld => ?_)
        clear hK K
        have HN' := hide (HN.out.on hal)
        clear HN
        have HN := HN'
        clear HN'
        have HF4' := hide (HF4.out.on hal)
        clear HF4
        have HF4 := HF4'
        clear HF4'
        have HG := HGN
        clear hal hb' hOld HGN
        generalize z0.alloc (.cells #[.slice none 0 0] 24) = z1 at *
        generalize z0.heap.size = g3 at *
        (try simp only [Act.put, List.setIfInBounds_toArray, List.set_cons_zero, List.set_cons_succ])
        refine wpPT_alt (by kernel_rfl) (fun K hK => ?_) ?_
        rotate_left
        · exact wpPT_stop
        have hOld := hide hHeld
        clear hHeld
        unfold Oper.wp execOp
        go_simp
        have hal := below_new (below_self z1) (.cells #[.int .i64 1] 3)
        have hb' := hal.mono (B' := w4.heap.size) hOld.out.1.size
        have HFN := hide (int_one z1)
        refine hK.out _ _ (⟨hOld.out.1.trans hb', (hb'.cell (p := ⟨hB, 0, none⟩) HBL.out).trans hOld.out.2⟩) (fun hHeld => ?_)
        clear hK K
        have HN' := hide (HN.out.on hal)
        clear HN
        have HN := HN'
        clear HN'
        have HF4' := hide (HF4.out.on hal)
        clear HF4
        have HF4 := HF4'
        clear HF4'
        have HG' := hide (HG.out.on hal)
        clear HG
        have HG := HG'
        clear HG'
        have HF1 := HFN
        clear hal hb' hOld HFN
        generalize z1.alloc (.cells #[.int .i64 1] 3) = z2 at *
        (try simp only [Act.put, List.setIfInBounds_toArray, List.set_cons_zero, List.set_cons_succ])
        refine wpPT_alt (by kernel_rfl) (fun K hK => ?_) ?_
        rotate_left
        · exact wpPT_stop
        have hOld := hide hHeld
        clear hHeld
        go_simp
        go_at_call 9
        refine (Dirs_any _ HN.out HF1.out aw_many (by omega)).mono ?_
        rintro e w' ⟨A5, n5, c5, rfl, hc5, hl5, hbel⟩
        have hb' := hbel.mono (B' := w4.heap.size) hOld.out.1.size
        rw [aw_dirs] at hl5
        obtain rfl : n5 = 2 := hl5.1.symm
        have HL := hide (RdN.of_fresh hl5 HG.out.lt)
        have HN' := hide (HN.out.on hbel)
        clear HN
        have HN := HN'
        clear HN'
        have HF1' := hide (HF1.out.on hbel)
        clear HF1
        have HF1 := HF1'
        clear HF1'
        have HF4' := hide (HF4.out.on hbel)
        clear HF4
        have HF4 := HF4'
        clear HF4'
        have HG' := hide (HG.out.on hbel)
        clear HG
        have HG := HG'
        clear HG'
        clear hl5 hbel
        refine hK.out _ _ (⟨hOld.out.1.trans hb', (hb'.cell (p := ⟨hB, 0, none⟩) HBL.out).trans hOld.out.2⟩) (fun hHeld => ?_)
        clear hK K
        (try simp only [Act.put, List.setIfInBounds_toArray, List.set_cons_zero, List.set_cons_succ])
        refine wpPT_alt (by kernel_rfl) (fun K hK => ?_) ?_
        rotate_left
        · exact wpPT_stop
        have hOld := hide hHeld
        clear hHeld
        go_simp
        go_at_call 21
        refine (Prune_any _ HN.out HF4.out aw_many aw_data (by omega)).mono ?_
        rintro e w' ⟨A7, n7, c7, rfl, hc7, hl7, hbel⟩
        have hb' := hbel.mono (B' := w4.heap.size) hOld.out.1.size
        rw [aw_prune] at hl7
        obtain rfl : n7 = 3 := hl7.1.symm
        have HP := hide (RdN.of_fresh hl7 HG.out.lt)
        have HN' := hide (HN.out.on hbel)
        clear HN
        have HN := HN'
        clear HN'
        have HF1' := hide (HF1.out.on hbel)
        clear HF1
        have HF1 := HF1'
        clear HF1'
        have HF4' := hide (HF4.out.on hbel)
        clear HF4
        have HF4 := HF4'
        clear HF4'
        have HL' := hide (HL.out.on hbel)
        clear HL
        have HL := HL'
        clear HL'
        have HG' := hide (HG.out.on hbel)
        clear HG
        have HG := HG'
        clear HG'
        clear hl7 hbel
        refine hK.out _ _ (⟨hOld.out.1.trans hb', (hb'.cell (p := ⟨hB, 0, none⟩) HBL.out).trans hOld.out.2⟩) (fun hHeld => ?_)
        clear hK K
        (try simp only [Act.put, List.setIfInBounds_toArray, List.set_cons_zero, List.set_cons_succ])
        refine wpPT_take (v := ?_) (by kernel_rfl) (fun wS hSw => ?_) ?_
        rotate_left
        · (try dsimp only at hSw); go_simp; (try with_reducible rfl)
        (try simp only [Act.put, List.setIfInBounds_toArray, List.set_cons_zero, List.set_cons_succ])
        refine wpPT_alt (by kernel_rfl) (fun K hK => ?_) ?_
        rotate_left
        · exact wpPT_stop
        have hOld := hide hHeld
        clear hHeld
        refine wp_storeC 24 (.tmp 3) (.tmp 19) rfl 1 lay_size g3 0 24 rfl [.slice none 0 0] [.slice A7 3 c7] rfl HG.out rfl (by simp) (by simp [Value.oneCell']) ?_
        intro w9 hr9 hg9 hs9
        refine hK.out _ _ (⟨hOld.out.1.grown hg9 hOld.out.1.size (fun k hk => by have := Option.some.inj hk; omega), (cell_same (hg9.block hB (by have := HBL.out; have := hOld.out.1.size; omega) (fun e => by have := Option.some.inj e; have := HBL.out; omega))).trans hOld.out.2⟩) (fun hHeld => ?_)
        clear hK K
        have HL9 := hide (RdN.grown HL.out hg9)
        have HP9 := hide (RdN.grown HP.out hg9)
        have HG9 := hide hr9
        clear hg9 hs9 hr9
        simp only [Act.put]
        refine wpPT_leaf ?_
        have HB9 := hide hHeld.1
        clear hHeld hOld
        go_wp2_with fail
        go_meet
        case rel => exact ⟨A5, c5, A7, c7, g3, rfl, rfl, HL9.out, hc5, HG9.out, HP9.out, HB9.out⟩
      exact wpPT_stop
    refine wpPT_alt (by kernel_rfl) (fun K hK => ?_) ?_
    · skip
      have hOld := hide hHeld
      clear hHeld
      unfold Oper.wp execOp
      go_simp
      have hal := below_new (below_self wd) (.cells #[.slice none 0 0] 24)
      have hb' := hal.mono (B' := w4.heap.size) hOld.out.1.size
      have HGN := hide (RowL.new wd 24 [.slice none 0 0])
      have hg3 : w4.heap.size ≤ wd.heap.size := hOld.out.1.size
      refine hK.out _ _ (⟨hOld.out.1.trans hb', (hb'.cell (p := ⟨hB, 0, none⟩) HBL.out).trans hOld.out.2⟩) (fun hHeld => ?_)
      clear hK K
      have HN' := hide (HN.out.on hal)
      clear HN
      have HN := HN'
      clear HN'
      have HG := HGN
      clear hal hb' hOld HGN
      generalize wd.alloc (.cells #[.slice none 0 0] 24) = z0 at *
      generalize wd.heap.size = g3 at *
      (try simp only [Act.put, List.setIfInBounds_toArray, List.set_cons_zero, List.set_cons_succ])
      refine wpPT_alt (by kernel_rfl) (fun K hK => ?_) ?_
      · skip
        have hOld := hide hHeld
        clear hHeld
        unfold Oper.wp execOp
        go_simp
        have hal := below_new (below_self z0) (.cells #[.int .i64 1] 3)
        have hb' := hal.mono (B' := w4.heap.size) hOld.out.1.size
        have HFN := hide (int_one z0)
        refine hK.out _ _ (⟨hOld.out.1.trans hb', (hb'.cell (p := ⟨hB, 0, none⟩) HBL.out).trans hOld.out.2⟩) (fun hHeld => ?_)
        clear hK K
        have HN' := hide (HN.out.on hal)
        clear HN
        have HN := HN'
        clear HN'
        have HG' := hide (HG.out.on hal)
        clear HG
        have HG := HG'
        clear HG'
        have HF1 := HFN
        clear hal hb' hOld HFN
        generalize z0.alloc (.cells #[.int .i64 1] 3) = z1 at *
        (try simp only [Act.put, List.setIfInBounds_toArray, List.set_cons_zero, List.set_cons_succ])
        refine wpPT_alt (by kernel_rfl) (fun K hK => ?_) ?_
        · skip
          have hOld := hide hHeld
          clear hHeld
          go_simp
          go_at_call 9
          refine (Dirs_any _ HN.out HF1.out aw_many (by omega)).mono ?_
          rintro e w' ⟨A5, n5, c5, rfl, hc5, hl5, hbel⟩
          have hb' := hbel.mono (B' := w4.heap.size) hOld.out.1.size
          rw [aw_dirs] at hl5
          obtain rfl : n5 = 2 := hl5.1.symm
          have HL := hide (RdN.of_fresh hl5 HG.out.lt)
          have HN' := hide (HN.out.on hbel)
          clear HN
          have HN := HN'
          clear HN'
          have HF1' := hide (HF1.out.on hbel)
          clear HF1
          have HF1 := HF1'
          clear HF1'
          have HG' := hide (HG.out.on hbel)
          clear HG
          have HG := HG'
          clear HG'
          clear hl5 hbel
          refine hK.out _ _ (⟨hOld.out.1.trans hb', (hb'.cell (p := ⟨hB, 0, none⟩) HBL.out).trans hOld.out.2⟩) (fun hHeld => ?_)
          clear hK K
          (try simp only [Act.put, List.setIfInBounds_toArray, List.set_cons_zero, List.set_cons_succ])
          refine wpPT_alt (by kernel_rfl) (fun K hK => ?_) ?_
          rotate_left
          · exact wpPT_stop
          have hOld := hide hHeld
          clear hHeld
          unfold Oper.wp execOp
          go_simp
          have hal := below_new (below_self w') (.cells #[.int .i64 1] 3)
          have hb' := hal.mono (B' := w4.heap.size) hOld.out.1.size
          have HFN := hide (int_one w')
          refine hK.out _ _ (⟨hOld.out.1.trans hb', (hb'.cell (p := ⟨hB, 0, none⟩) HBL.out).trans hOld.out.2⟩) (fun hHeld => ?_)
          clear hK K
          have HN' := hide (HN.out.on hal)
          clear HN
          have HN := HN'
          clear HN'
          have HF1' := hide (HF1.out.on hal)
          clear HF1
          have HF1 := HF1'
          clear HF1'
          have HL' := hide (HL.out.on hal)
          clear HL
          have HL := HL'
          clear HL'
          have HG' := hide (HG.out.on hal)
          clear HG
          have HG := HG'
          clear HG'
          have HF4 := HFN
          clear hal hb' hOld HFN
          generalize w'.alloc (.cells #[.int .i64 1] 3) = z3 at *
          (try simp only [Act.put, List.setIfInBounds_toArray, List.set_cons_zero, List.set_cons_succ])
          refine wpPT_alt (by kernel_rfl) (fun K hK => ?_) ?_
          rotate_left
          · exact wpPT_stop
          have hOld := hide hHeld
          clear hHeld
          go_simp
          go_at_call 21
          refine (Prune_any _ HN.out HF4.out aw_many aw_data (by omega)).mono ?_
          rintro e w' ⟨A7, n7, c7, rfl, hc7, hl7, hbel⟩
          have hb' := hbel.mono (B' := w4.heap.size) hOld.out.1.size
          rw [aw_prune] at hl7
          obtain rfl : n7 = 3 := hl7.1.symm
          have HP := hide (RdN.of_fresh hl7 HG.out.lt)
          have HN' := hide (HN.out.on hbel)
          clear HN
          have HN := HN'
          clear HN'
          have HF1' := hide (HF1.out.on hbel)
          clear HF1
          have HF1 := HF1'
          clear HF1'
          have HF4' := hide (HF4.out.on hbel)
          clear HF4
          have HF4 := HF4'
          clear HF4'
          have HL' := hide (HL.out.on hbel)
          clear HL
          have HL := HL'
          clear HL'
          have HG' := hide (HG.out.on hbel)
          clear HG
          have HG := HG'
          clear HG'
          clear hl7 hbel
          refine hK.out _ _ (⟨hOld.out.1.trans hb', (hb'.cell (p := ⟨hB, 0, none⟩) HBL.out).trans hOld.out.2⟩) (fun hHeld => ?_)
          clear hK K
          (try simp only [Act.put, List.setIfInBounds_toArray, List.set_cons_zero, List.set_cons_succ])
          refine wpPT_take (v := ?_) (by kernel_rfl) (fun wS hSw => ?_) ?_
          rotate_left
          · (try dsimp only at hSw); go_simp; (try with_reducible rfl)
          (try simp only [Act.put, List.setIfInBounds_toArray, List.set_cons_zero, List.set_cons_succ])
          refine wpPT_alt (by kernel_rfl) (fun K hK => ?_) ?_
          rotate_left
          · exact wpPT_stop
          have hOld := hide hHeld
          clear hHeld
          refine wp_storeC 24 (.tmp 3) (.tmp 19) rfl 1 lay_size g3 0 24 rfl [.slice none 0 0] [.slice A7 3 c7] rfl HG.out rfl (by simp) (by simp [Value.oneCell']) ?_
          intro w9 hr9 hg9 hs9
          refine hK.out _ _ (⟨hOld.out.1.grown hg9 hOld.out.1.size (fun k hk => by have := Option.some.inj hk; omega), (cell_same (hg9.block hB (by have := HBL.out; have := hOld.out.1.size; omega) (fun e => by have := Option.some.inj e; have := HBL.out; omega))).trans hOld.out.2⟩) (fun hHeld => ?_)
          clear hK K
          have HL9 := hide (RdN.grown HL.out hg9)
          have HP9 := hide (RdN.grown HP.out hg9)
          have HG9 := hide hr9
          clear hg9 hs9 hr9
          simp only [Act.put]
          refine wpPT_leaf ?_
          have HB9 := hide hHeld.1
          clear hHeld hOld
          go_wp2_with fail
          go_meet
          case rel => exact ⟨A5, c5, A7, c7, g3, rfl, rfl, HL9.out, hc5, HG9.out, HP9.out, HB9.out⟩
        refine wpPT_alt (by kernel_rfl) (fun K hK => ?_) ?_
        · skip
          have hOld := hide hHeld
          clear hHeld
          unfold Oper.wp execOp
          go_simp
          have hal := below_new (below_self z1) (.cells #[.int .i64 1] 3)
          have hb' := hal.mono (B' := w4.heap.size) hOld.out.1.size
          have HFN := hide (int_one z1)
          refine hK.out _ _ (⟨hOld.out.1.trans hb', (hb'.cell (p := ⟨hB, 0, none⟩) HBL.out).trans hOld.out.2⟩) (fun hHeld => ?_)
          clear hK K
          have HN' := hide (HN.out.on hal)
          clear HN
          have HN := HN'
          clear HN'
          have HF1' := hide (HF1.out.on hal)
          clear HF1
          have HF1 := HF1'
          clear HF1'
          have HG' := hide (HG.out.on hal)
          clear HG
          have HG := HG'
          clear HG'
          have HF4 := HFN
          clear hal hb' hOld HFN
          generalize z1.alloc (.cells #[.int .i64 1] 3) = z2 at *
          (try simp only [Act.put, List.setIfInBounds_toArray, List.set_cons_zero, List.set_cons_succ])
          refine wpPT_alt (by kernel_rfl) (fun K hK => ?_) ?_
          rotate_left
          · exact wpPT_stop
          have hOld := hide hHeld
          clear hHeld
          go_simp
          go_at_call 9
          refine (Dirs_any _ HN.out HF1.out aw_many (by omega)).mono ?_
          rintro e w' ⟨A5, n5, c5, rfl, hc5, hl5, hbel⟩
          have hb' := hbel.mono (B' := w4.heap.size) hOld.out.1.size
          rw [aw_dirs] at hl5
          obtain rfl : n5 = 2 := hl5.1.symm
          have HL := hide (RdN.of_fresh hl5 HG.out.lt)
          have HN' := hide (HN.out.on hbel)
          clear HN
          have HN := HN'
          clear HN'
          have HF1' := hide (HF1.out.on hbel)
          clear HF1
          have HF1 := HF1'
          clear HF1'
          have HF4' := hide (HF4.out.on hbel)
          clear HF4
          have HF4 := HF4'
          clear HF4'
          have HG' := hide (HG.out.on hbel)
          clear HG
          have HG := HG'
          clear HG'
          clear hl5 hbel
          refine hK.out _ _ (⟨hOld.out.1.trans hb', (hb'.cell (p := ⟨hB, 0, none⟩) HBL.out).trans hOld.out.2⟩) (fun hHeld => ?_)
          clear hK K
          (try simp only [Act.put, List.setIfInBounds_toArray, List.set_cons_zero, List.set_cons_succ])
          refine wpPT_alt (by kernel_rfl) (fun K hK => ?_) ?_
          rotate_left
          · exact wpPT_stop
          have hOld := hide hHeld
          clear hHeld
          go_simp
          go_at_call 21
          refine (Prune_any _ HN.out HF4.out aw_many aw_data (by omega)).mono ?_
          rintro e w' ⟨A7, n7, c7, rfl, hc7, hl7, hbel⟩
          have hb' := hbel.mono (B' := w4.heap.size) hOld.out.1.size
          rw [aw_prune] at hl7
          obtain rfl : n7 = 3 := hl7.1.symm
          have HP := hide (RdN.of_fresh hl7 HG.out.lt)
          have HN' := hide (HN.out.on hbel)
          clear HN
          have HN := HN'
          clear HN'
          have HF1' := hide (HF1.out.on hbel)
          clear HF1
          have HF1 := HF1'
          clear HF1'
          have HF4' := hide (HF4.out.on hbel)
          clear HF4
          have HF4 := HF4'
          clear HF4'
          have HL' := hide (HL.out.on hbel)
          clear HL
          have HL := HL'
          clear HL'
          have HG' := hide (HG.out.on hbel)
          clear HG
          have HG := HG'
          clear HG'
          clear hl7 hbel
          refine hK.out _ _ (⟨hOld.out.1.trans hb', (hb'.cell (p := ⟨hB, 0, none⟩) HBL.out).trans hOld.out.2⟩) (fun hHeld => ?_)
          clear hK K
          (try simp only [Act.put, List.setIfInBounds_toArray, List.set_cons_zero, List.set_cons_succ])
          refine wpPT_take (v := ?_) (by kernel_rfl) (fun wS hSw => ?_) ?_
          rotate_left
          · (try dsimp only at hSw); go_simp; (try with_reducible rfl)
          (try simp only [Act.put, List.setIfInBounds_toArray, List.set_cons_zero, List.set_cons_succ])
          refine wpPT_alt (by kernel_rfl) (fun K hK => ?_) ?_
          rotate_left
          · exact wpPT_stop
          have hOld := hide hHeld
          clear hHeld
          refine wp_storeC 24 (.tmp 3) (.tmp 19) rfl 1 lay_size g3 0 24 rfl [.slice none 0 0] [.slice A7 3 c7] rfl HG.out rfl (by simp) (by simp [Value.oneCell']) ?_
          intro w9 hr9 hg9 hs9
          refine hK.out _ _ (⟨hOld.out.1.grown hg9 hOld.out.1.size (fun k hk => by have := Option.some.inj hk; omega), (cell_same (hg9.block hB (by have := HBL.out; have := hOld.out.1.size; omega) (fun e => by have := Option.some.inj e; have := HBL.out; omega))).trans hOld.out.2⟩) (fun hHeld => ?_)
          clear hK K
          have HL9 := hide (RdN.grown HL.out hg9)
          have HP9 := hide (RdN.grown HP.out hg9)
          have HG9 := hide hr9
          clear hg9 hs9 hr9
          simp only [Act.put]
          refine wpPT_leaf ?_
          have HB9 := hide hHeld.1
          clear hHeld hOld
          go_wp2_with fail
          go_meet
          case rel => exact ⟨A5, c5, A7, c7, g3, rfl, rfl, HL9.out, hc5, HG9.out, HP9.out, HB9.out⟩
        exact wpPT_stop
      refine wpPT_alt (by kernel_rfl) (fun K hK => ?_) ?_
      · skip
        have hOld := hide hHeld
        clear hHeld
        unfold Oper.wp execOp
        go_simp
        have hal := below_new (below_self z0) (.cells #[.int .i64 1] 3)
        have hb' := hal.mono (B' := w4.heap.size) hOld.out.1.size
        have HFN := hide (int_one z0)
        refine hK.out _ _ (⟨hOld.out.1.trans hb', (hb'.cell (p := ⟨hB, 0, none⟩) HBL.out).trans hOld.out.2⟩) (fun hHeld => ?_)
        clear hK K
        have HN' := hide (HN.out.on hal)
        clear HN
        have HN := HN'
        clear HN'
        have HG' := hide (HG.out.on hal)
        clear HG
        have HG := HG'
        clear HG'
        have HF4 := HFN
        clear hal hb' hOld HFN
        generalize z0.alloc (.cells #[.int .i64 1] 3) = z1 at *
        (try simp only [Act.put, List.setIfInBounds_toArray, List.set_cons_zero, List.set_cons_succ])
        refine wpPT_alt (by kernel_rfl) (fun K hK => ?_) ?_
        rotate_left
        · exact wpPT_stop
        have hOld := hide hHeld
        clear hHeld
        unfold Oper.wp execOp
        go_simp
        have hal := below_new (below_self z1) (.cells #[.int .i64 1] 3)
        have hb' := hal.mono (B' := w4.heap.size) hOld.out.1.size
        have HFN := hide (int_one z1)
        refine hK.out _ _ (⟨hOld.out.1.trans hb', (hb'.cell (p := ⟨hB, 0, none⟩) HBL.out).trans hOld.out.2⟩) (fun hHeld => ?_)
        clear hK K
        have HN' := hide (HN.out.on hal)
        clear HN
        have HN := HN'
        clear HN'
        have HF4' := hide (HF4.out.on hal)
        clear HF4
        have HF4 := HF4'
        clear HF4'
        have HG' := hide (HG.out.on hal)
        clear HG
        have HG := HG'
        clear HG'
        have HF1 := HFN
        clear hal hb' hOld HFN
        generalize z1.alloc (.cells #[.int .i64 1] 3) = z2 at *
        (try simp only [Act.put, List.setIfInBounds_toArray, List.set_cons_zero, List.set_cons_succ])
        refine wpPT_alt (by kernel_rfl) (fun K hK => ?_) ?_
        rotate_left
        · exact wpPT_stop
        have hOld := hide hHeld
        clear hHeld
        go_simp
        go_at_call 9
        refine (Dirs_any _ HN.out HF1.out aw_many (by omega)).mono ?_
        rintro e w' ⟨A5, n5, c5, rfl, hc5, hl5, hbel⟩
        have hb' := hbel.mono (B' := w4.heap.size) hOld.out.1.size
        rw [aw_dirs] at hl5
        obtain rfl : n5 = 2 := hl5.1.symm
        have HL := hide (RdN.of_fresh hl5 HG.out.lt)
        have HN' := hide (HN.out.on hbel)
        clear HN
        have HN := HN'
        clear HN'
        have HF1' := hide (HF1.out.on hbel)
        clear HF1
        have HF1 := HF1'
        clear HF1'
        have HF4' := hide (HF4.out.on hbel)
        clear HF4
        have HF4 := HF4'
        clear HF4'
        have HG' := hide (HG.out.on hbel)
        clear HG
        have HG := HG'
        clear HG'
        clear hl5 hbel
        refine hK.out _ _ (⟨hOld.out.1.trans hb', (hb'.cell (p := ⟨hB, 0, none⟩) HBL.out).trans hOld.out.2⟩) (fun hHeld => ?_)
        clear hK K
        (try simp only [Act.put, List.setIfInBounds_toArray, List.set_cons_zero, List.set_cons_succ])
        refine wpPT_alt (by kernel_rfl) (fun K hK => ?_) ?_
        rotate_left
        · exact wpPT_stop
        have hOld := hide hHeld
        clear hHeld
        go_simp
        go_at_call 21
        refine (Prune_any _ HN.out HF4.out aw_many aw_data (by omega)).mono ?_
        rintro e w' ⟨A7, n7, c7, rfl, hc7, hl7, hbel⟩
        have hb' := hbel.mono (B' := w4.heap.size) hOld.out.1.size
        rw [aw_prune] at hl7
        obtain rfl : n7 = 3 := hl7.1.symm
        have HP := hide (RdN.of_fresh hl7 HG.out.lt)
        have HN' := hide (HN.out.on hbel)
        clear HN
        have HN := HN'
        clear HN'
        have HF1' := hide (HF1.out.on hbel)
        clear HF1
        have HF1 := HF1'
        clear HF1'
        have HF4' := hide (HF4.out.on hbel)
        clear HF4
        have HF4 := HF4'
        clear HF4'
        have HL' := hide (HL.out.on hbel)
        clear HL
        have HL := HL'
        clear HL'
        have HG' := hide (HG.out.on hbel)
        clear HG
        have HG := HG'
        clear HG'
        clear hl7 hbel
        refine hK.out _ _ (⟨hOld.out.1.trans hb', (hb'.cell (p := ⟨hB, 0, none⟩) HBL.out).trans hOld.out.2⟩) (fun hHeld => ?_)
        clear hK K
        (try simp only [Act.put, List.setIfInBounds_toArray, List.set_cons_zero, List.set_cons_succ])
        refine wpPT_take (v := ?_) (by kernel_rfl) (fun wS hSw => ?_) ?_
        rotate_left
        · (try dsimp only at hSw); go_simp; (try with_reducible rfl)
        (try simp only [Act.put, List.setIfInBounds_toArray, List.set_cons_zero, List.set_cons_succ])
        refine wpPT_alt (by kernel_rfl) (fun K hK => ?_) ?_
        rotate_left
        · exact wpPT_stop
        have hOld := hide hHeld
        clear hHeld
        refine wp_storeC 24 (.tmp 3) (.tmp 19) rfl 1 lay_size g3 0 24 rfl [.slice none 0 0] [.slice A7 3 c7] rfl HG.out rfl (by simp) (by simp [Value.oneCell']) ?_
        intro w9 hr9 hg9 hs9
        refine hK.out _ _ (⟨hOld.out.1.grown hg9 hOld.out.1.size (fun k hk => by have := Option.some.inj hk; omega), (cell_same (hg9.block hB (by have := HBL.out; have := hOld.out.1.size; omega) (fun e => by have := Option.some.inj e; have := HBL.out; omega))).trans hOld.out.2⟩) (fun hHeld => ?_)
        clear hK K
        have HL9 := hide (RdN.grown HL.out hg9)
        have HP9 := hide (RdN.grown HP.out hg9)
        have HG9 := hide hr9
        clear hg9 hs9 hr9
        simp only [Act.put]
        refine wpPT_leaf ?_
        have HB9 := hide hHeld.1
        clear hHeld hOld
        go_wp2_with fail
        go_meet
        case rel => exact ⟨A5, c5, A7, c7, g3, rfl, rfl, HL9.out, hc5, HG9.out, HP9.out, HB9.out⟩
      exact wpPT_stop
    exact wpPT_stop
  case rest =>
    obtain ⟨A5, c5, A7, c7, g3, rfl, rfl, hl, hc5, hg, hp, hb⟩ := hcut
    clear qB
    have HL := hide hl
    have HP := hide hp
    have HG := hide hg
    have qB1 : wc.cell? ⟨hB, 0, none⟩ = some (.slice (some ⟨hN, 0, none⟩) 3 3) := (HR0.out.on hb).cell 0
    have qG1 : wc.cell? ⟨g3, 0, none⟩ = some (.slice A7 3 c7) := hg.cell 0
    have HN1 := hide (HN0.out.on hb)
    have HB1 := hide (HW.out.trans (hb.mono HW.out.size))
    have HRB := hide (HR0.out.on hb)
    obtain ⟨bW, oW, rfl, hcW⟩ := hl.cellsR (by omega)
    obtain ⟨csW, hcsW, hcW⟩ := hcW 1 _ rfl
    obtain rfl : csW = wayC ⟨3, 0, [120]⟩ := hcsW
    have qW0 : wc.cell? ⟨bW, oW + 3, none⟩ = some (.int .i64 3) := hcW 0 _ rfl
    have qW1 : wc.cell? ⟨bW, oW + 3 + 1, none⟩ = some (.int .i64 0) := hcW 1 _ rfl
    have qW2 : wc.cell? ⟨bW, oW + 3 + 2, none⟩ = some (.string ⟨#[120]⟩) := hcW 2 _ rfl
    have heq := fun W => eq_wayA W
    clear hl hg hp hb hcW HN0 HR0 HW
    go_wp2_with fail
    have b2 := below_new (below_self wc) (.cells #[.int .i64 1] 3)
    refine (Twice_any _ (HN1.out.on b2) (int_one wc) aw_many (by omega)).mono ?_
    rintro e w2 ⟨A9, n9, c9, rfl, hc9, h9, hb9⟩
    rw [aw_twice] at h9
    obtain rfl : n9 = 1 := h9.1.symm
    have hb := below_step b2 hb9
    have H9 := hide h9
    have HL2 := hide (HL.out.on hb)
    have HP2 := hide (HP.out.on hb)
    have HG2 := hide (HG.out.on hb)
    have HN2 := hide (HN1.out.on hb)
    have HRB2 := hide (HRB.out.on hb)
    have HB2 := hide (below_step HB1.out hb)
    have qB2 : w2.cell? ⟨hB, 0, none⟩ = some (.slice (some ⟨hN, 0, none⟩) 3 3) := HRB2.out.cell 0
    have qG2 : w2.cell? ⟨g3, 0, none⟩ = some (.slice A7 3 c7) := HG2.out.cell 0
    clear hb b2 h9 hb9 HL HP HG HN1 HRB HB1 qB1 qG1 qW0 qW1 qW2 heq
    go_wp2_with fail
    have b3 := below_new (below_self w2) (.cells #[.int .i64 1, .int .i64 1] 36)
    refine (EqPr_same (L := [(1, 1)]) _ (H9.out.on b3) (pr_one w2) (by omega)).mono ?_
    rintro e w3 ⟨rfl, hb3⟩
    have hb := below_step b3 hb3
    have HL3 := hide (HL2.out.on hb)
    have HP3 := hide (HP2.out.on hb)
    have HG3 := hide (HG2.out.on hb)
    have HN3 := hide (HN2.out.on hb)
    have HRB3 := hide (HRB2.out.on hb)
    have HB3 := hide (below_step HB2.out hb)
    have qB3 : w3.cell? ⟨hB, 0, none⟩ = some (.slice (some ⟨hN, 0, none⟩) 3 3) := HRB3.out.cell 0
    have qG3 : w3.cell? ⟨g3, 0, none⟩ = some (.slice A7 3 c7) := HG3.out.cell 0
    clear hb b3 hb3 HL2 HP2 HG2 HN2 HRB2 HB2 qB2 qG2 H9
    go_wp2_with fail
    have b4 := below_new (below_self w3) (.cells #[.int .i64 1] 3)
    refine (Reach_any _ (HN3.out.on b4) (int_one w3) aw_many (by omega)).mono ?_
    rintro e w5 ⟨A10, n10, c10, rfl, hc10, h10, hb10, -⟩
    rw [aw_reach] at h10
    obtain rfl : n10 = 3 := h10.1.symm
    have hb := below_step b4 hb10
    have H10 := hide h10
    have HL5 := hide (HL3.out.on hb)
    have HP5 := hide (HP3.out.on hb)
    have HG5 := hide (HG3.out.on hb)
    have HB5 := hide (below_step HB3.out hb)
    have qG5 : w5.cell? ⟨g3, 0, none⟩ = some (.slice A7 3 c7) := HG5.out.cell 0
    clear hb b4 h10 hb10 HL3 HP3 HG3 HN3 HRB3 HB3 qB3 qG3
    go_wp2_with fail
    have b6 := below_new (below_self w5) (.cells #[.bool true, .bool true, .bool true] 4)
    refine (EqualB_any (l := [true, true, true]) (k := [true, true, true]) _ (H10.out.below b6) (Rd.lit w5 4 (cs := [.bool true, .bool true, .bool true]) rfl rfl) (by omega)).mono ?_
    rintro e w7 ⟨rfl, hb7⟩
    rw [show (([true, true, true] : List Bool) == [true, true, true]) = true from rfl]
    have hb := below_step b6 hb7
    have HL7 := hide (HL5.out.on hb)
    have HP7 := hide (HP5.out.on hb)
    have HG7 := hide (HG5.out.on hb)
    have HB7 := hide (below_step HB5.out hb)
    have qG7 : w7.cell? ⟨g3, 0, none⟩ = some (.slice A7 3 c7) := HG7.out.cell 0
    clear hb b6 hb7 HL5 HP5 HG5 HB5 qG5 H10
    go_wp2_with fail
    refine (Path_any w7 HL7.out (by omega)).mono ?_
    rw [aw_path]
    rintro e w8 ⟨A11, c11, rfl, ho8, hb8⟩
    have HO8 := hide ho8
    have HP8 := hide (HP7.out.on hb8)
    have HG8 := hide (HG7.out.on hb8)
    have HB8 := hide (below_step HB7.out hb8)
    have qG8 : w8.cell? ⟨g3, 0, none⟩ = some (.slice A7 3 c7) := HG8.out.cell 0
    clear ho8 hb8 HL7 HP7 HG7 HB7 qG7
    go_wp2_with fail
    refine (PJoin_lib (l := [[120]]) w8 HO8.out.rd (by simp) (HO8.out.cap) (by rw [show Lib.join [[120]] [47] = ([120] : List UInt8) from by decide +kernel]; simp)).mono ?_
    rw [aw_join]
    rintro e w10 ⟨rfl, hb10⟩
    have hp := HP8.out.on hb10
    have qG10 : w10.cell? ⟨g3, 0, none⟩ = some (.slice A7 3 c7) := (HG8.out.on hb10).cell 0
    have HB10 := hide (below_step HB8.out hb10)
    obtain ⟨b12, o12, cs, rfl, -, hnd, hc12⟩ := hp.get_nod (i := 0) (x := { nod0 with k := 1, ents := [⟨0, 3, [120]⟩] }) rfl
    obtain ⟨D1, m1, e1, C1, m2, e2, rfl, -, -, -, h5⟩ := hnd
    obtain rfl : m2 = 1 := h5.1.symm
    have qN : w10.cell? ⟨b12, o12 + 5, none⟩ = some (.slice C1 1 e2) := (hc12 5 _ rfl)
    clear hb10 HO8 HP8 HG8 HB8 qG8 hp hc12 h5
    go_wp2_with fail
    go_ret
    exact LawOk.of HB10.out
end Go.Proofs.Ytalhkcheglbolaa
