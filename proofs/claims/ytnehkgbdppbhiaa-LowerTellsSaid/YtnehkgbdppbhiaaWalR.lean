/- walk: Prune (layer 13). -/
import Derived.Test.YtnehkgbdppbhiaaWalQ
namespace Go.Proofs.Ytnehkgbdppbhiaa
open Go.RowKit Go.Shelf Plain

def nodZ : List Value := nodC nod0 (.slice none 0 0) (.slice none 0 0)
/-- A store into a row of elements of k cells. -/
theorem flat_put {k : Nat} : ∀ {css : List (List Value)} (_ : ∀ cs ∈ css, cs.length = k) (j : Nat) (cs : List Value) (_ : cs.length = k) (_ : j < css.length), splice css.flatten (j * k) cs = (css.set j cs).flatten := by
  intro css
  induction css with
  | nil => intro _ j cs _ hj; simp at hj
  | cons c0 r ih =>
    intro hk j cs hc hj
    have h0 : c0.length = k := hk c0 List.mem_cons_self
    cases j with
    | zero =>
      simp only [splice, Nat.zero_mul, List.take_zero, List.nil_append, Nat.zero_add, List.set_cons_zero, List.flatten_cons]
      rw [List.drop_left' (by omega)]
    | succ j =>
      have := ih (fun c h => hk c (List.mem_cons_of_mem _ h)) j cs hc (by simpa using hj)
      simp only [List.set_cons_succ, List.flatten_cons, ← this]
      unfold splice
      have e1 : (j + 1) * k = c0.length + j * k := by rw [Nat.succ_mul, h0]; omega
      rw [e1, List.take_append, List.take_of_length_le (by omega), Nat.add_sub_cancel_left, List.append_assoc, show c0.length + j * k + cs.length = c0.length + (j * k + cs.length) from by omega, List.drop_append, List.drop_of_length_le (by omega), Nat.add_sub_cancel_left, List.nil_append]
/-- The row of nodes, in the making. -/
def NodesAt (B g : Nat) (l : List NodV) (W : World) : Prop := ∃ css, RowL W g 59 css.flatten ∧ CellsE nodEn W (fun b => B ≤ b ∧ b < W.heap.size ∧ b ≠ g) css l
theorem NodesAt.on {B g : Nat} {l : List NodV} {W W' : World} (h : NodesAt B g l W) (hb : Below W.heap.size W W') : NodesAt B g l W' := by
  obtain ⟨css, h1, h2⟩ := h
  exact ⟨css, h1.on hb, h2.mono (fun b hb' => hb.block b hb'.2.1) (fun b hb' => ⟨hb'.1, Nat.lt_of_lt_of_le hb'.2.1 hb.size, hb'.2.2⟩)⟩
theorem NodesAt.len {B g : Nat} {l : List NodV} {W : World} (h : NodesAt B g l W) : ∃ cs, RowL W g 59 cs ∧ cs.length = l.length * 13 := by
  obtain ⟨css, h1, h2⟩ := h
  exact ⟨_, h1, by rw [flat_len h2.lens, h2.1]; rfl⟩
theorem NodesAt.put {B g j : Nat} {l : List NodV} {x : NodV} {W W' : World} {cur cs : List Value} (h : NodesAt B g l W) (hj : j < l.length) (hx : NodR W (fun b => B ≤ b ∧ b < W.heap.size ∧ b ≠ g) cs x) (hcur : RowL W g 59 cur) (hr : RowL W' g 59 (splice cur (j * 13) cs)) (hg : W.grownBy W' (some g)) : NodesAt B g (l.set j x) W' := by
  obtain ⟨css, h1, h2⟩ := h
  have hc : cs.length = 13 := nodEn.len hx
  have e : cur = css.flatten := by
    have := h1.symm.trans hcur
    injection this with this
    injection this with this
    simpa using this.symm
  subst e
  rw [flat_put (k := 13) (fun c hc => h2.lens c hc) j cs hc (by rw [h2.1]; exact hj)] at hr
  have hk : Kept (fun b => B ≤ b ∧ b < W.heap.size ∧ b ≠ g) W W' := fun b hb => hg.block b hb.2.1 (fun e => hb.2.2 (Option.some.inj e))
  have hD : ∀ b, (B ≤ b ∧ b < W.heap.size ∧ b ≠ g) → (B ≤ b ∧ b < W'.heap.size ∧ b ≠ g) := fun b hb => ⟨hb.1, Nat.lt_of_lt_of_le hb.2.1 hg.size, hb.2.2⟩
  refine ⟨css.set j cs, hr, by rw [List.length_set, List.length_set, h2.1], fun i c y hc1 hy1 => ?_⟩
  by_cases hi : j = i
  · subst hi
    rw [List.getElem?_set_self (by rw [h2.1]; exact hj)] at hc1
    rw [List.getElem?_set_self hj] at hy1
    cases hc1
    cases hy1
    exact NodR.mono hx hk hD
  · rw [List.getElem?_set_ne hi] at hc1 hy1
    exact nodEn.mono (h2.2 i c y hc1 hy1) hk hD
theorem NodesAt.rd {B g n : Nat} {l : List NodV} {W : World} (h : NodesAt B g l W) (hB : B ≤ g) (hn : l.length = n) : RdE nodEn W (fun b => B ≤ b ∧ b < W.heap.size) (some ⟨g, 0, none⟩) n l := by
  subst hn
  obtain ⟨css, h1, h2⟩ := h
  refine ⟨rfl, fun _ => ⟨g, 0, rfl, ⟨hB, h1.lt⟩, fun i x hx => ?_⟩⟩
  have hi := (List.getElem?_eq_some_iff.1 hx).1
  have hc : css[i]? = some (css[i]'(by rw [h2.1]; exact hi)) := List.getElem?_eq_getElem _
  have hR := h2.2 i _ x hc hx
  refine ⟨_, nodEn.mono hR (fun _ _ => rfl) (fun b hb => ⟨hb.1, hb.2.1⟩), fun j v hv => ?_⟩
  have hj : j < 13 := by have := (List.getElem?_eq_some_iff.1 hv).1; have h13 := nodEn.len hR; rw [h13] at this; exact this
  rw [Nat.zero_add, h1.cell]
  exact (flat_get h2.lens hc hj).trans hv
theorem nodes_zero {W : World} {B g n : Nat} (h : RowL W g 59 (List.replicate n nodZ).flatten) : NodesAt B g (List.replicate n nod0) W := by
  refine ⟨List.replicate n nodZ, h, by simp, fun i cs x h1 h2 => ?_⟩
  rw [List.getElem?_replicate] at h1 h2
  split at h1
  · rename_i hi
    rw [if_pos hi] at h2
    cases h1
    cases h2
    exact ⟨none, 0, 0, none, 0, 0, rfl, Nat.le_refl _, RdE.none_ _ _ _ _, Nat.le_refl _, RdE.none_ _ _ _ _⟩
  · cases h1
set_option maxRecDepth 100000 in
theorem nodw_info : (Try.prog.info? 59).map (fun i => (i.zero, i.size, i.bytes)) = some (some (.agg nodZ.toArray), 13, 144) := by kernel_rfl
theorem nod_made (n : Nat) : (madeCells (Value.agg nodZ.toArray).cells (n * 13)).toList = (List.replicate n nodZ).flatten := by
  have hz : (Value.agg nodZ.toArray).cells = nodZ.toArray := by rfl
  rw [hz]
  have hl : (List.replicate n nodZ).flatten.length = n * 13 := by
    have := flat_len (k := 13) (css := List.replicate n nodZ) (fun cs h => by rw [List.eq_of_mem_replicate h]; rfl)
    simpa using this
  apply List.ext_getElem?
  intro i
  by_cases hi : i < n * 13
  · have h13 : i % 13 < 13 := Nat.mod_lt _ (by omega)
    have hq : ∀ q, q < 13 → nodZ[q]? = some (nodZ.toArray[q]!) := by
      intro q hq
      obtain rfl | rfl | rfl | rfl | rfl | rfl | rfl | rfl | rfl | rfl | rfl | rfl | rfl : q = 0 ∨ q = 1 ∨ q = 2 ∨ q = 3 ∨ q = 4 ∨ q = 5 ∨ q = 6 ∨ q = 7 ∨ q = 8 ∨ q = 9 ∨ q = 10 ∨ q = 11 ∨ q = 12 := by omega
      all_goals rfl
    have hd : i / 13 < n := Nat.div_lt_of_lt_mul (by omega)
    have hg := flat_get (k := 13) (css := List.replicate n nodZ) (fun cs h => by rw [List.eq_of_mem_replicate h]; rfl) (i := i / 13) (j := i % 13) (cs := nodZ) (by rw [List.getElem?_replicate, if_pos hd]) h13
    rw [show i / 13 * 13 + i % 13 = i from by omega] at hg
    rw [hg, hq _ h13]
    unfold madeCells
    rw [Array.getElem?_toList, Array.getElem?_map, Array.getElem?_range, if_pos hi, Option.map_some]
    rfl
  · rw [List.getElem?_eq_none (by simp [size_madeCells]; omega), List.getElem?_eq_none (by omega)]
theorem RowL.of_madeK' {w : World} {base g e n s : Nat} {xs : List Value} (h : w.ownsRow base e s (.slice (some ⟨g, 0, none⟩) n n) n xs) : RowL w g e xs := by
  rcases h.2 with ⟨h', _⟩ | ⟨g', cap, cur, h', _, hg, _, _, hcs, ht⟩
  · cases h'
  · simp only [Value.slice.injEq, Option.some.injEq, Addr.mk.injEq, and_true, true_and] at h'
    obtain ⟨rfl, rfl⟩ := h'
    have e1 : xs = cur.toList := by rw [← ht]; exact List.take_of_length_le (by rw [Array.length_toList, hcs]; exact Nat.le_refl _)
    subst e1
    simpa [RowL] using hg
theorem wpList_make_N {w : World} {B : Nat} {ops : Array Oper} {rest : List Oper} {o : Oper} {a : Act} {Q : Exit → Act → World → Prop} (hg : o.guard = none) (l c : Operand) (hop : o.op = Op.makeSlice 24 l c)
    (L C : Int) (n : Nat) (hl : a.eval l = .int .i64 L) (hc : a.eval c = .int .i64 C) (hL : L = (n : Int)) (hC : C = (n : Int)) (hn : n ≤ 1000)
    (hK : ∀ w', NodesAt B w.heap.size (List.replicate n nod0) w' → Below w.heap.size w w' → wpList Try.prog ops Q rest (a.put o.dst (.slice (some ⟨w.heap.size, 0, none⟩) n n)) w') :
    wpList Try.prog ops Q (o :: rest) a w := by
  obtain ⟨i, hi, hz, hsz, hby⟩ := info_parts nodw_info
  refine wpList_make_full w hg l c 24 hop w.heap.size 59 i _ 13 Try.underlying24 hi hz hsz .i64 .i64 L C n hl hc hL hC (by rw [hby]; omega) (by simp only [maxLen]; omega) (Nat.le_refl _) ?_
  intro w' hown hgr
  refine hK w' (nodes_zero ?_) ((Below.refl _ _).grown hgr (Nat.le_refl _) (by simp))
  rw [← nod_made]
  exact RowL.of_madeK' hown
/-- The names by where they stand, the first j. -/
def nameF (t : List (Int × Nat)) (j : Nat) : Int × Int → Bool := fun q => (t.take j).any (fun z => decide (q = (z.1, (z.2 : Int))))
theorem nameF_zero (t : List (Int × Nat)) : nameF t 0 = fun _ => false := by funext q; simp [nameF]
theorem nameF_succ {t : List (Int × Nat)} {j : Nat} {z : Int × Nat} (h : t[j]? = some z) : nameF t (j + 1) = fun q => nameF t j q || decide (q = (z.1, (z.2 : Int))) := by
  funext q
  unfold nameF
  rw [List.take_add_one, h, List.any_append]
  simp
theorem keepF_all (t : List (Int × Nat)) (i : Int) (l : List EntV) : keepF (nameF t t.length) i l l.length = keepE t i l := by
  unfold keepF keepE
  rw [List.take_of_length_le (by simp)]
  congr 1
  apply List.filter_congr
  intro x _
  congr 1
  unfold nameF
  rw [List.take_length, Bool.eq_iff_iff, List.any_eq_true, List.contains_iff_mem]
  constructor
  · rintro ⟨z, hz, h⟩
    have h := of_decide_eq_true h
    have h1 := congrArg Prod.fst h
    have h2 := congrArg Prod.snd h
    have e : z = (i, x.2) := by
      obtain ⟨z1, z2⟩ := z
      simp only at h1 h2
      rw [← h1, show z2 = x.2 from by omega]
    rw [← e]
    exact hz
  · exact fun h => ⟨_, h, by simp⟩
/-- The nodes so far, and zero ones behind. -/
def soFar (ns : List NodV) (s : StW) (k : Nat) : List NodV := (pruneW ns s).take k ++ List.replicate (ns.length - k) nod0
theorem soFar_zero (ns : List NodV) (s : StW) : soFar ns s 0 = List.replicate ns.length nod0 := by simp [soFar]
theorem soFar_all (ns : List NodV) (s : StW) : soFar ns s ns.length = pruneW ns s := by
  unfold soFar
  rw [List.take_of_length_le (by rw [prune_len]; exact Nat.le_refl _), Nat.sub_self]
  simp
theorem soFar_len {ns : List NodV} {s : StW} {k : Nat} (h : k ≤ ns.length) : (soFar ns s k).length = ns.length := by
  unfold soFar
  rw [List.length_append, List.length_take, prune_len, List.length_replicate]
  omega
theorem soFar_succ {ns : List NodV} {s : StW} {k : Nat} {n : NodV} (h : ns[k]? = some n) : soFar ns s (k + 1) = (soFar ns s k).set k (pruneN s.2 (reachW ns s.1 ((k : Int) + 1)) ((k : Int) + 1) n) := by
  have hk := (List.getElem?_eq_some_iff.1 h).1
  unfold soFar
  rw [List.set_append_right _ _ (by rw [List.length_take]; omega), List.length_take, prune_len, Nat.min_eq_left (by omega), Nat.sub_self, show ns.length - k = (ns.length - (k + 1)) + 1 from by omega, List.replicate_succ, List.set_cons_zero, List.take_add_one, prune_get h, List.append_assoc]
  rfl
theorem soFar_skip {ns : List NodV} {s : StW} {k : Nat} {n : NodV} (h : ns[k]? = some n) (hr : reachW ns s.1 ((k : Int) + 1) = false) : soFar ns s (k + 1) = soFar ns s k := by
  have hk := (List.getElem?_eq_some_iff.1 h).1
  unfold soFar
  rw [List.take_add_one, prune_get h, hr, show ns.length - k = (ns.length - (k + 1)) + 1 from by omega, List.replicate_succ, List.append_assoc]
  rfl
end Go.Proofs.Ytnehkgbdppbhiaa
