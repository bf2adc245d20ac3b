/- claim: Bad (layer 11). -/
import Derived.Test.YtnllbdigpnopoaaClaK
namespace Go.Proofs.Ytnllbdigpnopoaa
open Go.RowKit Go.Shelf Plain
attribute [local go_sem] Oper.semAt_some

/-- From one world to the next: of what is no cells nothing turns; of rows those of elements e, and block g. -/
structure Turn (base g e : Nat) (W W' : World) : Prop where
  os : W'.os = W.os
  tape : W'.tape = W.tape
  output : W'.output = W.output
  size : W.heap.size ≤ W'.heap.size
  row : ∀ k t cs, RowL W k t cs → k ≠ g → t ≠ e → RowL W' k t cs
  obj : ∀ (k : Nat) (o : Obj), W.heap[k]? = some o → o.isCells = false → W'.heap[k]? = some o
  low : ∀ k, k < base → W'.heap[k]? = W.heap[k]?
section
variable {base g e : Nat} {A B C : World}
theorem Turn.refl (base g e : Nat) (A : World) : Turn base g e A A := ⟨rfl, rfl, rfl, Nat.le_refl _, fun _ _ _ h _ _ => h, fun _ _ h _ => h, fun _ _ => rfl⟩
theorem Turn.trans (h : Turn base g e A B) (k : Turn base g e B C) : Turn base g e A C :=
  ⟨k.os.trans h.os, k.tape.trans h.tape, k.output.trans h.output, Nat.le_trans h.size k.size, fun i t cs hr h1 h2 => k.row i t cs (h.row i t cs hr h1 h2) h1 h2, fun i o ho hn => k.obj i o (h.obj i o ho hn) hn, fun i hi => (k.low i hi).trans (h.low i hi)⟩
theorem Turn.of_below (h : Below A.heap.size A B) (hb : base ≤ A.heap.size) : Turn base g e A B :=
  ⟨h.os, h.tape, h.output, h.size, fun _ _ _ hr _ _ => hr.on h, fun k o ho _ => (h.block k (Array.getElem?_eq_some_iff.1 ho).1).trans ho, fun k hk => h.block k (by omega)⟩
theorem Turn.app {s n : Nat} {v : Value} {xs : List Value} (ho : A.ownsRow base e s v n xs) (hg : A.grownBy B v.ownBlock) (hb : base ≤ A.heap.size) : Turn base g e A B :=
  ⟨hg.os, hg.tape, hg.output, hg.size, fun k t cs hr _ h2 => hr.grown hg (fun eq => by
    rcases ho.2 with ⟨rfl, _⟩ | ⟨g', cap, cur, rfl, _, hc, _⟩
    · cases eq
    · have : k = g' := Option.some.inj eq
      subst this
      rw [show A.heap[k]? = _ from hr] at hc
      have := Option.some.inj hc
      injection this with _ h _
      exact h2 h), fun k o hk hn => (hg.block k (Array.getElem?_eq_some_iff.1 hk).1 (fun eq => by
    obtain ⟨_, _, o', ho', hc'⟩ := own_block ho k eq.symm
    rw [hk] at ho'
    cases Option.some.inj ho'
    rw [hn] at hc'
    cases hc')).trans hk, fun k hk => hg.block k (by omega) (fun eq => by have := (own_block ho k eq.symm).1; omega)⟩
theorem Turn.store {t : Nat} {cs : List Value} (hr : RowL A g t cs) (hg : A.grownBy B (some g)) (hb : base ≤ g) : Turn base g e A B :=
  ⟨hg.os, hg.tape, hg.output, hg.size, fun k t cs h h1 _ => h.grown hg (fun eq => h1 (Option.some.inj eq)), fun k o hk hn => (hg.block k (Array.getElem?_eq_some_iff.1 hk).1 (fun eq => by
    have := Option.some.inj eq
    subst this
    rw [show A.heap[k]? = _ from hr] at hk
    cases Option.some.inj hk
    cases hn)).trans hk, fun k hk => hg.block k (by have := hr.lt; omega) (fun eq => by have := Option.some.inj eq; omega)⟩
theorem Turn.keeps (h : Turn base g e A B) : KeepsOthers A B := ⟨h.size, fun k o ho hn => h.obj k o ho hn⟩
theorem Turn.below {w : World} (h : Turn base g e A B) (hb : Below base w A) : Below base w B := ⟨h.os.trans hb.os, h.tape.trans hb.tape, h.output.trans hb.output, Nat.le_trans hb.size h.size, fun k hk => (h.low k hk).trans (hb.block k hk)⟩
theorem Turn.marks {b0 : Nat} {Ds : List Nat} (h : Turn base g e A B) (hm : Marks b0 Ds A) : Marks b0 Ds B := ⟨hm.1, fun D hD => ⟨(hm.2 D hD).1, h.obj D _ (hm.2 D hD).2 rfl⟩⟩
theorem Turn.map {b c : Nat} {f : Int → Option Nat} (h : Turn base g e A B) (hm : MapW A b c f) : MapW B b c f := by
  obtain ⟨D, ⟨es, clock, h1, h2⟩, h3⟩ := hm
  exact ⟨D, ⟨es, clock, h.obj _ _ h1 rfl, h2⟩, h3⟩
theorem ownFrom_turn {β : Type} (hb : base ≤ A.heap.size) : OwnFrom A.heap.size (fun (_ : β) W => Turn base g e A W) := fun _ W W' row hs hg hr =>
  ⟨hg.os.trans hs.os, hg.tape.trans hs.tape, hg.output.trans hs.output, Nat.le_trans hs.size hg.size, fun k t cs h h1 h2 => RowL.turned (hs.row k t cs h h1 h2) hg (fun r e => (hr r e).2),
    fun k o hk hn => by
      have hlt := (Array.getElem?_eq_some_iff.1 hk).1
      exact (hg.block k (by have := hs.size; omega) (fun eq => by have := (hr k eq.symm).1; omega)).trans (hs.obj k o hk hn),
    fun k hk => (hg.block k (by have := hs.size; omega) (fun eq => by have := (hr k eq.symm).1; omega)).trans (hs.low k hk)⟩
end
/-- The list so far, in its box. -/
def BadAt (g : Nat) (W : World) (L : List Nat) : Prop := ∃ A1 n1 c1, RowL W g 29 [.slice A1 n1 c1] ∧ W.ownsRow g 30 2 (.slice A1 n1 c1) n1 (flatB L)
theorem BadAt.turned {W W' : World} {g : Nat} {L : List Nat} {row : Option Nat} (h : BadAt g W L) (hg : W.grownBy W' row) (hr : ∀ r, row = some r → ∃ o : Obj, W.heap[r]? = some o ∧ o.isCells = false) : BadAt g W' L := by
  obtain ⟨A1, n1, c1, h1, h2⟩ := h
  exact ⟨A1, n1, c1, h1.turned hg hr, own_owns h2 hg hr⟩
theorem BadAt.on {W W' : World} {g : Nat} {L : List Nat} (h : BadAt g W L) (hb : Below W.heap.size W W') : BadAt g W' L := h.turned (grown_below hb) (fun _ e => by cases e)
/-- One place more. -/
def stepB (ps : List Int) (m : Int) (q : Nat) (L : List Nat) : List Nat := if (decide (ps.getD q 0 ≠ 0) && !cntQ ps m q) = true then L ++ [q] else L
def rowB (ps : List Int) (m : Int) (j : Nat) (L : List Nat) (pre : List (Fin 5)) : List Nat := pre.foldl (fun L x => stepB ps m (5 * j + x.1) L) L
theorem rowB_snoc (ps : List Int) (m : Int) (j : Nat) (L : List Nat) (pre : List (Fin 5)) (x : Fin 5) : rowB ps m j L (pre ++ [x]) = stepB ps m (5 * j + x.1) (rowB ps m j L pre) := by
  unfold rowB
  rw [List.foldl_append]
  rfl
theorem rowB_all (ps : List Int) (m : Int) (j : Nat) : rowB ps m j (badQ ps m (5 * j)) (List.finRange 5) = badQ ps m (5 * (j + 1)) := by
  have e : 5 * (j + 1) = 5 * j + 4 + 1 := by omega
  rw [e, badQ_succ, show 5 * j + 4 = 5 * j + 3 + 1 from rfl, badQ_succ, show 5 * j + 3 = 5 * j + 2 + 1 from rfl, badQ_succ, show 5 * j + 2 = 5 * j + 1 + 1 from rfl, badQ_succ, show 5 * j + 1 = 5 * j + 0 + 1 from rfl, badQ_succ]
  rfl
theorem rowB_len (ps : List Int) (m : Int) (j : Nat) (L : List Nat) (pre : List (Fin 5)) : (rowB ps m j L pre).length ≤ L.length + pre.length := by
  unfold rowB
  induction pre generalizing L with
  | nil => simp
  | cons x r ih =>
    have h1 := ih (stepB ps m (5 * j + x.1) L)
    have h2 : (stepB ps m (5 * j + x.1) L).length ≤ L.length + 1 := by unfold stepB; split <;> simp
    simp only [List.foldl_cons, List.length_cons]
    omega
/-- It counts, just if the map has its place. -/
theorem cnt_map {l : List InoV} {m : Int} {j x : Nat} {y : InoV} (hy : l[j]? = some y) (hx : x < 5) : cntQ (flatP l) m (5 * j + x) = decide (mapF (flatP l) m (flatP l).length (ptr y x) = some (5 * j + x)) := by
  have hp := flatP_ptr hy hx
  rw [Bool.eq_iff_iff, cntQ_own hp, decide_eq_true_eq, mapF_all]
  unfold ownQ
  by_cases h : 1 ≤ ptr y x ∧ ptr y x ≤ m
  · rw [if_pos h, if_pos (by omega), show ptr y x - 1 + 1 = ptr y x from by omega]
  · rw [if_neg h, if_neg (by omega)]
theorem stepB_skip {l : List InoV} {m : Int} {j x : Nat} {y : InoV} {L : List Nat} (hy : l[j]? = some y) (hx : x < 5) (h : ptr y x = 0 ∨ mapF (flatP l) m (flatP l).length (ptr y x) = some (5 * j + x)) : stepB (flatP l) m (5 * j + x) L = L := by
  unfold stepB
  rw [if_neg]
  rw [cnt_map hy hx, List.getD_eq_getElem?_getD, flatP_ptr hy hx]
  rcases h with h | h
  · simp [h]
  · simp [h]
theorem stepB_more {l : List InoV} {m : Int} {j x : Nat} {y : InoV} {L : List Nat} (hy : l[j]? = some y) (hx : x < 5) (h0 : ptr y x ≠ 0) (h : mapF (flatP l) m (flatP l).length (ptr y x) ≠ some (5 * j + x)) : stepB (flatP l) m (5 * j + x) L = L ++ [5 * j + x] := by
  unfold stepB
  rw [if_pos]
  rw [cnt_map hy hx, List.getD_eq_getElem?_getD, flatP_ptr hy hx]
  simp [h, h0]
theorem neq_pl (r : Option Nat) {j x : Nat} (hx : x < 5) {t : Bool} (ht : (!decide (r = some (5 * j + x))) = t) (W : World) : (binOp .neq 41 (.agg #[.int .i64 (ownI r), .int .i64 (ownK r)]) (.agg #[.int .i64 ((j : Int) + 1), .int .i64 x])).run Try.prog W = .ok (.bool t) W := by
  subst ht
  cases r with
  | none =>
    have h : ¬ ((0 : Int) = (j : Int) + 1) := by omega
    simp [ownI, ownK, go_sem, h]
  | some q =>
    by_cases e : q = 5 * j + x
    · subst e
      have := q_parts (i := j) hx
      have e1 : ownI (some (5 * j + x)) = (j : Int) + 1 := by simp only [ownI, this.1]; rfl
      have e2 : ownK (some (5 * j + x)) = (x : Int) := by simp only [ownK, this.2]
      rw [e1, e2]
      simp [go_sem]
    · by_cases h1 : ((q / 5 + 1 : Nat) : Int) = (j : Int) + 1
      · have h2 : ¬ ((q % 5 : Nat) : Int) = (x : Int) := by omega
        have h1' : ((q / 5 : Nat) : Int) = (j : Int) := by omega
        have h2' : ¬ q % 5 = x := by omega
        simp only [ownI, ownK, h1]
        simp [go_sem, e]
        omega
      · simp only [ownI, ownK]
        have h1' : ¬ (((q / 5 : Nat) : Int) + 1 = (j : Int) + 1) := by omega
        simp [go_sem, e]
        omega
theorem wpListIn_appQ {F : Fence} {n : Nat} {ops : Array Oper} {rest : List Oper} {o : Oper} {a : Act} {Q : Exit → Act → World → Prop} (W3 : World) (base B3 : Nat) (hB3 : W3.heap.size = B3) (hg : o.guard = none) (s x : Operand)
    (hop : o.op = Op.call { callee := Callee.builtin Builtin.append, args := #[s, x], argTypes := #[29, 29] }) (A1 : Option Addr) (n1 c1 : Nat) (L1 : List Nat) (y : Nat) (cs : List Value) (hcs : pairC y = cs) (hs : a.eval s = .slice A1 n1 c1) (ho1 : W3.ownsRow base 30 2 (.slice A1 n1 c1) n1 (flatB L1))
    (hx : a.eval x = .slice (some ⟨B3, 0, none⟩) 1 1) (hm : n1 ≤ 1000) (hb : base ≤ W3.heap.size)
    (hK : ∀ A5 c5 W5, W5.ownsRow base 30 2 (.slice A5 (n1 + 1) c5) (n1 + 1) (flatB (L1 ++ [y])) → (W3.alloc (.cells cs.toArray 30)).grownBy W5 (Value.slice A1 n1 c1).ownBlock → wpListIn F n Try.prog ops Q rest (a.put o.dst (.slice A5 (n1 + 1) c5)) W5) :
    wpListIn F n Try.prog ops Q (o :: rest) a (W3.alloc (.cells cs.toArray 30)) := by
  subst hB3
  exact wpListIn_appP W3 base hg s x hop A1 n1 c1 L1 y cs hcs hs ho1 hx hm hb hK
theorem row_apart {W : World} {base e s n g t : Nat} {v : Value} {xs cs : List Value} (ho : W.ownsRow base e s v n xs) (hr : RowL W g t cs) (h : t ≠ e) : some g ≠ v.ownBlock := fun eq => by
  rcases ho.2 with ⟨rfl, _⟩ | ⟨g', cap, cur, rfl, _, hc, _⟩
  · cases eq
  · have : g = g' := Option.some.inj eq
    subst this
    rw [show W.heap[g]? = _ from hr] at hc
    have := Option.some.inj hc
    injection this with _ h' _
    exact h h'
theorem ps_size : ∀ w, (Go.sizeOf 29).run Try.prog w = .ok 1 w := fun w => by kernel_rfl
set_option maxRecDepth 100000 in
set_option maxHeartbeats 1000000 in
theorem Bad_any {A : Option Addr} {n c : Nat} {l : List InoV} {m : Int} (w : World) (h : RdE inoEn w (Under w.heap.size) A n l) (hn : n ≤ 100) : Calls Try.prog 12 #[.slice A n c, .int .i64 m] w (PairRet w (badQ (flatP l) m (5 * n))) := by
  have HLEN := hide h.len
  have H := hide h
  clear h
  obtain ⟨r1, r2, r3⟩ := rows1 w [.slice none 0 0] 29
  have R1 := hide r1
  have R2 := hide r2
  have R3 := hide r3
  clear r1 r2 r3
  refine (callsIn_wide (n := 5)).1 ?_
  refine callsIn_of_wp_marks Try.func12 rfl trivial ?_ rfl
  simp only [Try.ntmps12, List.size_toArray, List.length_cons, List.length_nil, Nat.reduceAdd, Nat.reduceSub, Array.replicate_succ, Array.replicate_zero, List.push_toArray, List.append_toArray, List.nil_append, List.cons_append]
  gi_wp2
  refine ⟨trivial, (callsIn_wide.2 (owners_any _ (H.out.on R2.out) hn)).mono ?_⟩
  rintro e w2 ⟨b, rfl, hb, hmp, hbel⟩
  have hb2 := below_step R2.out hbel
  have hr2 := R1.out.on hbel
  have hs2 := hbel.size
  rw [R3.out] at hs2
  clear R1 R2 R3 hbel hb
  gi_wp2
  obtain ⟨k1, k2, k3⟩ := rows1 w2 [.map (some b)] 46
  obtain ⟨gm, hgm⟩ : ∃ g, w2.heap.size = g := ⟨_, rfl⟩
  have hbgm := hmp.lt
  have hmp3 := hmp.on k2
  have hr3 := hr2.on k2
  have hb3 := below_step hb2 k2
  rw [hgm] at k1 k3 hs2 hbgm ⊢
  obtain ⟨W3, hW3⟩ : ∃ W3, w2.alloc (.cells [Value.map (some b)].toArray 46) = W3 := ⟨_, rfl⟩
  rw [hW3] at k1 k3 hmp3 hr3 hb3
  have hW3' : w2.alloc (.cells #[Value.map (some b)] 46) = W3 := hW3
  rw [hW3']
  have hbad0 : BadAt w.heap.size W3 (badQ (flatP l) m (5 * 0)) := ⟨none, 0, 0, hr3, World.ownsRow_nil _ _ _ _⟩
  clear hW3 hW3' hgm k2 hmp hr2 hb2 hr3 w2
  refine wpIn_loop (fun a' w' => ∃ (j : Nat) (Ds : List Nat) (u1 u2 u3 u4 u7 u8 u9 u10 u11 u12 u13 u14 u18 u19 u20 u21 u22 u23 u24 u25 u26 u27 u28 u29 u30 u31 u32 u33 u34 u35 u36 u37 u38 u39 u40 u41 u42 u43 u44 u45 u46 u47 u48 : Value), j ≤ n ∧ BadAt w.heap.size w' (badQ (flatP l) m (5 * j)) ∧ Below w.heap.size w w' ∧ RowL w' gm 46 [.map (some b)] ∧ MapW w' b (5 * n) (mapF (flatP l) m (5 * n)) ∧ Marks gm Ds w' ∧ a' = { tmps := #[Value.slice A n c, u1, u2, u3, u4, Value.pointer (some ⟨w.heap.size, 0, none⟩), Value.pointer (some ⟨gm, 0, none⟩), u7, u8, u9, u10, u11, u12, u13, u14, Value.slice A n c, Value.int .i64 n, Value.int .i64 j, u18, u19, u20, u21, u22, u23, u24, u25, u26, u27, u28, u29, u30, u31, u32, u33, u34, u35, u36, u37, u38, u39, u40, u41, u42, u43, u44, u45, u46, u47, u48], defers := Ds.map markD }) (fun a' _ => n - (intOf (a'.tmps.getD 17 undef)).toNat) ?_ ?_
  · exact ⟨0, [], _, _, _, _, _, _, _, _, _, _, _, _, _, _, _, _, _, _, _, _, _, _, _, _, _, _, _, _, _, _, _, _, _, _, _, _, _, _, _, _, _, _, _, by omega, hbad0, hb3, k1, hmp3, Marks.none_ _ _, rfl⟩
  rintro a' wr ⟨j, Ds, u1, u2, u3, u4, u7, u8, u9, u10, u11, u12, u13, u14, u18, u19, u20, u21, u22, u23, u24, u25, u26, u27, u28, u29, u30, u31, u32, u33, u34, u35, u36, u37, u38, u39, u40, u41, u42, u43, u44, u45, u46, u47, u48, hj, hbd, hbr, hgr, hmp, hmk, rfl⟩
  clear hb3 k1 hmp3 k3 hbad0 W3
  by_cases hlt : j < n
  · have hjl : j < l.length := by have := HLEN.out; omega
    have hy := List.getElem?_eq_getElem hjl
    generalize l[j] = y at hy
    have HY := hide hy
    obtain ⟨ba, oa, rfl, -, hwf, hcy⟩ := ino_at H.out hbr hy
    have HWF := hide hwf
    have HCY := hide hcy
    have hjt : ((j : Nat) : Int).toNat = j := by omega
    have hgl := hgr.lt
    clear hy hcy hwf
    obtain ⟨b1, b2, b3, b4⟩ := rows2 wr [.int .i64 j] (inoC ino0) 3 39
    have B1 := hide b1
    have B2 := hide b2
    have B3 := hide b3
    have B4 := hide b4
    clear b1 b2 b3 b4
    gi_wp2_with (first | (refine wpListIn_plain rfl fun K2 hK2 => ?_; refine wpIn_loadX 39 (.tmp 20) rfl 10 ino_agg ino_size ba (oa + j * 10) rfl (inoC y) HCY.out rfl ?_; refine hK2 _ _ ?_; clear hK2 K2) | (refine wpListIn_plain rfl fun K2 hK2 => ?_; refine wpIn_storeW 39 (.tmp 8) (.tmp 21) rfl 10 ino_size (wr.heap.size + 1) 39 rfl (inoC ino0) (inoC y) rfl B2.out rfl rfl (inoC_one y) ?_; intro w3 hr3 hg3 hs3; refine hK2 _ _ ?_; clear hK2 K2) | (refine wpListIn_plain rfl fun K2 hK2 => ?_; refine wpIn_loadW 39 (.tmp 8) rfl 10 ino_agg ino_size (wr.heap.size + 1) 39 rfl (inoC y) hr3 rfl ?_; refine hK2 _ _ ?_; clear hK2 K2))
    refine ⟨trivial, (pointers_in Fence.wide _ trivial rfl y _).mono ?_⟩
    rintro e w' ⟨rfl, rfl⟩
    gi_wp2
    have hs4 : w3.heap.size = wr.heap.size + 2 := hs3.trans B4.out
    have hb3 : Below wr.heap.size wr w3 := B3.out.grown hg3 (by rw [B4.out]; omega) (fun k hk => by have := Option.some.inj hk; omega)
    have hi3 : RowL w3 wr.heap.size 3 [.int .i64 j] := B1.out.grown hg3 (fun e => by have := Option.some.inj e; omega)
    have hb4 := below_new hb3 (.cells (inoC y).toArray 39)
    have hi4 := hi3.on (below_new (below_self w3) (.cells (inoC y).toArray 39))
    have hy4 := RowL.new w3 39 (inoC y)
    have hs5 : (w3.alloc (.cells (inoC y).toArray 39)).heap.size = wr.heap.size + 3 := by rw [World.size_alloc, hs4]
    obtain ⟨W4, hW4⟩ : ∃ W4, w3.alloc (.cells (inoC y).toArray 39) = W4 := ⟨_, rfl⟩
    rw [hW4] at hb4 hi4 hy4 hs5 ⊢
    have hy5 : RowL W4 (wr.heap.size + 1 + 1) 39 (inoC y) := by rw [show wr.heap.size + 1 + 1 = w3.heap.size from by rw [hs4]]; exact hy4
    clear hW4 hi3 hb3 hg3 hr3 B1 B2 B3 B4 hy4
    have hq0 := hgr.on hb4
    have hbd4 := hbd.on hb4
    have hmk4 := hmk.on hb4
    have hmp4 := hmp.on hb4
    have hmlt := hmk4.lt
    have hbb : w.heap.size < wr.heap.size := by obtain ⟨_, _, _, h1, _⟩ := hbd; exact h1.lt
    refine wpIn_rangeFunc_ownF rfl (by omega) (gf := 21) (lb := #[.pointer (some ⟨wr.heap.size + 1 + 1, 0, none⟩)]) rfl trivial (enters_of Try.func21 (by kernel_rfl) rfl)
      (pointers1_stops Fence.wide 4 rfl (by omega) (wr.heap.size + 1 + 1) y W4 hy5) kpM_t
      (fun W b o o' hb hw h1 h2 => kpM_below (n := W4.heap.size) (by omega) (belowK_b (Nat.le_refl _) W b o o' hb hw h1 h2)) (Below.refl _ _) (fun _ => rfl)
      (fun pre W => Turn w.heap.size w.heap.size 30 W4 W ∧ BadAt w.heap.size W (rowB (flatP l) m j (badQ (flatP l) m (5 * j)) pre))
      (fun _ _ _ => False)
      (OwnFrom.and (ownFrom_turn (by omega)) (fun s A' B' row hs hg hr => hs.turned hg (fun r e => (hr r e).2)))
      (fun _ _ _ _ _ hs _ _ => hs)
      ⟨Turn.refl _ _ _ _, hbd4⟩
      (fun x => { tmps := #[Value.slice (some ⟨ba, oa, none⟩) n c, u1, u2, u3, u4, Value.pointer (some ⟨w.heap.size, 0, none⟩), Value.pointer (some ⟨gm, 0, none⟩), Value.pointer (some ⟨wr.heap.size, 0, none⟩), Value.pointer (some ⟨wr.heap.size + 1, 0, none⟩), Value.int .i64 (x.1 : Int), Value.int .i64 (ptr y x.1), u11, u12, u13, u14, Value.slice (some ⟨ba, oa, none⟩) n c, Value.int .i64 n, Value.int .i64 j, Value.bool true, Value.int .i64 j, Value.pointer (some ⟨ba, oa + j * 10, none⟩), Value.agg (inoC y).toArray, Value.agg (inoC y).toArray, Value.func (Fn.func 21) #[] #[Value.pointer (some ⟨wr.heap.size + 1 + 1, 0, none⟩)], Value.int .i64 (x.1 : Int), Value.int .i64 (ptr y x.1), u26, u27, u28, u29, u30, u31, u32, u33, u34, u35, u36, u37, u38, u39, u40, u41, u42, u43, u44, u45, u46, u47, u48], defers := [] }) ?assign ?body ?done ?stop
    case assign =>
      intro l' x W K hK
      dsimp only [encK]
      gi_wp2
      exact hK
    case body =>
      rintro l' pre x W ⟨hT, hbw⟩ hpl
      have hx5 := x.2
      have hpw := ptr_wf HWF.out hx5
      have hsw := hT.size
      have hyW := hT.row _ _ _ hy5 (by omega) (by decide)
      have hqW := hT.row _ _ _ hq0 (by omega) (by decide)
      have hiW := hT.row _ _ _ hi4 (by omega) (by decide)
      have hmW := hT.map hmp4
      have hij : W.cell? ⟨wr.heap.size, 0, none⟩ = some (.int .i64 j) := hiW.cell 0
      have hlo : (0 : Int) ≤ (j : Int) + 1 := by omega
      have HSN := hide (rowB_snoc (flatP l) m j (badQ (flatP l) m (5 * j)) pre x)
      have HLL := hide (rowB_len (flatP l) m j (badQ (flatP l) m (5 * j)) pre)
      have HL2 := hide (badQ_len (flatP l) m (5 * j))
      obtain ⟨L, hL⟩ : ∃ L, rowB (flatP l) m j (badQ (flatP l) m (5 * j)) pre = L := ⟨_, rfl⟩
      rw [hL] at hbw HSN HLL
      clear hL
      have hflen : (flatP l).length = 5 * n := by rw [flatP_len, HLEN.out]
      have hbz := below_new (below_self W) (.cells #[.int .i64 ((j : Int) + 1), .int .i64 x.1] 41)
      have hlk := (hmW.on hbz).look0 hpw
      have hz1 : (W.alloc (.cells #[.int .i64 ((j : Int) + 1), .int .i64 x.1] 41)).cell? ⟨gm, 0, none⟩ = some (.map (some b)) := ((hqW.on hbz).cell 0)
      obtain ⟨A1, n1, c1, hbx, how⟩ := hbw
      have hz2 : (W.alloc (.cells #[.int .i64 ((j : Int) + 1), .int .i64 x.1] 41)).cell? ⟨w.heap.size, 0, none⟩ = some (.slice A1 n1 c1) := ((hbx.on hbz).cell 0)
      have HN1 := hide (show n1 ≤ 1000 by have h1 := how.1; rw [flatB_len] at h1; have := HLL.out; have := HL2.out; omega)
      have HBX := hide hbx
      have HOW := hide how
      have HBZ := hide hbz
      have HPC := hide (pairC_at (i := j) hx5)
      obtain ⟨pv, hpv⟩ : ∃ pv, ptr y x.1 = pv := ⟨_, rfl⟩
      have HPV := hide hpv
      rw [hpv] at hpw hlk ⊢
      obtain ⟨r, hr⟩ : ∃ r, mapF (flatP l) m (5 * n) pv = r := ⟨_, rfl⟩
      have HR : Hid (mapF (flatP l) m (flatP l).length (ptr y x.1) = r) := hide (by rw [hflen, hpv]; exact hr)
      rw [hr] at hlk
      have HYW := hide hyW
      have HT := hide hT
      clear hr hpv hbz hbx how hflen hmW hqW hyW hT hpw
      by_cases hz : pv = 0
      · have HST := hide (stepB_skip (m := m) (L := L) HY.out hx5 (.inl (by rw [HPV.out]; exact hz)))
        subst hz
        clear hlk
        gi_wp2
        have hz := HBZ.out
        refine ⟨kBelow hz, kpM_below (n := W.heap.size) (by omega) hz, HT.out.trans (Turn.of_below hz (by omega)), ?_⟩
        rw [HSN.out, HST.out]
        exact BadAt.on ⟨A1, n1, c1, HBX.out, HOW.out⟩ hz
      · have hz3 : (pv != 0) = true := by simpa using hz
        have hz4 : (pv == 0) = false := by simpa using hz
        by_cases hrr : r = some (5 * j + x.1)
        · have HST := hide (stepB_skip (m := m) (L := L) HY.out hx5 (.inr (by rw [HR.out]; exact hrr)))
          have hne := fun W => neq_pl r hx5 (t := false) (by rw [decide_eq_true hrr]; rfl) W
          obtain ⟨oi, hoi⟩ : ∃ oi, ownI r = oi := ⟨_, rfl⟩
          obtain ⟨ok, hok⟩ : ∃ ok, ownK r = ok := ⟨_, rfl⟩
          rw [hoi, hok] at hlk hne
          clear hoi hok hrr hz
          gi_wp2
          have hz := HBZ.out
          refine ⟨kBelow hz, kpM_below (n := W.heap.size) (by omega) hz, HT.out.trans (Turn.of_below hz (by omega)), ?_⟩
          rw [HSN.out, HST.out]
          exact BadAt.on ⟨A1, n1, c1, HBX.out, HOW.out⟩ hz
        · have HST := hide (stepB_more (m := m) (L := L) HY.out hx5 (by rw [HPV.out]; exact hz) (by rw [HR.out]; exact hrr))
          have hne := fun W => neq_pl r hx5 (t := true) (by rw [decide_eq_false hrr]; rfl) W
          obtain ⟨oi, hoi⟩ : ∃ oi, ownI r = oi := ⟨_, rfl⟩
          obtain ⟨ok, hok⟩ : ∃ ok, ownK r = ok := ⟨_, rfl⟩
          rw [hoi, hok] at hlk hne
          clear hoi hok hrr hz
          gi_wp2_with (first | (gi_at_builtin; go_loud (refine wpListIn_appQ _ w.heap.size (W.heap.size + 1) (by simp) rfl (.tmp 39) (.tmp 45) rfl A1 n1 c1 L (5 * j + x.1) _ HPC.out rfl (ownsRow_below HOW.out HBZ.out) rfl HN1.out (by have := HBZ.out.size; omega) ?_; intro A5 c5 W5 ho5 hg5; have HO5 := hide ho5; have HG5 := hide hg5; clear ho5 hg5)) | (refine wpListIn_plain rfl fun K2 hK2 => ?_; refine wpIn_storeV 29 (.tmp 5) (.tmp 46) rfl ps_size w.heap.size 29 rfl (.slice A5 (n1 + 1) c5) rfl rfl rfl (.slice A1 n1 c1) (((HBX.out.on HBZ.out).on (below_new (below_self _) _)).grown HG5.out (row_apart HOW.out HBX.out (by decide))) ?_; intro W6 hr6 hg6; refine hK2 _ _ ?_; clear hK2 K2; have HR6 := hide hr6; have HG6 := hide hg6; clear hr6 hg6))
          have hz := HBZ.out
          have hz' := hz.size
          have hl := below_new (below_self (W.alloc (.cells #[.int .i64 ((j : Int) + 1), .int .i64 x.1] 41))) (.cells #[.int .i64 ((j : Int) + 1), .int .i64 x.1] 30)
          have ho2 := (ownsRow_below HOW.out hz).alloc (.cells #[.int .i64 ((j : Int) + 1), .int .i64 x.1] 30)
          have hr5 := ((HBX.out.on hz).on hl).grown HG5.out (row_apart HOW.out HBX.out (by decide))
          have hT7 : Turn w.heap.size w.heap.size 30 W W6 := (((Turn.of_below hz (by omega)).trans (Turn.of_below hl (by omega))).trans (Turn.app ho2 HG5.out (by rw [World.size_alloc]; omega))).trans (Turn.store hr5 HG6.out (Nat.le_refl _))
          have hy7 := hT7.row _ _ _ HYW.out (by omega) (by decide)
          refine ⟨hT7.keeps, Eq.trans hy7 (Eq.symm HYW.out), HT.out.trans hT7, ?_⟩
          rw [HSN.out, HST.out]
          refine ⟨A5, n1 + 1, c5, HR6.out, HO5.out.kept HG6.out (.inr fun e => ?_)⟩
          exact row_apart HO5.out hr5 (by decide) e.symm
    case done =>
      rintro D ys W hD rfl ⟨hT, hbw⟩ hK
      have hsw := hT.size
      have hz0 := hT.row _ _ _ hq0 (by omega) (by decide)
      have hz1 := hT.map hmp4
      have hbw0 : Below w.heap.size w W := hT.below (below_step hbr hb4)
      have hmk5 : Marks gm (D :: Ds) W := (hT.marks hmk4).more (fun D' h' => by have := hmlt D' h'; omega) (by omega) hK
      rw [rowB_all] at hbw
      clear hT hq0 hi4 hb4 hmk4 hmlt hmk hgr hbr hmp4 hmp hbd hbd4
      gi_wp2
      exact ⟨⟨j + 1, D :: Ds, _, _, _, _, _, _, _, _, _, _, _, _, _, _, _, _, _, _, _, _, _, _, _, _, _, _, _, _, _, _, _, _, _, _, _, _, _, _, _, _, _, _, _, by omega, hbw, hbw0, hz0, hz1, hmk5, rfl⟩, by simp [intOf]; omega⟩
    case stop =>
      rintro D c pre W _ _ h _
      exact h.elim
  · obtain rfl : j = n := by omega
    obtain ⟨A1, n1, c1, hbx, how⟩ := hbd
    have hcb : wr.cell? ⟨w.heap.size, 0, none⟩ = some (.slice A1 n1 c1) := hbx.cell 0
    have HBX := hide hbx
    clear hbx
    gi_wp2
    refine leaves_marks Ds _ hmk ?_
    intro W' hu
    refine ⟨.slice A1 n1 c1, by simp [results, Try.results12, go_sem], A1, n1, c1, rfl, ?_, hu.under hmk (by have := HBX.out.lt; omega) hbr⟩
    refine ⟨how.1, ?_⟩
    rcases how.2 with h0 | ⟨g, cap, cur, h1, h2, h3, h4⟩
    · exact .inl h0
    · exact .inr ⟨g, cap, cur, h1, h2, (hu.2.2.2.2 g (hmk.notin h3 (fun x e => by cases e))).trans h3, h4⟩
end Go.Proofs.Ytnllbdigpnopoaa
