/- The contract of the program's dev Write. -/
import Derived.Test.YtnjmddmiebofeaaDevF
import Derived.Great.FillDense
import Derived.Great.BuildSlice
import Derived.Laws.Cover3
namespace Go.Proofs.Ytnjmddmiebofeaa
open Go.RowKit Plain

theorem exec_loadC {P : Program} {w : World} {o : Oper} {a : Act} (T : Nat) (x : Operand) (ho : o.op = .load T x) (k : Nat) (hag : ∀ w, (isAgg T).run P w = .ok true w) (hsz : ∀ w, (sizeOf T).run P w = .ok k w) (g off t : Nat) (hx : a.eval x = .pointer (some ⟨g, off, none⟩)) (cur cs : List Value) (h : RowL w g t cur) (hc : (cur.drop off).take k = cs) (hk : cs.length = k) :
    (execOp a.eval o).run P w = .ok (.value (.agg cs.toArray)) w := by
  have hr := run_loadAt_row (P := P) hag hsz h hc hk
  unfold execOp
  simp only [ho, Sem.run_bind, Sem.run_pure, Result.andThen_ok, hx, hr]
theorem fill_wrt {p : Int × List UInt8} {Z : Array Value} (hx : p.2.length = 64) (hzl : Z.size = 65) : Instr.fill (#[((0 : Nat), (1 : Nat)), (1, 64)][·]?) Z [(0, .int .i64 p.1), (1, .agg (bvs p.2).toArray)] = some (wcell p).toArray := by
  obtain ⟨g1, g2⟩ := Great.foldl_set 1 (bvs p.2) 0 (Z.setIfInBounds 0 (.int .i64 p.1))
  have e : (bvs p.2).zipIdx.foldl (fun cs (x : Value × Nat) => cs.setIfInBounds (1 + x.2) x.1) (Z.setIfInBounds 0 (.int .i64 p.1)) = (wcell p).toArray := by
    apply Array.ext_getElem?
    intro k
    rw [g2 k]
    simp only [Array.size_setIfInBounds, hzl, bvs_length, hx]
    cases k with
    | zero => simp [wcell, hzl]
    | succ k =>
      by_cases hk : k < 64
      · rw [if_pos (by omega)]
        simp [wcell]
      · rw [if_neg (by omega)]
        rw [Array.getElem?_eq_none (by simp [hzl]; omega), Array.getElem?_eq_none (by simp [wcell, bvs_length, hx]; omega)]
  clear g1 g2
  have e2 : ∀ (A : Array Value), (bvs p.2).toArray.zipIdx.foldl (fun cs (x : Value × Nat) => cs.setIfInBounds (1 + x.2) x.1) A = (bvs p.2).zipIdx.foldl (fun cs (x : Value × Nat) => cs.setIfInBounds (1 + x.2) x.1) A := fun A => by
    rw [← Array.foldl_toList, Array.toList_zipIdx]
  simp [Instr.fill, Value.cells, hzl, bvs_length, hx]
  rw [← e, ← e2]
theorem build_wrt {p : Int × List UInt8} (hx : p.2.length = 64) (W : World) : (Instr.build 90 #[(0, .int .i64 p.1), (1, .agg (bvs p.2).toArray)]).run Try.prog W = .ok (.agg (wcell p).toArray) W := by
  refine run_build W _ _ _ ?_
  obtain ⟨it, hi, hz, -, -⟩ := info_parts wrt_info
  unfold Program.built
  simp only [hi, Try.underlying90, hz]
  rw [show (([_, _] : List Field).mapM (fun f => (Try.prog.info? f.type).map fun i => (f.offset, i.size))) = some [((0 : Nat), (1 : Nat)), (1, 64)] from by kernel_rfl]
  exact fill_wrt hx (by decide)
theorem wpList_build2 {P : Program} {w : World} {ops : Array Oper} {rest : List Oper} {o : Oper} {a : Act} {Q : Exit → Act → World → Prop} (hgd : o.guard = none) (t i j : Nat) (x y : Operand) (ho : o.op = .build t #[(i, x), (j, y)]) (vx vy v : Value) (hx : a.eval x = vx) (hy : a.eval y = vy) (hr : (Instr.build t #[(i, vx), (j, vy)]).run P w = .ok v w)
    (hK : wpList P ops Q rest (a.put o.dst v) w) : wpList P ops Q (o :: rest) a w := by
  refine wpList_plain hgd fun K hK' => ?_
  unfold Oper.wp execOp
  simp only [ho, List.map_toArray, List.map_cons, List.map_nil, hx, hy, Sem.run_bind, Sem.run_pure, Result.andThen_ok, hr]
  exact hK' _ _ hK
theorem wp_lit1 {P : Program} {w w' : World} {o : Oper} {a : Act} {K : Act → World → Prop} {Q : Exit → Act → World → Prop} (t : Nat) (x : Operand) (ho : o.op = .buildSlice t 1 #[(0, x)]) (vx v : Value) (hx : a.eval x = vx) (hr : (Instr.buildSlice t 1 #[(0, vx)]).run P w = .ok v w')
    (hK : K (a.put o.dst v) w') : o.wp P a w K Q := by
  unfold Oper.wp execOp
  simp only [ho, List.map_toArray, List.map_cons, List.map_nil, hx, Sem.run_bind, Sem.run_pure, Result.andThen_ok, hr]
  exact hK
theorem lit_wrt {p : Int × List UInt8} (hx : p.2.length = 64) (W : World) : (Instr.buildSlice 77 1 #[(0, .agg (wcell p).toArray)]).run Try.prog W = .ok (.slice (some ⟨W.heap.size, 0, none⟩) 1 1) (W.alloc (.cells (wcell p).toArray 90)) := by
  obtain ⟨it, hi, hz, hsz, -⟩ := info_parts wrt_info
  have hzl : zwrt.cells.size = 65 := by decide
  refine run_buildSlice W _ 90 1 _ _ it zwrt Try.underlying77 hi hz (by omega) (by omega) ?_
  rw [hsz]
  have := Great.fill_whole (s := 65) (by omega) [.agg (wcell p).toArray] ((Array.range (1 * 65)).map (zwrt.cells[· % zwrt.cells.size]!)) (by intro v hv; rw [List.mem_singleton] at hv; subst hv; simp [Value.cells, wcell_len hx]) (by simp)
  simpa [Value.cells] using this
theorem flat64_set {l : List (List UInt8)} {i : Nat} {x : List UInt8} (h : ∀ s ∈ l, s.length = 64) (hx : x.length = 64) (hi : i < l.length) : (l.set i x).flatten = splice l.flatten (i * 64) x := by
  induction l generalizing i with
  | nil => simp at hi
  | cons s r ih =>
    have hs : s.length = 64 := h s (by simp)
    cases i with
    | zero =>
      simp only [List.set_cons_zero, List.flatten_cons, Nat.zero_mul]
      unfold splice
      rw [List.take_zero, List.nil_append, hx, Nat.zero_add, ← hs, List.drop_left]
    | succ i =>
      have hir := ih (i := i) (fun s hs => h s (by simp [hs])) (by simpa using hi)
      have e1 : s.take ((i + 1) * 64) = s := List.take_of_length_le (by omega)
      have e2 : s.drop ((i + 1) * 64 + x.length) = [] := List.drop_eq_nil_of_le (by omega)
      have e3 : (i + 1) * 64 - s.length = i * 64 := by omega
      have e4 : (i + 1) * 64 + x.length - s.length = i * 64 + x.length := by omega
      simp only [List.set_cons_succ, List.flatten_cons]
      rw [hir]
      unfold splice
      rw [List.take_append, List.drop_append, e1, e2, e3, e4]
      simp
theorem set_all {l : List (List UInt8)} {i : Nat} {x : List UInt8} (h : ∀ s ∈ l, s.length = 64) (hx : x.length = 64) : ∀ s ∈ l.set i x, s.length = 64 := fun s hs => by
  rcases List.mem_or_eq_of_mem_set hs with h1 | h1
  · exact h s h1
  · rw [h1]; exact hx
/-- A sector of a row is stored. -/
theorem SecR.store {w w' : World} {base g n c i : Nat} {l : List (List UInt8)} {x : List UInt8} {cs : List Value} (h : SecR w base g n c l) (hr : RowL w g 76 cs) (hi : i < n) (hx : x.length = 64) (hr' : RowL w' g 76 (splice cs (i * 64) (bvs x))) : SecR w' base g n c (l.set i x) := by
  obtain ⟨h1, h2, h3, h4, h5, cs', h6, h7, h8⟩ := h
  have e : cs' = cs := by
    have := h6.symm.trans hr
    simpa [RowL] using this
  subst e
  refine ⟨h1, h2, h3, by rw [List.length_set]; exact h4, set_all h5 hx, _, hr', ?_, ?_⟩
  · rw [length_splice _ _ _ (by rw [bvs_length]; omega)]
    exact h7
  · rw [take_splice _ _ _ _ (by rw [bvs_length]; omega) (by omega), h8, ← bvs_splice, flat64_set h5 hx (by omega)]
theorem SecR.row {w : World} {base g n c : Nat} {l : List (List UInt8)} (h : SecR w base g n c l) : ∃ cs, RowL w g 76 cs ∧ cs.length = 64 * c := by
  obtain ⟨_, _, _, _, _, cs, h6, h7, _⟩ := h
  exact ⟨cs, h6, h7⟩
theorem ownsRow_other {w w' : World} {base e size n g t : Nat} {v : Value} {xs k : List Value} (h : w.ownsRow base e size v n xs) (hg : w.grownBy w' (some g)) (hr : RowL w g t k) (hne : e ≠ t) : w'.ownsRow base e size v n xs :=
  ownsRow_keep h fun b cs hb => hg.block b hb.lt (fun e' => by cases e'; exact RowL.ne hb hr hne rfl)
theorem SecR.other {w w' : World} {base g n c g' t : Nat} {l : List (List UInt8)} {k : List Value} (h : SecR w base g n c l) (hg : w.grownBy w' (some g')) (hr : RowL w g' t k) (hne : 76 ≠ t) : SecR w' base g n c l := by
  obtain ⟨cs, h6, _⟩ := h.row
  exact h.keep (hg.block g h6.lt (fun e' => by cases e'; exact RowL.ne h6 hr hne rfl))
theorem SecR.apart {w w' : World} {base g n c g' : Nat} {l : List (List UInt8)} (h : SecR w base g n c l) (hg : w.grownBy w' (some g')) (hne : g ≠ g') : SecR w' base g n c l := h.keep (hg.block g h.lt (fun e' => hne (by cases e'; rfl)))

theorem RowL.other {w w' : World} {g t g' t' : Nat} {cs k : List Value} (h : RowL w g t cs) (hg : w.grownBy w' (some g')) (hr : RowL w g' t' k) (hne : t ≠ t') : RowL w' g t cs := h.grown hg (fun e => by cases e; exact RowL.ne h hr hne rfl)
theorem grown_drew {w w' : World} {r : Option Nat} (h : w.drew.grownBy w' r) : w.grownBy w' r := ⟨h.os, h.tape, h.output, h.size, h.block⟩
theorem SecR.base {w : World} {base g n c : Nat} {l : List (List UInt8)} (h : SecR w base g n c l) : base ≤ g := h.1
theorem own_block {w : World} {base e size n : Nat} {v : Value} {xs : List Value} (h : w.ownsRow base e size v n xs) {g : Nat} (hb : v.ownBlock = some g) : base ≤ g ∧ ∃ cs, RowL w g e cs := by
  rcases h.2 with ⟨rfl, _⟩ | ⟨g', cap, cur, rfl, h2, h3, _⟩
  · cases hb
  · cases hb
    exact ⟨h2, cur.toList, by simpa [RowL] using h3⟩
theorem own_other {w w' : World} {base e size n : Nat} {v : Value} {xs : List Value} (h : w.ownsRow base e size v n xs) (hg : w.grownBy w' v.ownBlock) {g t : Nat} {cs : List Value} (hr : RowL w g t cs) (hne : t ≠ e) : RowL w' g t cs :=
  hr.grown hg fun eq => by
    obtain ⟨_, k, hk⟩ := own_block h eq.symm
    exact RowL.ne hr hk hne rfl
theorem DFr.of_own {w w' : World} {base e size n : Nat} {v : Value} {xs : List Value} (h : w.ownsRow base e size v n xs) (hg : w.grownBy w' v.ownBlock) (ht : e = 76 ∨ e = 79 ∨ e = 90) : DFr base w w' :=
  ⟨hg.os, hg.tape, hg.output, hg.size, fun b hb => hg.block b hb.1 fun eq => by
    obtain ⟨hb1, k, hk⟩ := own_block h eq.symm
    exact hb.2.elim (fun hlt => by omega) (fun hn => hn ⟨_, _, _, hk, ht⟩)⟩
theorem SecR.of_row {w w' : World} {base g n c : Nat} {l : List (List UInt8)} (h : SecR w base g n c l) (hr : ∀ cs, RowL w g 76 cs → RowL w' g 76 cs) : SecR w' base g n c l := by
  obtain ⟨h1, h2, h3, h4, h5, cs, h6, h7, h8⟩ := h
  exact ⟨h1, h2, h3, h4, h5, cs, hr cs h6, h7, h8⟩
theorem own_form {w : World} {base e size n : Nat} {v : Value} {xs : List Value} (h : w.ownsRow base e size v (n + 1) xs) : ∃ g c, v = .slice (some ⟨g, 0, none⟩) (n + 1) c := by
  rcases h.2 with ⟨_, h0⟩ | ⟨g', cap, cur, h1, _⟩
  · omega
  · exact ⟨g', cap, h1⟩
/-- What a step of the program's disk comes to. -/
def StepRet (base : Nat) (w : World) (dp : Nat) (s : DSt) (k : Int) (x : Ending) (w' : World) : Prop := x = .returned (.int .i64 k) ∧ DK w' base dp s ∧ DFr base w w'
def drawn (s : DSt) : DSt := { s with left := leftD s.armed s.left }
def dark (s : DSt) : DSt := { s with off := true }
def writeD (s : DSt) (i : Nat) (x : List UInt8) : DSt := { s with last := s.last.set i x, wait := s.wait ++ [((i : Int), x)], left := leftD s.armed s.left, wr := s.wr + 1 }
set_option maxRecDepth 100000 in
set_option maxHeartbeats 3200000 in
theorem DWrite_range {w : World} {base dp m k : Nat} {s : DSt} {i : Int} {B : Option Addr} (h : DK w base dp s) (hi : i < 0 ∨ (s.safe.length : Int) ≤ i) :
    Calls Try.prog 42 #[dptr dp, .int .i64 i, .slice B m k] w (StepRet base w dp s 3) := by
  have HK := hide h
  obtain ⟨safe, last, wait, armed, off, left, wn, fl⟩ := s
  obtain ⟨gs, cs, gl, cl, A, c, hne, hbd, hr, hs, hl, hw⟩ := h
  simp only [dcells] at hr hs hl hw
  dsimp only at hi
  have HR := hide hr
  have HI := hide hi
  clear hs hl hw hr hi
  go_enter Try.func42, Try.ntmps42
  go_wp2_with fail
  refine (DReach_no HR.out HI.out).mono ?_
  rintro e w' ⟨rfl, rfl⟩
  go_wp2_with fail
  go_ret
  exact ⟨rfl, HK.out, DFr.refl _ _⟩
set_option maxRecDepth 100000 in
set_option maxHeartbeats 3200000 in
theorem DWrite_arg {w : World} {base dp m k : Nat} {s : DSt} {i : Int} {B : Option Addr} (h : DK w base dp s) (h0 : 0 ≤ i) (hi : i < (s.safe.length : Int)) (hm : m ≠ 64) :
    Calls Try.prog 42 #[dptr dp, .int .i64 i, .slice B m k] w (StepRet base w dp s 1) := by
  have HK := hide h
  obtain ⟨safe, last, wait, armed, off, left, wn, fl⟩ := s
  obtain ⟨gs, cs, gl, cl, A, c, hne, hbd, hr, hs, hl, hw⟩ := h
  simp only [dcells] at hr hs hl hw
  dsimp only at hi
  have hd : ((m : Int) != 64) = true := by simp; omega
  have HR := hide hr
  have HI := hide hi
  clear hs hl hw hr hi hm
  go_enter Try.func42, Try.ntmps42
  go_wp2_with fail
  refine (DReach_ok HR.out h0 HI.out).mono ?_
  rintro e w' ⟨rfl, rfl⟩
  go_wp2_with fail
  go_ret
  exact ⟨rfl, HK.out, DFr.refl _ _⟩
set_option maxRecDepth 100000 in
set_option maxHeartbeats 3200000 in
theorem DWrite_dark {w : World} {base dp k : Nat} {s : DSt} {i : Int} {B : Option Addr} (h : DK w base dp s) (h0 : 0 ≤ i) (hi : i < (s.safe.length : Int)) (hf : fails s.armed s.off s.left = true) :
    Calls Try.prog 42 #[dptr dp, .int .i64 i, .slice B 64 k] w (StepRet base w dp (dark s) 4) := by
  obtain ⟨safe, last, wait, armed, off, left, wn, fl⟩ := s
  obtain ⟨gs, cs, gl, cl, A, c, hne, hbd, hr, hs, hl, hw⟩ := h
  simp only [dcells] at hr hs hl hw
  dsimp only at hi hf
  have HR := hide hr
  have HI := hide hi
  have HF := hide hf
  have HH : Hid (∀ w', w.grownBy w' (some dp) → RowL w' dp 79 (dcells gs cs gl cl A c ⟨safe, last, wait, armed, true, left, wn, fl⟩) → DK w' base dp (dark ⟨safe, last, wait, armed, off, left, wn, fl⟩)) := hide fun w' hg hr' => DK.head (s := dark ⟨safe, last, wait, armed, off, left, wn, fl⟩) hne hbd hs hl hw hr hg hr'
  have HD := hide hbd
  clear hs hl hw hr hi hf hbd hne
  go_enter Try.func42, Try.ntmps42
  go_wp2_with fail
  refine (DReach_ok HR.out h0 HI.out).mono ?_
  rintro e w' ⟨rfl, rfl⟩
  go_wp2_with fail
  refine (DDraw_no HR.out HF.out).mono ?_
  rintro e w1 ⟨rfl, hr1, hg1, hz1⟩
  have HK1 := hide (HH.out w1 hg1 hr1)
  have HF1 := hide (DFr.of_grown (base := base) hg1 HD.out HR.out (.inr (.inl rfl)))
  clear hr1 hg1 hz1
  go_wp2_with fail
  go_ret
  exact ⟨rfl, HK1.out, HF1.out⟩
end Go.Proofs.Ytnjmddmiebofeaa
