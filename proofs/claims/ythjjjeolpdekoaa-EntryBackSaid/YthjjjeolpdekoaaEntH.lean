/- entry.Block (layer 8). -/
import Derived.Test.YthjjjeolpdekoaaEntF
import Derived.Test.YthjjjeolpdekoaaEntG
import Derived.Test.YthjjjeolpdekoaaMemD
import Derived.RangeFuncFrom
namespace Go.Proofs.Ythjjjeolpdekoaa
open Go.RowKit Go.Shelf Plain
attribute [local go_sem] Oper.semAt_some

theorem make64 : ∃ Z : Array Value, (∀ w : World, (Instr.makeSlice 24 (.int .i64 64) (.int .i64 64)).run Try.prog w = .ok (.slice (some ⟨w.heap.size, 0, none⟩) 64 64) (w.alloc (.cells Z 5))) ∧ Z.toList = bvs (zeros 64) := by
  obtain ⟨i, hi, hz, hsz, hby⟩ := info_parts info_u8
  refine ⟨madeCells (Value.int .u8 0).cells ((64 : Int).toNat * i.size), fun w => run_make w _ _ i _ Try.underlying24 hi hz .i64 .i64 64 64 (by omega) (by omega) (by rw [hby]; omega) (by omega), ?_⟩
  rw [hsz, show (Value.int .u8 0).cells = #[Value.int .u8 0] from rfl, toList_madeCells_one]
  simp [bvs, zeros, bv]
/-- entry.parts: both parameters are boxed; the function value captures the boxes. -/
theorem parts_in (F : Fence) (n : Nat) (h63 : F.fn 51) (hro : F.round = none) (A : Option Addr) (m c : Nat) (k : Int) (w : World) :
    CallsIn F n Try.prog 51 #[.slice A m c, .int .i64 k] w fun e w' => e = .returned (.func (.func 78) #[] #[.pointer (some ⟨w.heap.size, 0, none⟩), .pointer (some ⟨w.heap.size + 1, 0, none⟩)]) ∧ w' = (w.alloc (.cells #[.slice A m c] 24)).alloc (.cells #[.int .i64 k] 3) := by
  refine callsIn_of_wp Try.func51 rfl h63 ?_ hro
  simp only [Try.ntmps51, List.size_toArray, List.length_cons, List.length_nil, Nat.reduceAdd, Nat.reduceSub, Array.replicate_succ, Array.replicate_zero, List.push_toArray, List.append_toArray, List.nil_append, List.cons_append]
  gi_wp2
  refine bodyPost_ret (v := .func (.func 78) #[] #[.pointer (some ⟨w.heap.size, 0, none⟩), .pointer (some ⟨w.heap.size + 1, 0, none⟩)]) (by simp [results, Try.results51, go_sem]) rfl ⟨rfl, rfl⟩

/-- copy into a row from some place on, inside a fence. -/
theorem wpIn_copyAt {F : Fence} {n : Nat} {P : Program} {w : World} {o : Oper} {a : Act} {K : Act → World → Prop} {Q : Exit → Act → World → Prop} (d s : Operand) (dT sT : TypeId)
    (ho : o.op = .call { callee := .builtin .copy, args := #[d, s], argTypes := #[dT, sT] }) (elem : TypeId) (hu : P.underlying dT = some (.slice elem)) (hsz : (P.info? elem).map (·.size) = some 1)
    (g off N dCap : Nat) (hd : a.eval d = .slice (some ⟨g, off, none⟩) N dCap) (cur : List Value) (t : TypeId) (hr : RowL w g t cur)
    (A : Option Addr) (m c : Nat) (hs : a.eval s = .slice A m c) (BB : Nat) (l : List UInt8) (hbs : Bs w BB A m l) (hmN : m ≤ N) (hcur : off + m ≤ cur.length)
    (h : ∀ w', RowL w' g t (splice cur off (bvs l)) → w.grownBy w' (some g) → K (a.put o.dst (goInt m)) w') : o.wpIn F n P a w K Q := by
  have hlen : (bvs l).length = m := by rw [bvs_length]; exact hbs.1
  unfold Oper.wpIn
  refine ⟨by simp [Oper.about, ho, resolve, Target.leads, Sem.run_pure], ?_⟩
  rw [Oper.semAt_plain F _ _ (by rw [ho]; intro c hc'; cases hc')]
  by_cases hm : m = 0
  · have hl0 : l = [] := List.eq_nil_of_length_eq_zero (by rw [hbs.1, hm])
    subst hl0
    have hrun := run_copy_none (P := P) w dT sT o.type elem (some ⟨g, off, none⟩) A N dCap m c hu hsz (by rw [hm]; exact Nat.zero_min _)
    simp [execOp, ho, resolve, invoke, builtin, hs, hd, hrun, Result.andThen]
    rw [hm] at h
    exact h w (by rw [show bvs [] = [] from rfl, splice_nil]; exact hr) ⟨rfl, rfl, rfl, Nat.le_refl _, fun _ _ _ => rfl⟩
  · obtain ⟨b, o', e, _, hc⟩ := hbs.2 (by omega)
    subst e
    have hrun := run_copy_row (P := P) w dT sT o.type elem g off N dCap ⟨b, o', none⟩ m c cur.toArray t (bvs l) hu hsz hr (by rw [hlen]; exact (Nat.min_eq_left hmN).symm) (fun j u hu => by
      obtain ⟨x, hx, rfl⟩ := bvs_of_get hu
      rw [← hc j x hx]
      congr 1
      unfold Addr.add
      split
      · rename_i h0; subst h0; rfl
      · rfl) (by rw [hlen]; simpa using hcur) (bvs_one _)
    have hgb := grownBy_setRow w g (cur.take off ++ bvs l ++ cur.drop (off + (bvs l).length)).toArray
    have hrow := hr.setRow_ (cur.take off ++ bvs l ++ cur.drop (off + (bvs l).length))
    simp only [execOp, ho, resolve, invoke, builtin, Sem.run_bind, Sem.run_pure, Result.andThen_ok, List.map_toArray, List.map_cons, List.map_nil, hd, hs, hrun]
    rw [hlen]
    rw [hlen] at hgb hrow
    refine h _ (by unfold splice; rw [hlen]; try rw [← List.append_assoc]; exact hrow) hgb

/-- The block after these slots. -/
def blkS (l : List EntV) (k : Int) (pre : List (Fin 4)) : List UInt8 := pre.foldl (fun bs j => splice bs (16 * j.1) (firstS (k * 4 + (j.1 : Int)) l)) (zeros 64)
theorem blkS_snoc (l : List EntV) (k : Int) (pre : List (Fin 4)) (j : Fin 4) : blkS l k (pre ++ [j]) = splice (blkS l k pre) (16 * j.1) (firstS (k * 4 + (j.1 : Int)) l) := by
  unfold blkS
  rw [List.foldl_append]
  rfl
theorem firstS_len (l : List EntV) (slot : Int) : (firstS slot l).length = 0 ∨ (firstS slot l).length = 16 := by
  induction l with
  | nil => exact .inl rfl
  | cons x r ih =>
    show (if _ then _ else _ : List UInt8).length = 0 ∨ (if _ then _ else _ : List UInt8).length = 16
    split
    · rename_i h
      right
      exact putE_len (by simp at h; exact h.2)
    · exact ih
theorem blkS_len (l : List EntV) (k : Int) (pre : List (Fin 4)) : (blkS l k pre).length = 64 := by
  unfold blkS
  generalize hz : zeros 64 = z
  have h64 : z.length = 64 := by rw [← hz]; exact zeros_length 64
  clear hz
  induction pre generalizing z with
  | nil => exact h64
  | cons j r ih =>
    refine ih _ ?_
    have h1 := firstS_len l (k * 4 + (j.1 : Int))
    have h2 := j.2
    show (splice z (16 * j.1) (firstS (k * 4 + (j.1 : Int)) l)).length = 64
    unfold splice
    simp only [List.length_append, List.length_take, List.length_drop]
    omega
theorem own_row {β : Type} (g t : Nat) (f : β → List Value)  : Go.Own (fun (s : β) W => RowL W g t (f s)) := fun s A B row hs hg hr => hs.grown hg (fun e => by
  obtain ⟨o, ho, hc⟩ := hr g e.symm
  rw [show A.heap[g]? = _ from hs] at ho
  cases Option.some.inj ho
  cases hc)
theorem rows4 (w : World) (c1 c2 c3 c4 : List Value) (t1 t2 t3 t4 : Nat) : ∃ W : World, W = (((w.alloc (.cells c1.toArray t1)).alloc (.cells c2.toArray t2)).alloc (.cells c3.toArray t3)).alloc (.cells c4.toArray t4) ∧
    RowL W w.heap.size t1 c1 ∧ RowL W (w.heap.size + 1) t2 c2 ∧ RowL W (w.heap.size + 1 + 1) t3 c3 ∧ RowL W (w.heap.size + 1 + 1 + 1) t4 c4 ∧ Below w.heap.size w W ∧ W.heap.size = w.heap.size + 4 := by
  obtain ⟨h1, h2, h3, hb, hs⟩ := rows3 w c1 c2 c3 t1 t2 t3
  have hal := below_new (below_self (((w.alloc (.cells c1.toArray t1)).alloc (.cells c2.toArray t2)).alloc (.cells c3.toArray t3))) (.cells c4.toArray t4)
  have hn := RowL.new (((w.alloc (.cells c1.toArray t1)).alloc (.cells c2.toArray t2)).alloc (.cells c3.toArray t3)) t4 c4
  rw [hs] at hn
  exact ⟨_, rfl, h1.on hal, h2.on hal, h3.on hal, hn, below_step hb hal, by rw [World.size_alloc, hs]⟩
theorem kpB_t {m1 m2 : Nat} {A B C : World} (h : KpB m1 m2 A B) (k : KpB m1 m2 B C) : KpB m1 m2 A C := ⟨k.1.trans h.1, k.2.trans h.2⟩
theorem kpB_below {m1 m2 n : Nat} {A B : World} (h1 : m1 < n) (h2 : m2 < n) (h : Below n A B) : KpB m1 m2 A B := ⟨h.cell (p := ⟨m1, 0, none⟩) h1, h.cell (p := ⟨m2, 0, none⟩) h2⟩
theorem kpB_grown {m1 m2 g : Nat} {A B : World} (h1 : m1 < A.heap.size) (h2 : m2 < A.heap.size) (n1 : m1 ≠ g) (n2 : m2 ≠ g) (h : A.grownBy B (some g)) : KpB m1 m2 A B := by
  have e1 := h.block m1 h1 (fun e => n1 (Option.some.inj e))
  have e2 := h.block m2 h2 (fun e => n2 (Option.some.inj e))
  exact ⟨by simp [World.cell?, e1], by simp [World.cell?, e2]⟩
theorem keeps_row {A B : World} {g t : Nat} {cs : List Value} (hr : RowL A g t cs) (h : A.grownBy B (some g)) : KeepsOthers A B := KeepsOthers.of_grownBy h (fun j o e hj => by
  have e1 := Option.some.inj e
  subst e1
  rw [show A.heap[g]? = _ from hr] at hj
  have e2 := Option.some.inj hj
  subst e2
  rfl)
theorem keeps_below {A B : World} (h : Below A.heap.size A B) : KeepsOthers A B := ⟨h.size, fun i _ hi _ => (h.block i (Array.getElem?_eq_some_iff.1 hi).1).trans hi⟩
set_option maxRecDepth 100000 in
set_option maxHeartbeats 2000000 in
theorem Block_any {A : Option Addr} {n c : Nat} {l : List EntV} {k : Int} (w : World) (h : RdE entEn w (Under w.heap.size) A n l) (hsh : Short l) (hk0 : 0 ≤ k) (hk4 : k < 4) (hn : n ≤ 140737488355328) : Calls Try.prog 17 #[.slice A n c, .int .i64 k] w (BRet w 5 64 (blkS l k (List.finRange 4))) := by
  obtain ⟨Z, hZ, hzl⟩ := make64
  have HZL := hide hzl
  have H := hide h
  have HSH := hide hsh
  clear hzl h hsh
  refine (callsIn_wide (n := 3)).1 ?_
  refine callsIn_of_wp_marks Try.func17 rfl trivial ?_ rfl
  simp only [Try.ntmps17, List.size_toArray, List.length_cons, List.length_nil, Nat.reduceAdd, Nat.reduceSub, Array.replicate_succ, Array.replicate_zero, List.push_toArray, List.append_toArray, List.nil_append, List.cons_append]
  gi_wp2
  refine ⟨trivial, (parts_in Fence.wide 2 trivial rfl _ _ _ _ _).mono ?_⟩
  rintro e w' ⟨rfl, rfl⟩
  gi_wp2
  obtain ⟨W4, hW4, R0, R1, R2, R3, HB, hs4⟩ := rows4 w [.slice A n c] Z.toList [.slice (some ⟨w.heap.size + 1, 0, none⟩) 64 64] [.int .i64 k] 34 5 24 3
  rw [HZL.out] at R1
  have hW4' : ((((w.alloc (.cells #[.slice A n c] 34)).alloc (.cells Z 5)).alloc (.cells #[.slice (some ⟨w.heap.size + 1, 0, none⟩) 64 64] 24)).alloc (.cells #[.int .i64 k] 3)) = W4 := hW4.symm
  rw [hW4']
  clear hW4 hW4' hZ HZL
  refine wpIn_rangeFunc_ownF rfl (by omega) (gf := 78) (lb := #[.pointer (some ⟨w.heap.size + 1 + 1, 0, none⟩), .pointer (some ⟨w.heap.size + 1 + 1 + 1, 0, none⟩)]) rfl trivial (enters_of Try.func78 (by kernel_rfl) rfl)
    (parts1_stops Fence.wide 2 trivial rfl (by omega) (w.heap.size + 1 + 1) (w.heap.size + 1 + 1 + 1) k (w.heap.size + 1) 0 64 hk0 hk4 (by omega) W4 (R2.cell 0) (R3.cell 0) (by omega) (by omega)) kpB_t
    (fun W b o o' hb hw h1 h2 => kpB_below (n := W4.heap.size) (by omega) (by omega) (belowK_b (Nat.le_refl _) W b o o' hb hw h1 h2)) (Below.refl _ _) (fun _ => rfl)
    (fun pre W => (RowL W (w.heap.size + 1) 5 (bvs (blkS l k pre)) ∧ RowL W w.heap.size 34 [.slice A n c] ∧ W4.heap.size ≤ W.heap.size) ∧ Below w.heap.size w W)
    (fun _ _ _ => False)
    (OwnFrom.and (Go.Own.from (fun s A' B' row hs hg hr => ⟨own_row _ _ (fun pre => bvs (blkS l k pre)) s A' B' row hs.1 hg hr, own_row (β := List (Fin 4)) _ _ (fun _ => [.slice A n c]) s A' B' row hs.2.1 hg hr, Nat.le_trans hs.2.2 hg.size⟩) _) (ownFrom_below (Nat.le_refl _) (by omega)))
    (fun _ _ _ _ _ hs _ _ => hs)
    ⟨⟨R1, R0, Nat.le_refl _⟩, HB⟩
    (fun x => { tmps := #[.slice A n c, .int .i64 k, .pointer (some ⟨w.heap.size, 0, none⟩), undef, .slice none 0 0, .slice (some ⟨w.heap.size + 1, 0, none⟩) 64 64, .int .i64 (k * 4 + (x.1 : Int)), .slice (some ⟨w.heap.size + 1, 16 * x.1, none⟩) 16 (64 - 16 * x.1), .slice (some ⟨w.heap.size + 1, 0, none⟩) 64 64, .slice (some ⟨w.heap.size + 1, 0, none⟩) 64 64, .int .i64 k, .func (.func 78) #[] #[.pointer (some ⟨w.heap.size + 1 + 1, 0, none⟩), .pointer (some ⟨w.heap.size + 1 + 1 + 1, 0, none⟩)], .int .i64 (k * 4 + (x.1 : Int)), .slice (some ⟨w.heap.size + 1, 16 * x.1, none⟩) 16 (64 - 16 * x.1), undef, undef, undef, undef, undef, undef], defers := [] }) ?assign ?body ?done ?stop
  case assign =>
    intro l' x W K hK
    dsimp only [encP]
    gi_wp2
    exact hK
  case body =>
    rintro l' pre x W ⟨⟨hrb, hrl, hsz⟩, hB⟩ _
    have hc0 : W.cell? ⟨w.heap.size, 0, none⟩ = some (.slice A n c) := hrl.cell 0
    gi_wp2
    refine ⟨trivial, (CallsIn.inRound l' (callsIn_wide.2 (first_any W (H.out.mono (w' := W) (D' := Under W.heap.size) (Kept.of_below hB fun _ h => h) (fun _ h => Nat.lt_of_lt_of_le h hB.size)) HSH.out rfl hn))).mono ?_⟩
    rintro e W2 ⟨A2, n2, c2, rfl, hnc, hbs, hbel⟩
    have hr2 := hrb.on hbel
    have hl2 := hrl.on hbel
    have hn2 : n2 ≤ 16 := by
      have := firstS_len l (k * 4 + (x.1 : Int))
      have := hbs.1
      omega
    have hx4 := x.2
    have hlen : (bvs (blkS l k pre)).length = 64 := by rw [bvs_length]; exact blkS_len l k pre
    have hs2 := hbel.size
    gi_wp2_with (refine wpListIn_plain rfl fun K2 hK2 => ?_; refine wpIn_copyAt (.tmp 14) (.tmp 17) 24 24 rfl 5 Try.underlying24 rfl (w.heap.size + 1) (16 * x.1) 16 (64 - 16 * x.1) rfl (bvs (blkS l k pre)) 5 hr2 A2 n2 c2 rfl W2.heap.size _ hbs hn2 (by omega) ?_; intro W3 hr3 hg3; refine hK2 _ _ ?_; clear hK2 K2)
    have hs3 := hg3.size
    refine ⟨(keeps_below hbel).trans (keeps_row hr2 hg3), kpB_t (kpB_below (n := W.heap.size) (by omega) (by omega) hbel) (kpB_grown (by omega) (by omega) (by omega) (by omega) hg3), ⟨?_, hl2.grown hg3 (fun e => by have := Option.some.inj e; omega), by omega⟩, (below_step hB hbel).grown hg3 (by have := hB.size; omega) (fun g hg => by have := Option.some.inj hg; omega)⟩
    rw [blkS_snoc, bvs_splice]
    exact hr3
  case done =>
    rintro D ys W hD rfl ⟨⟨hrb, _, hsz⟩, hB⟩ hK
    gi_wp2
    refine ⟨by simp, .inl ⟨_, _, rfl, run_takeDeferred hK, ?_⟩⟩
    have hpb := belowK_b (w := W4) (Nat.le_refl _) W D _ (.deferred none) hD hK rfl rfl
    have hrp : RowL (W.putObj D (.deferred none)) (w.heap.size + 1) 5 (bvs (blkS l k (List.finRange 4))) := (hpb.block (w.heap.size + 1) (by omega)).trans hrb
    exact ⟨_, results_tmp rfl _ _ _, _, _, rfl, hrp.own_bvs rfl (blkS_len l k _) (by omega) (by omega), hB.trans (hpb.mono (by omega))⟩
  case stop =>
    rintro D c pre W _ _ h _
    exact h.elim
end Go.Proofs.Ythjjjeolpdekoaa
