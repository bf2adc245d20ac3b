import Derived.Test.YthjjjeolpdekoaaEntH
import Derived.Test.YthjjjeolpdekoaaNumC
import Derived.Test.YthjjjeolpdekoaaEntG
import Derived.Test.YthjjjeolpdekoaaMemD
import Derived.BigQuiet
import Derived.Deep.QuietTactic
import Derived.Great.BuildSlice
import Derived.Test.YthjjjeolpdekoaaSumF

/- entry.Clear (layer 8). -/
namespace Go.Proofs.Ythjjjeolpdekoaa
open Go.RowKit Go.Shelf Plain
attribute [local go_sem] Oper.semAt_some

theorem zeroValue_u8 (w : World) : (zeroValue 5).run Try.prog w = .ok (.int .u8 0) w := by
  obtain ⟨i, hi, hz, _, _⟩ := info_parts info_u8
  simp [zeroValue, typeInfo, hi, hz]
theorem run_clear_row {P : Program} (w : World) (t e ty g off n c tt : Nat) (cur : List Value) (ht : P.underlying t = some (.slice e)) (hv : ∀ w, (zeroValue e).run P w = .ok (.int .u8 0) w) (hr : RowL w g tt cur) (hfit : off + (n + 1) ≤ cur.length) :
    (Builtin.clear_ #[t] ty #[.slice (some ⟨g, off, none⟩) (n + 1) c]).run P w = .ok (.tuple #[]) (w.setRow g (splice cur off (bvs (zeros (n + 1)))).toArray) := by
  have hzc : (Builtin.zeroCells (Value.int .u8 0).cells (n + 1)).toList = bvs (zeros (n + 1)) := by
    rw [show (Value.int .u8 0).cells = #[Value.int .u8 0] from rfl]
    simp [Builtin.zeroCells]
    apply List.ext_getElem
    · simp [bvs_length, zeros_length]
    · intro i h1 h2
      simp [Nat.mod_one, bvs, zeros, bv]
  have hst := run_storeCells_at P g off tt (bvs (zeros (n + 1))) 0 cur.toArray w hr (by simp [bvs_length, zeros_length]; omega) (bvs_one _)
  simp only [Nat.add_zero] at hst
  simp [Builtin.clear_, run_underlying ht, hv, hzc, hst, splice]
theorem wpIn_clearAt {F : Fence} {n : Nat} {P : Program} {w : World} {o : Oper} {a : Act} {K : Act → World → Prop} {Q : Exit → Act → World → Prop} (d : Operand) (dT : TypeId)
    (ho : o.op = .call { callee := .builtin .clear, args := #[d], argTypes := #[dT] }) (elem : TypeId) (hu : P.underlying dT = some (.slice elem)) (hv : ∀ w, (zeroValue elem).run P w = .ok (.int .u8 0) w)
    (g off m dCap : Nat) (hd : a.eval d = .slice (some ⟨g, off, none⟩) (m + 1) dCap) (cur : List Value) (t : TypeId) (hr : RowL w g t cur) (hcur : off + (m + 1) ≤ cur.length)
    (h : ∀ w', RowL w' g t (splice cur off (bvs (zeros (m + 1)))) → w.grownBy w' (some g) → K (a.put o.dst (.tuple #[])) w') : o.wpIn F n P a w K Q := by
  unfold Oper.wpIn
  refine ⟨by simp [Oper.about, ho, resolve, Target.leads, Sem.run_pure], ?_⟩
  rw [Oper.semAt_plain F _ _ (by rw [ho]; intro c hc'; cases hc')]
  have hrun := run_clear_row (P := P) w dT elem o.type g off m dCap t cur hu hv hr hcur
  simp only [execOp, ho, resolve, invoke, builtin, Sem.run_bind, Sem.run_pure, Result.andThen_ok, List.map_toArray, List.map_cons, List.map_nil, hd, hrun]
  exact h _ (hr.setRow_ _) (grownBy_setRow _ _ _)

set_option maxRecDepth 100000 in
set_option maxHeartbeats 2000000 in
theorem Clear_any {A : Option Addr} {c : Nat} {l : List UInt8} {slot k : Int} {r : Fin 4} (w : World) (h : Bs w w.heap.size A 64 l) (hk0 : 0 ≤ k) (hk4 : k < 4) (hs : slot = k * 4 + (r.1 : Int)) : Calls Try.prog 20 #[.slice A 64 c, .int .i64 slot] w (BRet w 5 64 (splice l (16 * r.1) (zeros 16))) := by
  obtain ⟨hr1, hb1, hs1⟩ := rows1 w [.int .i64 slot] 3
  have H1 := h.below hb1
  have H2 := H1.more (B' := (w.alloc (.cells [.int .i64 slot].toArray 3)).heap.size) (by omega)
  have HS := hide hs
  clear hs
  refine (callsIn_wide (n := 3)).1 ?_
  refine callsIn_of_wp_marks Try.func20 rfl trivial ?_ rfl
  simp only [Try.ntmps20, List.size_toArray, List.length_cons, List.length_nil, Nat.reduceAdd, Nat.reduceSub, Array.replicate_succ, Array.replicate_zero, List.push_toArray, List.append_toArray, List.nil_append, List.cons_append]
  gi_wp2
  refine ⟨trivial, (callsIn_wide.2 (Clone_any _ H2 (by omega))).mono ?_⟩
  rintro e w2 ⟨A2, c2, rfl, hown, hbel2⟩
  have hr4 := r.2
  have hq : IntKind.i64.wrap (slot.tdiv 4) = k := by rw [show slot.tdiv 4 = k from by rw [HS.out, Int.tdiv_eq_ediv_of_nonneg (by omega)]; omega]; exact IntWalk.i64_in _ (by omega)
  obtain ⟨g, cs, rfl, hgb, hrow, hcl, hnc, hcm, htk⟩ := hown.row (by omega)
  have hb2 := below_step hb1 hbel2
  have hbox : RowL w2 w.heap.size 3 [.int .i64 slot] := hr1.on hbel2
  have hc0 : w2.cell? ⟨w.heap.size, 0, none⟩ = some (.int .i64 slot) := hbox.cell 0
  gi_wp2
  refine ⟨trivial, (parts_in Fence.wide 2 trivial rfl _ _ _ _ _).mono ?_⟩
  rintro e w' ⟨rfl, rfl⟩
  gi_wp2
  obtain ⟨hp1, hp2, hp3, hp4⟩ := rows2 w2 [.slice (some ⟨g, 0, none⟩) 64 c2] [.int .i64 k] 24 3
  have hrow4 := hrow.on hp3
  have hbox4 := hbox.on hp3
  have hB4 := below_step hb2 hp3
  obtain ⟨W4, hW4⟩ : ∃ W4, ((w2.alloc (.cells #[.slice (some ⟨g, 0, none⟩) 64 c2] 24)).alloc (.cells #[.int .i64 k] 3)) = W4 := ⟨_, rfl⟩
  rw [hW4]
  change RowL _ _ _ _ at hp1
  have e4 : ((w2.alloc (.cells [.slice (some ⟨g, 0, none⟩) 64 c2].toArray 24)).alloc (.cells [.int .i64 k].toArray 3)) = W4 := hW4
  rw [e4] at hp1 hp2 hp4 hrow4 hbox4 hB4
  have hg2 := hrow.lt
  rw [hs1] at hgb
  clear hW4 e4 hp3 hrow hbox hc0 hown hbel2 hr1 hb1 H1 H2 hq h hs1
  refine wpIn_rangeFunc_ownF rfl (by omega) (gf := 78) (lb := #[.pointer (some ⟨w2.heap.size, 0, none⟩), .pointer (some ⟨w2.heap.size + 1, 0, none⟩)]) rfl trivial (enters_of Try.func78 (by kernel_rfl) rfl)
    (parts1_stops Fence.wide 2 trivial rfl (by omega) w2.heap.size (w2.heap.size + 1) k g 0 c2 hk0 hk4 hnc W4 (hp1.cell 0) (hp2.cell 0) (by omega) (by omega)) kpB_t
    (fun W b o o' hb hw h1 h2 => kpB_below (n := W4.heap.size) (by omega) (by omega) (belowK_b (Nat.le_refl _) W b o o' hb hw h1 h2)) (Below.refl _ _) (fun _ => rfl)
    (fun pre W => ((RowL W g 5 cs ∧ RowL W w.heap.size 3 [.int .i64 slot]) ∧ r ∉ pre) ∧ Below w.heap.size w W)
    (fun cc pre W => (RowL W g 5 (splice cs (16 * r.1) (bvs (zeros 16))) ∧ cc = .exit 0) ∧ Below w.heap.size w W)
    (OwnFrom.and (Go.Own.from (fun s A' B' row hs hg hr => ⟨⟨own_row (β := List (Fin 4)) _ _ (fun _ => cs) s A' B' row hs.1.1 hg hr, own_row (β := List (Fin 4)) _ _ (fun _ => [.int .i64 slot]) s A' B' row hs.1.2 hg hr⟩, hs.2⟩) _) (ownFrom_below (Nat.le_refl _) (by have := hb2.size; omega)))
    (fun cc => OwnFrom.and (Go.Own.from (fun s A' B' row hs hg hr => ⟨own_row (β := List (Fin 4)) _ _ (fun _ => splice cs (16 * r.1) (bvs (zeros 16))) s A' B' row hs.1 hg hr, hs.2⟩) _) (ownFrom_below (Nat.le_refl _) (by have := hb2.size; omega)))
    ⟨⟨⟨hrow4, hbox4⟩, by simp⟩, hB4⟩
    (fun x => { tmps := #[.slice A 64 c, .int .i64 slot, undef, .pointer (some ⟨w.heap.size, 0, none⟩), .slice none 0 0, .slice (some ⟨g, 0, none⟩) 64 c2, .int .i64 (k * 4 + (x.1 : Int)), .slice (some ⟨g, 16 * x.1, none⟩) 16 (c2 - 16 * x.1), .slice A 64 c, .slice (some ⟨g, 0, none⟩) 64 c2, .slice (some ⟨g, 0, none⟩) 64 c2, .int .i64 slot, .int .i64 k, .func (.func 78) #[] #[.pointer (some ⟨w2.heap.size, 0, none⟩), .pointer (some ⟨w2.heap.size + 1, 0, none⟩)], .int .i64 (k * 4 + (x.1 : Int)), .slice (some ⟨g, 16 * x.1, none⟩) 16 (c2 - 16 * x.1), undef, undef, undef, undef, undef], defers := [] }) ?assign ?body ?done ?stop
  case assign =>
    intro l' x W K hK
    dsimp only [encP]
    gi_wp2
    exact hK
  case body =>
    rintro l' pre x W ⟨⟨⟨hrb, hbx⟩, hnot⟩, hB⟩ _
    have hc0 : W.cell? ⟨w.heap.size, 0, none⟩ = some (.int .i64 slot) := hbx.cell 0
    have hx4 := x.2
    by_cases hx : x = r
    · subst hx
      have ht : (k * 4 + (x.1 : Int) == slot) = true := by rw [HS.out]; simp
      gi_wp2_with (refine wpListIn_plain rfl fun K2 hK2 => ?_; refine wpIn_clearAt (.tmp 19) 24 rfl 5 Try.underlying24 zeroValue_u8 g (16 * x.1) 15 (c2 - 16 * x.1) rfl cs 5 hrb (by omega) ?_; intro W3 hr3 hg3; refine hK2 _ _ ?_; clear hK2 K2)
      exact ⟨keeps_row hrb hg3, ⟨hr3, rfl⟩, hB.grown hg3 hB.size (fun g' hg' => by have := Option.some.inj hg'; omega)⟩
    · have ht : (k * 4 + (x.1 : Int) == slot) = false := by
        rw [HS.out, beq_eq_false_iff_ne]
        intro e
        exact hx (Fin.ext (by omega))
      gi_wp2
      exact ⟨KeepsOthers.refl W, ⟨rfl, rfl⟩, ⟨⟨hrb, hbx⟩, by
        rw [List.mem_append, List.mem_singleton]
        rintro (h1 | h1)
        · exact hnot h1
        · exact hx h1.symm⟩, hB⟩
  case done =>
    rintro D ys W hD rfl ⟨⟨_, hnot⟩, hB⟩ hK
    exact absurd (List.mem_finRange r) hnot
  case stop =>
    rintro D cc pre W hD hpre ⟨⟨hrb, rfl⟩, hB⟩ hK
    have hz := hrb.lt
    gi_wp2
    refine ⟨by simp, .inl ⟨_, _, rfl, run_takeDeferred hK, ?_⟩⟩
    have hpb := belowK_b (w := W4) (Nat.le_refl _) W D _ (.deferred none) hD hK rfl rfl
    have hrp : RowL (W.putObj D (.deferred none)) g 5 (splice cs (16 * r.1) (bvs (zeros 16))) := (hpb.block g (by omega)).trans hrb
    exact ⟨_, results_tmp rfl _ _ _, _, _, rfl, Own.spliced hrp (by omega) hcl hnc hcm htk (by rw [zeros_length]; omega), hB.trans (hpb.mono (by have := hb2.size; omega))⟩
end Go.Proofs.Ythjjjeolpdekoaa

/- Entries: is one the other? slices.Equal (layer 8). -/
namespace Go.Proofs.Ythjjjeolpdekoaa
open Go.RowKit Plain

theorem EntV.ext_iff' {x y : EntV} : x = y ↔ x.slot = y.slot ∧ x.ino = y.ino ∧ x.name = y.name := by
  cases x; cases y; simp [EntV.mk.injEq]
theorem eq_ent {x y : EntV} {b : Bool} (h : decide (x = y) = b) (w : World) : (binOp .eql 23 (.agg #[.int .i64 x.slot, .int .i64 x.ino, .string ⟨x.name.toArray⟩]) (.agg #[.int .i64 y.slot, .int .i64 y.ino, .string ⟨y.name.toArray⟩])).run Try.prog w = .ok (.bool b) w := by
  subst h
  simp only [EntV.ext_iff']
  by_cases h1 : x.slot = y.slot
  rotate_left
  · simp [go_sem, h1]
  by_cases h2 : x.ino = y.ino
  rotate_left
  · simp [go_sem, h1, h2]
  by_cases h3 : x.name = y.name
  rotate_left
  · simp [go_sem, h1, h2, h3]
  simp [go_sem, h1, h2, h3]
theorem neq_ent {x y : EntV} {b : Bool} (h : decide (x ≠ y) = b) (w : World) : (binOp .neq 23 (.agg #[.int .i64 x.slot, .int .i64 x.ino, .string ⟨x.name.toArray⟩]) (.agg #[.int .i64 y.slot, .int .i64 y.ino, .string ⟨y.name.toArray⟩])).run Try.prog w = .ok (.bool b) w := by
  subst h
  simp only [ne_eq, EntV.ext_iff']
  by_cases h1 : x.slot = y.slot
  rotate_left
  · simp [go_sem, h1]
  by_cases h2 : x.ino = y.ino
  rotate_left
  · simp [go_sem, h1, h2]
  by_cases h3 : x.name = y.name
  rotate_left
  · simp [go_sem, h1, h2, h3]
  simp [go_sem, h1, h2, h3]

theorem quiet_loadX {P : Program} {C : World → Prop} {o : Oper} {a : Act} {K : Act → Prop} (T : Nat) (x : Operand) (ho : o.op = .load T x) (p v : Value) (hx : a.eval x = p) (hl : ∀ w, C w → (Instr.loadAt T p).run P w = .ok v w) (hk : K (a.put o.dst v)) : o.quiet P a C K :=
  ⟨v, fun w hw => by
    unfold Oper.quietAt execOp
    simp only [ho, Sem.run_bind, Sem.run_pure, Result.andThen_ok, hx, hl w hw]
    exact ⟨rfl, rfl⟩, hk⟩
theorem BoolB.off {w : World} {b c : Bool} {w' : World} (h : Below w.heap.size w w') (hb : b = c) : BoolB w c (.returned (.bool b)) w' := BoolB.eq hb h
set_option maxHeartbeats 800000 in
theorem EqualE_any {A B : Option Addr} {n m c d : Nat} {l k : List EntV} (w : World) (ha : RdE entEn w (Under w.heap.size) A n l) (hb : RdE entEn w (Under w.heap.size) B m k) (hn : n ≤ 140737488355328) :
    Calls Try.prog 24 #[.slice A n c, .slice B m d] w (BoolB w (l == k)) := by
  by_cases hnm : n = m
  case neg =>
    have hne : (l == k) = false := by
      simp only [beq_eq_false_iff_ne, ne_eq]
      intro e
      apply hnm
      rw [← ha.len, ← hb.len, e]
    have HNE := hide hne
    have hd : ((n : Int) != (m : Int)) = true := by simp; omega
    clear ha hb hne
    go_enter Try.func24, Try.ntmps24
    go_wp2
    go_ret
    exact BoolB.off (below_self w) HNE.out.symm
  subst hnm
  obtain ⟨r, hr⟩ : ∃ r, (l == k) = r := ⟨_, rfl⟩
  rw [hr]
  have HR := hide hr
  have HA := hide ha
  have HB := hide hb
  clear hr ha hb
  have hd : ((n : Int) != (n : Int)) = false := by simp
  go_enter Try.func24, Try.ntmps24
  go_wp2
  go_loopw [13] (fun i wr => ∃ j q : Nat, j ≤ n ∧ i = .int .i64 j ∧ l.take j = k.take j ∧ wr = w.drewN q) (fun i _ => n - (intOf i).toNat)
  case atStart => exact ⟨0, 0, by omega, rfl, rfl, rfl⟩
  case round =>
    obtain ⟨j, q, hj, rfl, htake, rfl⟩ := hrel
    have HT := hide htake
    clear htake
    by_cases hlt : j < n
    · have hl1 : j < l.length := by rw [HA.out.len]; exact hlt
      have hl2 : j < k.length := by rw [HB.out.len]; exact hlt
      obtain ⟨b1, o1, rfl, _, hc1⟩ := ent_get HA.out (List.getElem?_eq_getElem hl1)
      obtain ⟨b2, o2, rfl, _, hc2⟩ := ent_get HB.out (List.getElem?_eq_getElem hl2)
      obtain ⟨x, hx⟩ : ∃ x, x = l[j] := ⟨_, rfl⟩
      obtain ⟨y, hy⟩ : ∃ y, y = k[j] := ⟨_, rfl⟩
      rw [← hx] at hc1
      rw [← hy] at hc2
      have hL1 : ∀ q, (Instr.loadAt 23 (.pointer (some ⟨b1, o1 + j * 3, none⟩))).run Try.prog (w.drewN q) = .ok (.agg #[.int .i64 x.slot, .int .i64 x.ino, .string ⟨x.name.toArray⟩]) (w.drewN q) := fun q => run_loadAt_cells (w := w.drewN q) ent_agg ent_size hc1 len3
      have hL2 : ∀ q, (Instr.loadAt 23 (.pointer (some ⟨b2, o2 + j * 3, none⟩))).run Try.prog (w.drewN q) = .ok (.agg #[.int .i64 y.slot, .int .i64 y.ino, .string ⟨y.name.toArray⟩]) (w.drewN q) := fun q => run_loadAt_cells (w := w.drewN q) ent_agg ent_size hc2 len3
      clear hc1 hc2
      by_cases hxy : x = y
      · have ht2 : l.take (j + 1) = k.take (j + 1) := by
          rw [List.take_succ_eq_append_getElem hl1, List.take_succ_eq_append_getElem hl2, HT.out, ← hx, ← hy, hxy]
        have HT2 := hide ht2
        have hne := fun W => neq_ent (b := false) (x := x) (y := y) (by simp [hxy]) W
        clear hx hy ht2 hxy hl1 hl2
        go_wp2
        refine wp_region_quiet_lit (by kernel_rfl) (by kernel_rfl) ?_
        iterate 3 (quiet_step (fail))
        refine Go.BigFrame.wpQuiet_want rfl (fun K hK => ?_)
        refine quiet_loadX 23 (.tmp 18) rfl _ _ rfl (by rintro _ ⟨n', rfl⟩; rw [World.drewN_drewN]; exact hL1 _) (hK _ ?_)
        clear hK K
        iterate 3 (quiet_step (fail))
        refine Go.BigFrame.wpQuiet_want rfl (fun K hK => ?_)
        refine quiet_loadX 23 (.tmp 22) rfl _ _ rfl (by rintro _ ⟨n', rfl⟩; rw [World.drewN_drewN]; exact hL2 _) (hK _ ?_)
        clear hK K
        iterate 1 (quiet_step (fail))
        refine wpQuiet_nil ?_
        rintro _ ⟨nq, rfl⟩
        go_wp2
        go_roundw
        case rel => exact ⟨j + 1, _, by omega, by go_num, HT2.out, rfl⟩
        case measure => simp [intOf]; omega
      · have hre : r = false := by
          rw [← HR.out]
          simp only [beq_eq_false_iff_ne, ne_eq]
          intro e
          apply hxy
          subst e
          rw [hx, hy]
        have hne := fun W => neq_ent (b := true) (x := x) (y := y) (by simp [hxy]) W
        have HRE := hide hre
        clear hx hy hre hxy hl1 hl2
        go_wp2
        refine wp_region_quiet_lit (by kernel_rfl) (by kernel_rfl) ?_
        iterate 3 (quiet_step (fail))
        refine Go.BigFrame.wpQuiet_want rfl (fun K hK => ?_)
        refine quiet_loadX 23 (.tmp 18) rfl _ _ rfl (by rintro _ ⟨n', rfl⟩; rw [World.drewN_drewN]; exact hL1 _) (hK _ ?_)
        clear hK K
        iterate 3 (quiet_step (fail))
        refine Go.BigFrame.wpQuiet_want rfl (fun K hK => ?_)
        refine quiet_loadX 23 (.tmp 22) rfl _ _ rfl (by rintro _ ⟨n', rfl⟩; rw [World.drewN_drewN]; exact hL2 _) (hK _ ?_)
        clear hK K
        iterate 1 (quiet_step (fail))
        refine wpQuiet_nil ?_
        rintro _ ⟨nq, rfl⟩
        go_wp2
        go_ret
        exact BoolB.off (below_drewN (below_drewN (below_self w) _) _) HRE.out.symm
    · obtain rfl : j = n := by omega
      have hre : r = true := by
        rw [← HR.out]
        have e := HT.out
        rw [List.take_of_length_le (by rw [HA.out.len]; exact Nat.le_refl _), List.take_of_length_le (by rw [HB.out.len]; exact Nat.le_refl _)] at e
        simp [e]
      have HRE := hide hre
      clear hre
      go_wp2
      go_ret
      exact BoolB.off (below_drewN (below_self w) _) HRE.out.symm
end Go.Proofs.Ythjjjeolpdekoaa

/- entry.Parse (layer 8). -/
namespace Go.Proofs.Ythjjjeolpdekoaa
open Go.RowKit Go.Shelf Plain
attribute [local go_sem] Oper.semAt_some

/-- An entry's cells. -/
def cellsE (x : EntV) : List Value := [.int .i64 x.slot, .int .i64 x.ino, .string ⟨x.name.toArray⟩]
def flatE (l : List EntV) : List Value := l.flatMap cellsE
def intsV (l : List Int) : List Value := l.map (fun i => Value.int .i64 i)
theorem flatE_snoc (l : List EntV) (x : EntV) : flatE (l ++ [x]) = flatE l ++ cellsE x := by simp [flatE]
theorem intsV_snoc (l : List Int) (x : Int) : intsV (l ++ [x]) = intsV l ++ [.int .i64 x] := by simp [intsV]
theorem ownsRow_below {w w' : World} {base e s n : Nat} {v : Value} {xs : List Value} (h : w.ownsRow base e s v n xs) (hb : Below w.heap.size w w') : w'.ownsRow base e s v n xs := by
  refine ⟨h.1, ?_⟩
  rcases h.2 with h0 | ⟨g, cap, cur, h1, h2, h3, h4⟩
  · exact .inl h0
  · refine .inr ⟨g, cap, cur, h1, h2, ?_, h4⟩
    rw [hb.block g ?_]
    · exact h3
    · rcases Nat.lt_or_ge g w.heap.size with hlt | hge
      · exact hlt
      · rw [Array.getElem?_eq_none hge] at h3; cases h3
/-- What lies in slot j of a block. -/
def slS (l : List UInt8) (j : Nat) : List UInt8 := (l.drop (16 * j)).take 16
def accE (l : List UInt8) (k : Int) (pre : List (Fin 4)) : List EntV := pre.foldl (fun a j => if gotE (slS l j.1) (k * 4 + (j.1 : Int)) = true then a ++ [entE (slS l j.1) (k * 4 + (j.1 : Int))] else a) []
def accB (l : List UInt8) (k : Int) (pre : List (Fin 4)) : List Int := pre.foldl (fun a j => if readE (slS l j.1) (k * 4 + (j.1 : Int)) = true then a else a ++ [k * 4 + (j.1 : Int)]) []
theorem accE_snoc (l : List UInt8) (k : Int) (pre : List (Fin 4)) (j : Fin 4) : accE l k (pre ++ [j]) = if gotE (slS l j.1) (k * 4 + (j.1 : Int)) = true then accE l k pre ++ [entE (slS l j.1) (k * 4 + (j.1 : Int))] else accE l k pre := by
  unfold accE
  rw [List.foldl_append]
  rfl
theorem accB_snoc (l : List UInt8) (k : Int) (pre : List (Fin 4)) (j : Fin 4) : accB l k (pre ++ [j]) = if readE (slS l j.1) (k * 4 + (j.1 : Int)) = true then accB l k pre else accB l k pre ++ [k * 4 + (j.1 : Int)] := by
  unfold accB
  rw [List.foldl_append]
  rfl
theorem slS_bs {w : World} {B b o : Nat} {l : List UInt8} {j : Nat} (h : Bs w B (some ⟨b, o, none⟩) 64 l) (hj : j < 4) : Bs w B (some ⟨b, o + 16 * j, none⟩) 16 (slS l j) := by
  have hl := h.len
  obtain ⟨b', o', e, hb, hc⟩ := h.2 (by omega)
  cases e
  refine ⟨by unfold slS; rw [List.length_take, List.length_drop]; omega, fun _ => ⟨b, o + 16 * j, rfl, hb, fun i x hx => ?_⟩⟩
  unfold slS at hx
  rw [List.getElem?_take] at hx
  split at hx
  · rw [List.getElem?_drop] at hx
    have := hc _ x hx
    rwa [← Nat.add_assoc] at this
  · cases hx
section
variable {F : Fence} {n : Nat} {P : Program} {w : World} {o : Oper} {a : Act} {K : Act → World → Prop} {Q : Exit → Act → World → Prop}
theorem wpIn_loadW (T : Nat) (x : Operand) (ho : o.op = .load T x) (k : Nat) (hag : ∀ w, (isAgg T).run P w = .ok true w) (hsz : ∀ w, (Go.sizeOf T).run P w = .ok k w) (g t : Nat) (hx : a.eval x = .pointer (some ⟨g, 0, none⟩)) (cs : List Value) (h : RowL w g t cs) (hk : cs.length = k)
    (hK : K (a.put o.dst (.agg cs.toArray)) w) : o.wpIn F n P a w K Q := by
  have hr := run_loadAt_row (P := P) hag hsz (off := 0) h (cs := cs) (by rw [List.drop_zero, List.take_of_length_le (by omega)]) hk
  unfold Oper.wpIn
  refine ⟨by simp [Oper.about, ho], ?_⟩
  rw [Oper.semAt_plain F _ _ (by rw [ho]; intro c hc'; cases hc')]
  simp only [execOp, ho, Sem.run_bind, Sem.run_pure, Result.andThen_ok, hx, hr]
  exact hK
theorem wpIn_storeW (T : Nat) (x y : Operand) (ho : o.op = .store T x y) (k : Nat) (hsz : ∀ w, (Go.sizeOf T).run P w = .ok k w) (g t : Nat) (hx : a.eval x = .pointer (some ⟨g, 0, none⟩)) (cur cs : List Value) (hy : a.eval y = .agg cs.toArray) (h : RowL w g t cur) (hk : cs.length = k) (hcur : cur.length = k) (h1 : ∀ v ∈ cs, v.oneCell' = true)
    (hK : ∀ w', RowL w' g t cs → w.grownBy w' (some g) → w'.heap.size = w.heap.size → K (a.put o.dst undef) w') : o.wpIn F n P a w K Q := by
  have hr := run_storeAt_row (P := P) hsz (off := 0) h hk (by omega) h1
  have e : splice cur 0 cs = cs := by unfold splice; rw [List.take_zero, List.nil_append, List.drop_of_length_le (by omega), List.append_nil]
  rw [e] at hr
  unfold Oper.wpIn
  refine ⟨by simp [Oper.about, ho], ?_⟩
  rw [Oper.semAt_plain F _ _ (by rw [ho]; intro c hc'; cases hc')]
  simp only [execOp, ho, Sem.run_bind, Sem.run_pure, Result.andThen_ok, hx, hy, hr]
  exact hK _ (h.setRow_ _) (grownBy_setRow _ _ _) (by simp)
theorem wpIn_lit1 {w' : World} (t : Nat) (x : Operand) (ho : o.op = .buildSlice t 1 #[(0, x)]) (vx v : Value) (hx : a.eval x = vx) (hr : (Instr.buildSlice t 1 #[(0, vx)]).run P w = .ok v w') (hK : K (a.put o.dst v) w') : o.wpIn F n P a w K Q := by
  unfold Oper.wpIn
  refine ⟨by simp [Oper.about, ho], ?_⟩
  rw [Oper.semAt_plain F _ _ (by rw [ho]; intro c hc'; cases hc')]
  simp only [execOp, ho, List.map_toArray, List.map_cons, List.map_nil, hx, Sem.run_bind, Sem.run_pure, Result.andThen_ok, hr]
  exact hK
end
def zent : Value := .agg #[.int .i64 0, .int .i64 0, .string ⟨#[]⟩]
theorem ent_info : (Try.prog.info? 23).map (fun i => (i.zero, i.size, i.bytes)) = some (some zent, 3, 32) := by kernel_rfl
theorem lit_ent (x : EntV) (W : World) : (Instr.buildSlice 34 1 #[(0, .agg (cellsE x).toArray)]).run Try.prog W = .ok (.slice (some ⟨W.heap.size, 0, none⟩) 1 1) (W.alloc (.cells (cellsE x).toArray 23)) := by
  obtain ⟨it, hi, hz, hsz, -⟩ := info_parts ent_info
  refine run_buildSlice W _ 23 1 _ _ it zent Try.underlying34 hi hz (by omega) (by omega) ?_
  rw [hsz]
  have := Great.fill_whole (s := 3) (by omega) [.agg (cellsE x).toArray] ((Array.range (1 * 3)).map (zent.cells[· % zent.cells.size]!)) (by intro v hv; rw [List.mem_singleton] at hv; subst hv; simp [Value.cells, cellsE]) (by simp)
  simpa [Value.cells] using this
end Go.Proofs.Ythjjjeolpdekoaa

/- Words for entry.Parse (layer 8). -/
namespace Go.Proofs.Ythjjjeolpdekoaa
open Go.RowKit Go.Shelf Plain
attribute [local go_sem] Oper.semAt_some

theorem own_owns {W W' : World} {row : Option Nat} {base e s n : Nat} {v : Value} {xs : List Value} (h : W.ownsRow base e s v n xs) (hg : W.grownBy W' row) (hr : ∀ r, row = some r → ∃ o : Obj, W.heap[r]? = some o ∧ o.isCells = false) : W'.ownsRow base e s v n xs := by
  refine h.kept hg ?_
  rcases h.2 with ⟨rfl, _⟩ | ⟨g, cap, cur, rfl, _, hc, _⟩
  · exact .inl rfl
  · refine .inr fun e => ?_
    obtain ⟨o, ho, hc'⟩ := hr g e.symm
    rw [hc] at ho
    cases Option.some.inj ho
    cases hc'
theorem owns_apart {W : World} {b1 b2 e1 e2 s1 s2 n1 n2 : Nat} {v1 v2 : Value} {x1 x2 : List Value} (h1 : W.ownsRow b1 e1 s1 v1 n1 x1) (h2 : W.ownsRow b2 e2 s2 v2 n2 x2) (he : e1 ≠ e2) : v2.ownBlock = none ∨ v2.ownBlock ≠ v1.ownBlock := by
  rcases h2.2 with ⟨rfl, _⟩ | ⟨g2, _, _, rfl, _, hc2, _⟩
  · exact .inl rfl
  · rcases h1.2 with ⟨rfl, _⟩ | ⟨g1, _, _, rfl, _, hc1, _⟩
    · exact .inr (fun e => by cases e)
    · refine .inr fun e => ?_
      have e' : g2 = g1 := Option.some.inj e
      subst e'
      rw [hc1] at hc2
      have := Option.some.inj hc2
      injection this with _ h _
      exact he h
/-- The two lists so far. -/
def Acc (base g1 g2 : Nat) (L1 : List EntV) (L2 : List Int) (W : World) : Prop :=
  (∃ A1 n1 c1, RowL W g1 34 [.slice A1 n1 c1] ∧ W.ownsRow base 23 3 (.slice A1 n1 c1) n1 (flatE L1)) ∧ (∃ A2 n2 c2, RowL W g2 36 [.slice A2 n2 c2] ∧ W.ownsRow base 3 1 (.slice A2 n2 c2) n2 (intsV L2))
theorem Acc.on {base g1 g2 : Nat} {L1 : List EntV} {L2 : List Int} {W W' : World} (h : Acc base g1 g2 L1 L2 W) (hb : Below W.heap.size W W') : Acc base g1 g2 L1 L2 W' := by
  obtain ⟨⟨A1, n1, c1, h1, h2⟩, ⟨A2, n2, c2, h3, h4⟩⟩ := h
  exact ⟨⟨A1, n1, c1, h1.on hb, ownsRow_below h2 hb⟩, ⟨A2, n2, c2, h3.on hb, ownsRow_below h4 hb⟩⟩
theorem Acc.turned {base g1 g2 : Nat} {L1 : List EntV} {L2 : List Int} {W W' : World} {row : Option Nat} (h : Acc base g1 g2 L1 L2 W) (hg : W.grownBy W' row) (hr : ∀ r, row = some r → ∃ o : Obj, W.heap[r]? = some o ∧ o.isCells = false) : Acc base g1 g2 L1 L2 W' := by
  obtain ⟨⟨A1, n1, c1, h1, h2⟩, ⟨A2, n2, c2, h3, h4⟩⟩ := h
  refine ⟨⟨A1, n1, c1, h1.grown hg ?_, own_owns h2 hg hr⟩, ⟨A2, n2, c2, h3.grown hg ?_, own_owns h4 hg hr⟩⟩
  · intro e
    obtain ⟨o, ho, hc⟩ := hr g1 e.symm
    rw [show W.heap[g1]? = _ from h1] at ho
    cases Option.some.inj ho
    cases hc
  · intro e
    obtain ⟨o, ho, hc⟩ := hr g2 e.symm
    rw [show W.heap[g2]? = _ from h3] at ho
    cases Option.some.inj ho
    cases hc
/-- It returns the entries and the numbers. -/
def PRet (w : World) (L1 : List EntV) (L2 : List Int) (e : Ending) (w' : World) : Prop := ∃ A1 n1 c1 A2 n2 c2, e = .returned (.tuple #[.slice A1 n1 c1, .slice A2 n2 c2]) ∧ w'.ownsRow w.heap.size 23 3 (.slice A1 n1 c1) n1 (flatE L1) ∧ w'.ownsRow w.heap.size 3 1 (.slice A2 n2 c2) n2 (intsV L2) ∧ Below w.heap.size w w'
theorem flatE_len (l : List EntV) : (flatE l).length = l.length * 3 := by
  induction l with
  | nil => rfl
  | cons x r ih => rw [show flatE (x :: r) = cellsE x ++ flatE r from rfl, List.length_append, ih, List.length_cons]; simp only [cellsE, List.length_cons, List.length_nil]; omega
theorem intsV_len (l : List Int) : (intsV l).length = l.length * 1 := by simp [intsV]
theorem int_info' : (Try.prog.info? 3).map (fun i => (i.zero, i.size, i.bytes)) = some (some (.int .i64 0), 1, 8) := by kernel_rfl
theorem foldl_len {α β : Type} (f : List β → α → List β) (hf : ∀ a x, (f a x).length ≤ a.length + 1) (pre : List α) (a : List β) : (pre.foldl f a).length ≤ a.length + pre.length := by
  induction pre generalizing a with
  | nil => simp
  | cons x r ih => have h1 := ih (f a x); have h2 := hf a x; simp only [List.foldl_cons, List.length_cons]; omega
theorem accE_len (l : List UInt8) (k : Int) (pre : List (Fin 4)) : (accE l k pre).length ≤ pre.length := by
  have := foldl_len (fun a (j : Fin 4) => if gotE (slS l j.1) (k * 4 + (j.1 : Int)) = true then a ++ [entE (slS l j.1) (k * 4 + (j.1 : Int))] else a) (fun a x => by split <;> simp) pre []
  simpa [accE] using this
theorem accB_len (l : List UInt8) (k : Int) (pre : List (Fin 4)) : (accB l k pre).length ≤ pre.length := by
  have := foldl_len (fun a (j : Fin 4) => if readE (slS l j.1) (k * 4 + (j.1 : Int)) = true then a else a ++ [k * 4 + (j.1 : Int)]) (fun a x => by split <;> simp) pre []
  simpa [accB] using this
theorem owns_slice {W : World} {base e s n : Nat} {v : Value} {xs : List Value} (h : W.ownsRow base e s v n xs) : ∃ A c, v = .slice A n c := by
  rcases h.2 with ⟨rfl, rfl⟩ | ⟨g, cap, cur, rfl, _⟩
  · exact ⟨none, 0, rfl⟩
  · exact ⟨_, _, rfl⟩
/-- append of one entry, inside a fence. -/
theorem wpListIn_appE {F : Fence} {n : Nat} {ops : Array Oper} {rest : List Oper} {o : Oper} {a : Act} {Q : Exit → Act → World → Prop} (W3 : World) (base : Nat) (hg : o.guard = none) (s x : Operand)
    (hop : o.op = Op.call { callee := Callee.builtin Builtin.append, args := #[s, x], argTypes := #[34, 34] }) (A1 : Option Addr) (n1 c1 : Nat) (L1 : List EntV) (y : EntV) (hs : a.eval s = .slice A1 n1 c1) (ho1 : W3.ownsRow base 23 3 (.slice A1 n1 c1) n1 (flatE L1))
    (hx : a.eval x = .slice (some ⟨W3.heap.size, 0, none⟩) 1 1) (hm : n1 ≤ 100) (hb : base ≤ W3.heap.size)
    (hK : ∀ A5 c5 W5, W5.ownsRow base 23 3 (.slice A5 (n1 + 1) c5) (n1 + 1) (flatE (L1 ++ [y])) → (W3.alloc (.cells (cellsE y).toArray 23)).grownBy W5 (Value.slice A1 n1 c1).ownBlock → wpListIn F n Try.prog ops Q rest (a.put o.dst (.slice A5 (n1 + 1) c5)) W5) :
    wpListIn F n Try.prog ops Q (o :: rest) a (W3.alloc (.cells (cellsE y).toArray 23)) := by
  obtain ⟨ie, hie, hze, hse, hbe⟩ := info_parts ent_info
  have hc := (RowL.new W3 23 (cellsE y)).src (off := 0) (m := 3) (l := cellsE y) rfl rfl
  have h1c : ∀ u ∈ cellsE y, u.oneCell' = true := by simp [cellsE, Value.oneCell']
  refine wpListIn_append_own _ hg s x 34 hop base 23 ie zent 3 32 Try.underlying34 hie hze hse hbe rfl (by omega) (.slice A1 n1 c1) n1 (flatE L1) hs (ho1.alloc _) ⟨W3.heap.size, 0, none⟩ 1 1 (cellsE y) hx rfl hc h1c (by simp only [maxLen]; omega) (by omega) (by rw [World.size_alloc]; omega) ?_
  intro v' W5 ho5 hg5 _
  obtain ⟨A5, c5, rfl⟩ := owns_slice ho5
  rw [← flatE_snoc] at ho5
  exact hK A5 c5 W5 ho5 hg5
end Go.Proofs.Ythjjjeolpdekoaa

/- entry.Parse: one append, all that it keeps (layer 8). -/
namespace Go.Proofs.Ythjjjeolpdekoaa
open Go.RowKit Go.Shelf Plain
attribute [local go_sem] Oper.semAt_some

section
variable {F : Fence} {n : Nat} {P : Program} {w : World} {o : Oper} {a : Act} {K : Act → World → Prop} {Q : Exit → Act → World → Prop}
/-- One cell, stored, inside a fence. -/
theorem wpIn_storeV (T : Nat) (x y : Operand) (ho : o.op = .store T x y) (hsz : ∀ w, (Go.sizeOf T).run P w = .ok 1 w) (g t : Nat) (hx : a.eval x = .pointer (some ⟨g, 0, none⟩)) (v : Value) (hy : a.eval y = v) (hv : v.cells = #[v]) (h1 : v.oneCell' = true) (cur : Value) (h : RowL w g t [cur])
    (hK : ∀ w', RowL w' g t [v] → w.grownBy w' (some g) → K (a.put o.dst undef) w') : o.wpIn F n P a w K Q := by
  have hst := run_storeCells_at P g 0 t [v] 0 #[cur] w h (by simp) (by simp [h1])
  simp only [Nat.add_zero] at hst
  have hr : (Instr.storeAt T (.pointer (some ⟨g, 0, none⟩)) v).run P w = .ok () (w.setRow g [v].toArray) := by
    simp [Instr.storeAt, Instr.sureAddr, storeVar, hsz, hv, hst]
  unfold Oper.wpIn
  refine ⟨by simp [Oper.about, ho], ?_⟩
  rw [Oper.semAt_plain F _ _ (by rw [ho]; intro c hc'; cases hc')]
  simp only [execOp, ho, Sem.run_bind, Sem.run_pure, Result.andThen_ok, hx, hy, hr]
  exact hK _ (h.setRow_ _) (grownBy_setRow _ _ _)
end
theorem kpB_any {m1 m2 : Nat} {row : Option Nat} {A B : World} (h1 : m1 < A.heap.size) (h2 : m2 < A.heap.size) (hr : ∀ g, row = some g → m1 ≠ g ∧ m2 ≠ g) (h : A.grownBy B row) : KpB m1 m2 A B := by
  refine ⟨World.cell?_of_block (h.block m1 h1 ?_), World.cell?_of_block (h.block m2 h2 ?_)⟩
  · intro e; exact (hr m1 e.symm).1 rfl
  · intro e; exact (hr m2 e.symm).2 rfl
theorem own_block {W : World} {base e s n : Nat} {v : Value} {xs : List Value} (h : W.ownsRow base e s v n xs) : ∀ g, v.ownBlock = some g → base ≤ g ∧ g < W.heap.size ∧ ∃ o : Obj, W.heap[g]? = some o ∧ o.isCells = true := by
  intro g hg
  rcases h.2 with ⟨rfl, _⟩ | ⟨g', cap, cur, rfl, hb, hc, _⟩
  · cases hg
  · obtain rfl : g' = g := Option.some.inj hg
    refine ⟨hb, ?_, _, hc, rfl⟩
    rcases Nat.lt_or_ge g' W.heap.size with hlt | hge
    · exact hlt
    · rw [Array.getElem?_eq_none hge] at hc; cases hc
theorem app_keeps {W3 W5 W6 : World} {lit : Obj} {base g1 m1 m2 e1 s1 n1 t1 : Nat} {v1 : Value} {xs1 cs1 : List Value} (ho : W3.ownsRow base e1 s1 v1 n1 xs1) (hg5 : (W3.alloc lit).grownBy W5 v1.ownBlock) (hg6 : W5.grownBy W6 (some g1)) (hr : RowL W3 g1 t1 cs1)
    (hb : g1 < base) (hm1 : m1 < base) (hm2 : m2 < base) (hn1 : m1 ≠ g1) (hn2 : m2 ≠ g1) (hbs : base ≤ W3.heap.size) :
    KeepsOthers W3 W6 ∧ KpB m1 m2 W3 W6 ∧ W3.heap.size ≤ W6.heap.size ∧ (∀ B w, B ≤ g1 → Below B w W3 → Below B w W6) ∧ (∀ g t cs, RowL W3 g t cs → g < base → g ≠ g1 → RowL W6 g t cs) ∧
    (∀ e s n v xs, W3.ownsRow base e s v n xs → (v.ownBlock = none ∨ v.ownBlock ≠ v1.ownBlock) → W6.ownsRow base e s v n xs) ∧ (∀ e s n v xs, W5.ownsRow base e s v n xs → W6.ownsRow base e s v n xs) := by
  have ha := below_new (below_self W3) lit
  have hs4 : (W3.alloc lit).heap.size = W3.heap.size + 1 := by simp
  have hr4 : RowL (W3.alloc lit) g1 t1 cs1 := hr.on ha
  have hob := own_block ho
  have hr5 : RowL W5 g1 t1 cs1 := hr4.grown hg5 (fun e => by have := hob g1 e.symm; omega)
  have hz5 := hg5.size
  have hz6 := hg6.size
  have hlast : ∀ e s n v xs, W5.ownsRow base e s v n xs → W6.ownsRow base e s v n xs := fun e s n v xs h => by
    refine h.kept hg6 ?_
    rcases h.2 with ⟨rfl, _⟩ | ⟨g, cap, cur, rfl, hbg, _⟩
    · exact .inl rfl
    · refine .inr fun e => ?_
      have : g = g1 := Option.some.inj e
      omega
  refine ⟨((keeps_below ha).trans (KeepsOthers.of_grownBy hg5 ?_)).trans (keeps_row hr5 hg6), kpB_t (kpB_t (kpB_below (by omega) (by omega) ha) (kpB_any (by omega) (by omega) (fun g e => by have := hob g e; omega) hg5)) (kpB_any (by omega) (by omega) (fun g e => by have := Option.some.inj e; omega) hg6), by omega, ?_, ?_, ?_, hlast⟩
  · intro j o e hj
    obtain ⟨-, hlt, o', ho', hc'⟩ := hob j e
    rw [show (W3.alloc lit).heap[j]? = W3.heap[j]? from ha.block j hlt, ho'] at hj
    cases Option.some.inj hj
    exact hc'
  · intro B w hB h
    have h1 : Below B w (W3.alloc lit) := h.alloc (by omega) lit
    exact (h1.grown hg5 (by omega) (fun g e => by have := hob g e; omega)).grown hg6 (by omega) (fun g e => by have := Option.some.inj e; omega)
  · intro g t cs h hg hne
    exact ((h.on ha).grown hg5 (fun e => by have := hob g e.symm; omega)).grown hg6 (fun e => hne (Option.some.inj e))
  · intro e s n v xs h hne
    exact hlast _ _ _ _ _ ((h.alloc lit).kept hg5 hne)
/-- append of one number, inside a fence. -/
theorem wpListIn_appI {F : Fence} {n : Nat} {ops : Array Oper} {rest : List Oper} {o : Oper} {a : Act} {Q : Exit → Act → World → Prop} (W3 : World) (base : Nat) (hg : o.guard = none) (s x : Operand)
    (hop : o.op = Op.call { callee := Callee.builtin Builtin.append, args := #[s, x], argTypes := #[36, 36] }) (A1 : Option Addr) (n1 c1 : Nat) (L1 : List Int) (y : Int) (hs : a.eval s = .slice A1 n1 c1) (ho1 : W3.ownsRow base 3 1 (.slice A1 n1 c1) n1 (intsV L1))
    (hx : a.eval x = .slice (some ⟨W3.heap.size, 0, none⟩) 1 1) (hm : n1 ≤ 100) (hb : base ≤ W3.heap.size)
    (hK : ∀ A5 c5 W5, W5.ownsRow base 3 1 (.slice A5 (n1 + 1) c5) (n1 + 1) (intsV (L1 ++ [y])) → (W3.alloc (.cells #[.int .i64 y] 3)).grownBy W5 (Value.slice A1 n1 c1).ownBlock → wpListIn F n Try.prog ops Q rest (a.put o.dst (.slice A5 (n1 + 1) c5)) W5) :
    wpListIn F n Try.prog ops Q (o :: rest) a (W3.alloc (.cells #[.int .i64 y] 3)) := by
  obtain ⟨ie, hie, hze, hse, hbe⟩ := info_parts int_info'
  have hc := (RowL.new W3 3 [.int .i64 y]).src (off := 0) (m := 1) (l := [.int .i64 y]) rfl rfl
  have h1c : ∀ u ∈ [Value.int .i64 y], u.oneCell' = true := by simp [Value.oneCell']
  refine wpListIn_append_own _ hg s x 36 hop base 3 ie (.int .i64 0) 1 8 Try.underlying36 hie hze hse hbe rfl (by omega) (.slice A1 n1 c1) n1 (intsV L1) hs (ho1.alloc _) ⟨W3.heap.size, 0, none⟩ 1 1 [.int .i64 y] hx rfl hc h1c (by simp only [maxLen]; omega) (by omega) (by rw [World.size_alloc]; omega) ?_
  intro v' W5 ho5 hg5 _
  obtain ⟨A5, c5, rfl⟩ := owns_slice ho5
  rw [← intsV_snoc] at ho5
  exact hK A5 c5 W5 ho5 hg5
end Go.Proofs.Ythjjjeolpdekoaa

/- entry.Parse (layer 8). -/
namespace Go.Proofs.Ythjjjeolpdekoaa
open Go.RowKit Go.Shelf Plain
attribute [local go_sem] Oper.semAt_some

theorem owns_rebase {W : World} {b base e s n : Nat} {v : Value} {xs : List Value} (h : W.ownsRow base e s v n xs) (hb : b ≤ base) : W.ownsRow b e s v n xs := by
  refine ⟨h.1, ?_⟩
  rcases h.2 with h0 | ⟨g, cap, cur, h1, h2, h3⟩
  · exact .inl h0
  · exact .inr ⟨g, cap, cur, h1, Nat.le_trans hb h2, h3⟩
theorem below_stored {W2 W3 : World} {o : Obj} (hg : (W2.alloc o).grownBy W3 (some W2.heap.size)) : Below W2.heap.size W2 W3 := (below_new (below_self W2) o).grown hg (by simp) (fun g hg => by have := Option.some.inj hg; omega)
theorem acc_split {base g1 g2 : Nat} {L1 : List EntV} {L2 : List Int} {W : World} (h : Acc base g1 g2 L1 L2 W) : ∃ A1 n1 c1 A2 n2 c2, RowL W g1 34 [.slice A1 n1 c1] ∧ W.ownsRow base 23 3 (.slice A1 n1 c1) n1 (flatE L1) ∧ RowL W g2 36 [.slice A2 n2 c2] ∧ W.ownsRow base 3 1 (.slice A2 n2 c2) n2 (intsV L2) ∧ L1.length = n1 ∧ L2.length = n2 ∧ W.cell? ⟨g1, 0, none⟩ = some (.slice A1 n1 c1) ∧ W.cell? ⟨g2, 0, none⟩ = some (.slice A2 n2 c2) := by
  obtain ⟨⟨A1, n1, c1, h1, h2⟩, ⟨A2, n2, c2, h3, h4⟩⟩ := h
  have e1 := h2.1
  have e2 := h4.1
  rw [flatE_len] at e1
  rw [intsV_len] at e2
  exact ⟨A1, n1, c1, A2, n2, c2, h1, h2, h3, h4, by omega, by omega, h1.cell 0, h3.cell 0⟩
theorem es_size : ∀ w, (Go.sizeOf 34).run Try.prog w = .ok 1 w := fun w => by kernel_rfl
theorem is_size : ∀ w, (Go.sizeOf 36).run Try.prog w = .ok 1 w := fun w => by kernel_rfl
set_option maxRecDepth 100000 in
set_option maxHeartbeats 1000000 in
theorem Parse_any {b o c : Nat} {l : List UInt8} {k : Int} (w : World) (h : Bs w w.heap.size (some ⟨b, o, none⟩) 64 l) (hc64 : 64 ≤ c) (hk0 : 0 ≤ k) (hk4 : k < 4) : Calls Try.prog 18 #[.slice (some ⟨b, o, none⟩) 64 c, .int .i64 k] w (PRet w (accE l k (List.finRange 4)) (accB l k (List.finRange 4))) := by
  have H := hide h
  clear h
  refine (callsIn_wide (n := 3)).1 ?_
  refine callsIn_of_wp_marks Try.func18 rfl trivial ?_ rfl
  simp only [Try.ntmps18, List.size_toArray, List.length_cons, List.length_nil, Nat.reduceAdd, Nat.reduceSub, Array.replicate_succ, Array.replicate_zero, List.push_toArray, List.append_toArray, List.nil_append, List.cons_append]
  gi_wp2
  refine ⟨trivial, (parts_in Fence.wide 2 trivial rfl _ _ _ _ _).mono ?_⟩
  rintro e w' ⟨rfl, rfl⟩
  gi_wp2
  obtain ⟨W4, hW4, R0, R1, R2, R3, HB, hs4⟩ := rows4 w [.slice none 0 0] [.slice none 0 0] [.slice (some ⟨b, o, none⟩) 64 c] [.int .i64 k] 34 36 24 3
  have hW4' : ((((w.alloc (.cells #[.slice none 0 0] 34)).alloc (.cells #[.slice none 0 0] 36)).alloc (.cells #[.slice (some ⟨b, o, none⟩) 64 c] 24)).alloc (.cells #[.int .i64 k] 3)) = W4 := hW4.symm
  rw [hW4']
  clear hW4 hW4'
  refine wpIn_rangeFunc_ownF rfl (by omega) (gf := 78) (lb := #[.pointer (some ⟨w.heap.size + 1 + 1, 0, none⟩), .pointer (some ⟨w.heap.size + 1 + 1 + 1, 0, none⟩)]) rfl trivial (enters_of Try.func78 (by kernel_rfl) rfl)
    (parts1_stops Fence.wide 2 trivial rfl (by omega) (w.heap.size + 1 + 1) (w.heap.size + 1 + 1 + 1) k b o c hk0 hk4 hc64 W4 (R2.cell 0) (R3.cell 0) (by omega) (by omega)) kpB_t
    (fun W b o o' hb hw h1 h2 => kpB_below (n := W4.heap.size) (by omega) (by omega) (belowK_b (Nat.le_refl _) W b o o' hb hw h1 h2)) (Below.refl _ _) (fun _ => rfl)
    (fun pre W => (Acc W4.heap.size w.heap.size (w.heap.size + 1) (accE l k pre) (accB l k pre) W ∧ W4.heap.size ≤ W.heap.size) ∧ Below w.heap.size w W)
    (fun _ _ _ => False)
    (OwnFrom.and (Go.Own.from (fun s A' B' row hs hg hr => ⟨hs.1.turned hg hr, Nat.le_trans hs.2 hg.size⟩) _) (ownFrom_below (Nat.le_refl _) (by omega)))
    (fun _ _ _ _ _ hs _ _ => hs)
    ⟨⟨⟨⟨none, 0, 0, R0, World.ownsRow_nil _ _ _ _⟩, ⟨none, 0, 0, R1, World.ownsRow_nil _ _ _ _⟩⟩, Nat.le_refl _⟩, HB⟩
    (fun x => { tmps := #[.slice (some ⟨b, o, none⟩) 64 c, .int .i64 k, undef, undef, .slice none 0 0, .slice none 0 0, .pointer (some ⟨w.heap.size, 0, none⟩), .pointer (some ⟨w.heap.size + 1, 0, none⟩), .int .i64 (k * 4 + (x.1 : Int)), .slice (some ⟨b, o + 16 * x.1, none⟩) 16 (c - 16 * x.1), undef, undef, undef, .slice (some ⟨b, o, none⟩) 64 c, .int .i64 k, .func (.func 78) #[] #[.pointer (some ⟨w.heap.size + 1 + 1, 0, none⟩), .pointer (some ⟨w.heap.size + 1 + 1 + 1, 0, none⟩)], .int .i64 (k * 4 + (x.1 : Int)), .slice (some ⟨b, o + 16 * x.1, none⟩) 16 (c - 16 * x.1), undef, undef, undef, undef, undef, undef, undef, undef, undef, undef, undef, undef, undef, undef, undef, undef, undef, undef, undef, undef], defers := [] }) ?assign ?body ?done ?stop
  case assign =>
    intro l' x W K hK
    dsimp only [encP]
    gi_wp2
    exact hK
  case body =>
    rintro l' pre x W ⟨⟨hacc, hsz⟩, hB⟩ hpl
    have hx4 := x.2
    have hcb := slS_bs (H.out.below hB) hx4
    gi_wp2
    refine ⟨trivial, (CallsIn.inRound l' (callsIn_wide.2 (EGet_any W (hcb.more hB.size) (by omega)))).mono ?_⟩
    rintro e W2 ⟨rfl, hbel⟩
    obtain ⟨y, hy⟩ : ∃ y, entE (slS l x.1) (k * 4 + (x.1 : Int)) = y := ⟨_, rfl⟩
    obtain ⟨gb, hgb⟩ : ∃ y, gotE (slS l x.1) (k * 4 + (x.1 : Int)) = y := ⟨_, rfl⟩
    obtain ⟨rb, hrb⟩ : ∃ y, readE (slS l x.1) (k * 4 + (x.1 : Int)) = y := ⟨_, rfl⟩
    rw [hy, hgb, hrb]
    have HGE : Hid (accE l k (pre ++ [x]) = if gb = true then accE l k pre ++ [y] else accE l k pre) := hide (by rw [accE_snoc, hgb, hy])
    have HGB : Hid (accB l k (pre ++ [x]) = if rb = true then accB l k pre else accB l k pre ++ [k * 4 + (x.1 : Int)]) := hide (by rw [accB_snoc, hrb])
    have HGR : Hid (gb = true → rb = true) := hide (fun h => by rw [← hrb]; unfold readE; rw [hgb, h]; rfl)
    clear hy hgb hrb
    have hacc2 := hacc.on hbel
    have hs2 := hbel.size
    have hB2 := below_step hB hbel
    have hle1 := accE_len l k pre
    have hle2 := accB_len l k pre
    obtain ⟨ie, hie, hze, hse, hbe⟩ := info_parts ent_info
    obtain ⟨ii, hii, hzi, hsi, hbi⟩ := info_parts int_info'
    clear hacc
    cases gb
    · cases rb
      · gi_wp2_with (first | (refine wpListIn_plain rfl fun K2 hK2 => ?_; refine wpIn_storeW 23 (.tmp 10) (.tmp 22) rfl 3 ent_size W2.heap.size 23 rfl [.int .i64 0, .int .i64 0, .string ⟨#[]⟩] (cellsE y) rfl (RowL.new W2 23 [.int .i64 0, .int .i64 0, .string ⟨#[]⟩]) rfl rfl ents3 ?_; intro W3 hr3 hg3 hz3; refine hK2 _ _ ?_; clear hK2 K2; have hb3 := below_stored hg3; have hs3 := hb3.size; clear hg3 hz3; obtain ⟨A1, n1, c1, A2, n2, c2, hb1, ho1, hb2, ho2, hn1, hn2, hc1, hc2⟩ := acc_split (hacc2.on hb3); clear hacc2) | (refine wpListIn_appI W3 W4.heap.size rfl (.tmp 32) (.tmp 34) rfl A2 n2 c2 (accB l k pre) (k * 4 + (x.1 : Int)) rfl ho2 rfl (by omega) (by omega) ?_; intro A5 c5 W5 ho5 hg5; refine wpListIn_plain rfl fun K2 hK2 => ?_; refine wpIn_storeV 36 (.tmp 7) (.tmp 35) rfl is_size (w.heap.size + 1) 36 rfl (.slice A5 (n2 + 1) c5) rfl rfl rfl _ ((hb2.on (below_new (below_self W3) _)).grown hg5 (fun e => by have := own_block ho2 _ e.symm; omega)) ?_; intro W6 hr6 hg6; refine hK2 _ _ ?_; clear hK2 K2; obtain ⟨q1, q2, q3, q4, q5, q6, q7⟩ := app_keeps (m1 := w.heap.size + 1 + 1) (m2 := w.heap.size + 1 + 1 + 1) ho2 hg5 hg6 hb2 (by omega) (by omega) (by omega) (by omega) (by omega) (by omega); clear hc1 hc2))
        have hk3 := below_step hbel hb3
        have e1 : accE l k (pre ++ [x]) = accE l k pre := HGE.out
        have e2 : accB l k (pre ++ [x]) = accB l k pre ++ [k * 4 + (x.1 : Int)] := by have := HGB.out; simpa using this
        exact ⟨(keeps_below hk3).trans q1, kpB_t (kpB_below (n := W.heap.size) (by omega) (by omega) hk3) q2, ⟨⟨⟨A1, n1, c1, q5 _ _ _ hb1 (by omega) (by omega), by rw [e1]; exact q6 _ _ _ _ _ ho1 (owns_apart ho2 ho1 (by decide))⟩, ⟨A5, n2 + 1, c5, hr6, by rw [e2]; exact q7 _ _ _ _ _ ho5⟩⟩, by omega⟩, q4 _ _ (by omega) (below_step hB2 hb3)⟩
      · gi_wp2_with (refine wpListIn_plain rfl fun K2 hK2 => ?_; refine wpIn_storeW 23 (.tmp 10) (.tmp 22) rfl 3 ent_size W2.heap.size 23 rfl [.int .i64 0, .int .i64 0, .string ⟨#[]⟩] (cellsE y) rfl (RowL.new W2 23 [.int .i64 0, .int .i64 0, .string ⟨#[]⟩]) rfl rfl ents3 ?_; intro W3 hr3 hg3 hz3; refine hK2 _ _ ?_; clear hK2 K2; have hb3 := below_stored hg3; have hs3 := hb3.size; clear hg3 hz3; obtain ⟨A1, n1, c1, A2, n2, c2, hb1, ho1, hb2, ho2, hn1, hn2, hc1, hc2⟩ := acc_split (hacc2.on hb3); clear hacc2)
        have hk3 := below_step hbel hb3
        have e1 : accE l k (pre ++ [x]) = accE l k pre := HGE.out
        have e2 : accB l k (pre ++ [x]) = accB l k pre := by have := HGB.out; simpa using this
        exact ⟨keeps_below hk3, kpB_below (n := W.heap.size) (by omega) (by omega) hk3, ⟨⟨⟨A1, n1, c1, hb1, by rw [e1]; exact ho1⟩, ⟨A2, n2, c2, hb2, by rw [e2]; exact ho2⟩⟩, by omega⟩, below_step hB2 hb3⟩
    · have hm1 : (accE l k pre).length + 1 ≤ maxLen := by simp only [maxLen]; omega
      cases rb
      · exact absurd (HGR.out rfl) (by simp)
      · gi_wp2_with (first | (refine wpListIn_plain rfl fun K2 hK2 => ?_; refine wpIn_storeW 23 (.tmp 10) (.tmp 22) rfl 3 ent_size W2.heap.size 23 rfl [.int .i64 0, .int .i64 0, .string ⟨#[]⟩] (cellsE y) rfl (RowL.new W2 23 [.int .i64 0, .int .i64 0, .string ⟨#[]⟩]) rfl rfl ents3 ?_; intro W3 hr3 hg3 hz3; refine hK2 _ _ ?_; clear hK2 K2; have hb3 := below_stored hg3; have hs3 := hb3.size; clear hg3 hz3; obtain ⟨A1, n1, c1, A2, n2, c2, hb1, ho1, hb2, ho2, hn1, hn2, hc1, hc2⟩ := acc_split (hacc2.on hb3); clear hacc2) | (refine wpListIn_plain rfl fun K2 hK2 => ?_; refine wpIn_loadW 23 (.tmp 10) rfl 3 ent_agg ent_size W2.heap.size 23 rfl (cellsE y) hr3 rfl ?_; refine hK2 _ _ ?_; clear hK2 K2; refine wpListIn_plain rfl fun K2 hK2 => ?_; refine wpIn_lit1 34 (.tmp 27) rfl (.agg (cellsE y).toArray) (.slice (some ⟨W3.heap.size, 0, none⟩) 1 1) rfl (lit_ent y W3) ?_; refine hK2 _ _ ?_; clear hK2 K2; refine wpListIn_appE W3 W4.heap.size rfl (.tmp 26) (.tmp 28) rfl A1 n1 c1 (accE l k pre) y rfl ho1 rfl (by omega) (by omega) ?_; intro A5 c5 W5 ho5 hg5; refine wpListIn_plain rfl fun K2 hK2 => ?_; refine wpIn_storeV 34 (.tmp 6) (.tmp 29) rfl es_size w.heap.size 34 rfl (.slice A5 (n1 + 1) c5) rfl rfl rfl _ ((hb1.on (below_new (below_self W3) _)).grown hg5 (fun e => by have := own_block ho1 _ e.symm; omega)) ?_; intro W6 hr6 hg6; refine hK2 _ _ ?_; clear hK2 K2; obtain ⟨q1, q2, q3, q4, q5, q6, q7⟩ := app_keeps (m1 := w.heap.size + 1 + 1) (m2 := w.heap.size + 1 + 1 + 1) ho1 hg5 hg6 hb1 (by omega) (by omega) (by omega) (by omega) (by omega) (by omega); clear hc1 hc2))
        have hk3 := below_step hbel hb3
        have e1 : accE l k (pre ++ [x]) = accE l k pre ++ [y] := by have := HGE.out; simpa using this
        have e2 : accB l k (pre ++ [x]) = accB l k pre := by have := HGB.out; simpa using this
        exact ⟨(keeps_below hk3).trans q1, kpB_t (kpB_below (n := W.heap.size) (by omega) (by omega) hk3) q2, ⟨⟨⟨A5, n1 + 1, c5, hr6, by rw [e1]; exact q7 _ _ _ _ _ ho5⟩, ⟨A2, n2, c2, q5 _ _ _ hb2 (by omega) (by omega), by rw [e2]; exact q6 _ _ _ _ _ ho2 (owns_apart ho1 ho2 (by decide))⟩⟩, by omega⟩, q4 _ _ (by omega) (below_step hB2 hb3)⟩
  case done =>
    rintro D ys W hD rfl ⟨⟨⟨⟨A1, n1, c1, hb1, ho1⟩, ⟨A2, n2, c2, hb2, ho2⟩⟩, hsz⟩, hB⟩ hK
    have hc1 : W.cell? ⟨w.heap.size, 0, none⟩ = some (.slice A1 n1 c1) := hb1.cell 0
    have hc2 : W.cell? ⟨w.heap.size + 1, 0, none⟩ = some (.slice A2 n2 c2) := hb2.cell 0
    have hro : Fence.wide.round = none := rfl
    have hmx : Try.prog.follows .mixedOrders = true := by kernel_rfl
    gi_wp2
    refine wpIn_region_any (by assumption) ?_
    (try (change wpAnyIn _ _ _ _ _ _ _ _ _ (World.drew _)))
    refine wpAnyIn_ready (rs := [0, 1]) (by kernel_rfl) (by simp) ?_
    refine AllReadyIn.cons rfl (fun K hK => ?_) ?_
    · skip
      go_simp
      refine hK _ _ ?_
      clear hK K
      refine wpAnyIn_ready (rs := [1, 2]) (by kernel_rfl) (by simp) ?_
      refine AllReadyIn.cons rfl (fun K hK => ?_) ?_
      · skip
        go_simp
        refine hK _ _ ?_
        clear hK K
        refine wpAnyIn_ready (rs := [2]) (by kernel_rfl) (by simp) ?_
        refine AllReadyIn.cons rfl (fun K hK => ?_) ?_
        · skip
          go_simp
          refine hK _ _ ?_
          clear hK K
          refine wpAnyIn_ready (rs := [3]) (by kernel_rfl) (by simp) ?_
          refine AllReadyIn.cons rfl (fun K hK => ?_) ?_
          · skip
            go_simp
            refine hK _ _ ?_
            clear hK K
            refine wpAnyIn_done (by kernel_rfl) ?_ _
            gi_wp2
            refine ⟨by simp, .inl ⟨_, _, rfl, run_takeDeferred (show W.drew.heap[D]? = some (.deferred (some [])) from hK), ?_⟩⟩
            have hpb := belowK_b (w := W4) (Nat.le_refl _) W.drew D _ (.deferred none) hD hK rfl rfl
            have hg5 := grownBy_putObj' W.drew D (.deferred none)
            have o1 := owns_rebase (own_owns ho1.drew hg5 (fun r e => by cases e; exact ⟨_, hK, rfl⟩)) (b := w.heap.size) (by omega)
            have o2 := owns_rebase (own_owns ho2.drew hg5 (fun r e => by cases e; exact ⟨_, hK, rfl⟩)) (b := w.heap.size) (by omega)
            exact ⟨.tuple #[.slice A1 n1 c1, .slice A2 n2 c2], by simp [results, Try.results18, go_sem], _, _, _, _, _, _, rfl, o1, o2, (below_drewN hB 1).trans (hpb.mono (by omega))⟩
          exact AllReadyIn.nil
        exact AllReadyIn.nil
      refine AllReadyIn.cons rfl (fun K hK => ?_) ?_
      · skip
        go_simp
        refine hK _ _ ?_
        clear hK K
        refine wpAnyIn_ready (rs := [1]) (by kernel_rfl) (by simp) ?_
        refine AllReadyIn.cons rfl (fun K hK => ?_) ?_
        · skip
          go_simp
          refine hK _ _ ?_
          clear hK K
          refine wpAnyIn_ready (rs := [3]) (by kernel_rfl) (by simp) ?_
          refine AllReadyIn.cons rfl (fun K hK => ?_) ?_
          · skip
            go_simp
            refine hK _ _ ?_
            clear hK K
            refine wpAnyIn_done (by kernel_rfl) ?_ _
            gi_wp2
            refine ⟨by simp, .inl ⟨_, _, rfl, run_takeDeferred (show W.drew.heap[D]? = some (.deferred (some [])) from hK), ?_⟩⟩
            have hpb := belowK_b (w := W4) (Nat.le_refl _) W.drew D _ (.deferred none) hD hK rfl rfl
            have hg5 := grownBy_putObj' W.drew D (.deferred none)
            have o1 := owns_rebase (own_owns ho1.drew hg5 (fun r e => by cases e; exact ⟨_, hK, rfl⟩)) (b := w.heap.size) (by omega)
            have o2 := owns_rebase (own_owns ho2.drew hg5 (fun r e => by cases e; exact ⟨_, hK, rfl⟩)) (b := w.heap.size) (by omega)
            exact ⟨.tuple #[.slice A1 n1 c1, .slice A2 n2 c2], by simp [results, Try.results18, go_sem], _, _, _, _, _, _, rfl, o1, o2, (below_drewN hB 1).trans (hpb.mono (by omega))⟩
          exact AllReadyIn.nil
        exact AllReadyIn.nil
      exact AllReadyIn.nil
    refine AllReadyIn.cons rfl (fun K hK => ?_) ?_
    · skip
      go_simp
      refine hK _ _ ?_
      clear hK K
      refine wpAnyIn_ready (rs := [0]) (by kernel_rfl) (by simp) ?_
      refine AllReadyIn.cons rfl (fun K hK => ?_) ?_
      · skip
        go_simp
        refine hK _ _ ?_
        clear hK K
        refine wpAnyIn_ready (rs := [2]) (by kernel_rfl) (by simp) ?_
        refine AllReadyIn.cons rfl (fun K hK => ?_) ?_
        · skip
          go_simp
          refine hK _ _ ?_
          clear hK K
          refine wpAnyIn_ready (rs := [3]) (by kernel_rfl) (by simp) ?_
          refine AllReadyIn.cons rfl (fun K hK => ?_) ?_
          · skip
            go_simp
            refine hK _ _ ?_
            clear hK K
            refine wpAnyIn_done (by kernel_rfl) ?_ _
            gi_wp2
            refine ⟨by simp, .inl ⟨_, _, rfl, run_takeDeferred (show W.drew.heap[D]? = some (.deferred (some [])) from hK), ?_⟩⟩
            have hpb := belowK_b (w := W4) (Nat.le_refl _) W.drew D _ (.deferred none) hD hK rfl rfl
            have hg5 := grownBy_putObj' W.drew D (.deferred none)
            have o1 := owns_rebase (own_owns ho1.drew hg5 (fun r e => by cases e; exact ⟨_, hK, rfl⟩)) (b := w.heap.size) (by omega)
            have o2 := owns_rebase (own_owns ho2.drew hg5 (fun r e => by cases e; exact ⟨_, hK, rfl⟩)) (b := w.heap.size) (by omega)
            exact ⟨.tuple #[.slice A1 n1 c1, .slice A2 n2 c2], by simp [results, Try.results18, go_sem], _, _, _, _, _, _, rfl, o1, o2, (below_drewN hB 1).trans (hpb.mono (by omega))⟩
          exact AllReadyIn.nil
        exact AllReadyIn.nil
      exact AllReadyIn.nil
    exact AllReadyIn.nil
  case stop =>
    rintro D c pre W _ _ h _
    exact h.elim
end Go.Proofs.Ythjjjeolpdekoaa

/- The law's awake (layer 8). -/
namespace Go.Proofs.Ythjjjeolpdekoaa
open Go.RowKit Plain

theorem flatE_get {l : List EntV} {i j : Nat} {x : EntV} (h : l[i]? = some x) (hj : j < 3) : (flatE l)[i * 3 + j]? = (cellsE x)[j]? := by
  induction l generalizing i with
  | nil => simp at h
  | cons y r ih =>
    have e : flatE (y :: r) = cellsE y ++ flatE r := rfl
    rw [e]
    have hy : (cellsE y).length = 3 := rfl
    cases i with
    | zero =>
      simp only [List.getElem?_cons_zero, Option.some.injEq] at h
      subst h
      rw [List.getElem?_append_left (by rw [hy]; omega), Nat.zero_mul, Nat.zero_add]
    | succ i =>
      rw [List.getElem?_append_right (by rw [hy]; omega), hy, show (i + 1) * 3 + j - 3 = i * 3 + j by omega]
      exact ih (by simpa using h)
theorem ent_R (w : World) (D : Nat → Prop) (x : EntV) : entEn.R w D (cellsE x) x := ⟨[_], [_, _], rfl, rfl, [_], [_], rfl, rfl, rfl⟩
theorem rde_row {w : World} {g t : Nat} {cs : List Value} {l : List EntV} {D : Nat → Prop} (h : RowL w g t cs) (hD : D g) (hc : cs.take (l.length * 3) = flatE l) : RdE entEn w D (some ⟨g, 0, none⟩) l.length l := by
  refine ⟨rfl, fun _ => ⟨g, 0, rfl, hD, fun i x hx => ⟨cellsE x, ent_R _ _ _, fun j v hv => ?_⟩⟩⟩
  have hj : j < 3 := (List.getElem?_eq_some_iff.1 hv).1
  have hi := (List.getElem?_eq_some_iff.1 hx).1
  rw [Nat.zero_add, show i * entEn.k + j = i * 3 + j from rfl, h.cell, ← hv, ← flatE_get hx hj, ← hc, List.getElem?_take_of_lt (by omega)]
theorem rde_owns {W : World} {base n c : Nat} {A : Option Addr} {l : List EntV} (h : W.ownsRow base 23 3 (.slice A n c) n (flatE l)) : RdE entEn W (Under W.heap.size) A n l := by
  have hl := h.1
  rw [flatE_len] at hl
  have hn : l.length = n := by omega
  rcases h.2 with ⟨_, h0⟩ | ⟨g, cap, cur, he, _, hg, hnc, _, hcs, ht⟩
  · subst h0
    obtain rfl : l = [] := List.eq_nil_of_length_eq_zero hn
    exact RdE.none_ _ _ _ _
  · cases he
    subst hn
    have hr : RowL W g 23 cur.toList := by simpa [RowL] using hg
    exact rde_row hr hr.lt ht
theorem owns_cap {W : World} {base e s n c : Nat} {A : Option Addr} {xs : List Value} (h : W.ownsRow base e s (.slice A n c) n xs) : n ≤ c := by
  rcases h.2 with ⟨_, h0⟩ | ⟨g, cap, cur, he, _, _, hnc, _⟩
  · omega
  · cases he; exact hnc
theorem rde_lit (x : EntV) (W : World) : RdE entEn (W.alloc (.cells (cellsE x).toArray 23)) (Under (W.alloc (.cells (cellsE x).toArray 23)).heap.size) (some ⟨W.heap.size, 0, none⟩) 1 [x] :=
  rde_row (l := [x]) (RowL.new W 23 (cellsE x)) (RowL.new W 23 (cellsE x)).lt (by simp [flatE, cellsE])
theorem wp_litE {P : Program} {w w' : World} {o : Oper} {a : Act} {K : Act → World → Prop} {Q : Exit → Act → World → Prop} (t : Nat) (x : Operand) (vx v : Value) (ho : o.op = .buildSlice t 1 #[(0, x)]) (hx : a.eval x = vx) (hr : (Instr.buildSlice t 1 #[(0, vx)]).run P w = .ok v w') (hK : K (a.put o.dst v) w') : o.wp P a w K Q := by
  unfold Oper.wp execOp
  simp only [ho, List.map_toArray, List.map_cons, List.map_nil, hx, Sem.run_bind, Sem.run_pure, Result.andThen_ok, hr]
  exact hK
theorem wpList_litE {P : Program} {w w' : World} {ops : Array Oper} {rest : List Oper} {o : Oper} {a : Act} {Q : Exit → Act → World → Prop} (hgd : o.guard = none) (t : Nat) (x : Operand) (vx v : Value) (ho : o.op = .buildSlice t 1 #[(0, x)]) (hx : a.eval x = vx) (hr : (Instr.buildSlice t 1 #[(0, vx)]).run P w = .ok v w') (hK : wpList P ops Q rest (a.put o.dst v) w') : wpList P ops Q (o :: rest) a w := by
  refine wpList_plain hgd fun K hK' => ?_
  exact wp_litE t x vx v ho hx hr (hK' _ _ hK)
theorem EqualE_c {A B : Option Addr} {n m c d : Nat} {l k : List EntV} {b : Bool} (w : World) (ha : RdE entEn w (Under w.heap.size) A n l) (hb : RdE entEn w (Under w.heap.size) B m k) (hn : n ≤ 140737488355328) (h : (l == k) = b) :
    Calls Try.prog 24 #[.slice A n c, .slice B m d] w (BoolB w b) := by
  subst h; exact EqualE_any w ha hb hn
theorem Parse_c {b o c : Nat} {l : List UInt8} {k : Int} {L1 : List EntV} {L2 : List Int} (w : World) (h : Bs w w.heap.size (some ⟨b, o, none⟩) 64 l) (hc64 : 64 ≤ c) (hk0 : 0 ≤ k) (hk4 : k < 4) (h1 : accE l k (List.finRange 4) = L1) (h2 : accB l k (List.finRange 4) = L2) : Calls Try.prog 18 #[.slice (some ⟨b, o, none⟩) 64 c, .int .i64 k] w (PRet w L1 L2) := by
  subst h1 h2; exact Parse_any w h hc64 hk0 hk4
theorem EGet_c {A : Option Addr} {m c : Nat} {l : List UInt8} {slot : Int} {x : EntV} {p q : Bool} (h1 : entE l slot = x) (h2 : gotE l slot = p) (h3 : readE l slot = q) (w : World) (ha : Bs w w.heap.size A m l) (hmc : m ≤ c) : Calls Try.prog 12 #[.slice A m c, .int .i64 slot] w (ERet w x p q) := by
  subst h1 h2 h3; exact EGet_any w ha hmc
def e8 : EntV := ⟨5, 3, [97, 98]⟩
def b8 : List UInt8 := blkS [e8] 1 (List.finRange 4)
theorem aw8_1 : accE b8 1 (List.finRange 4) = [e8] := by decide +kernel
theorem aw8_2 : accB b8 1 (List.finRange 4) = [] := by decide +kernel
theorem aw8_3 : entE (zeros 16) 2 = ent0 := by decide +kernel
theorem aw8_4 : gotE (zeros 16) 2 = false := by decide +kernel
theorem aw8_5 : readE (zeros 16) 2 = true := by decide +kernel
theorem aw8_eq : (splice b8 (16 * (1 : Fin 4).1) (zeros 16) == zeros 64) = true := by decide +kernel
theorem aw8_short : Short [e8] := by intro x hx; rw [List.mem_singleton] at hx; subst hx; decide
set_option maxRecDepth 100000 in
set_option maxHeartbeats 1600000 in
theorem awake8_any (w : World) : Calls Try.prog 9 #[] w (LawOk w) := by
  obtain ⟨hr1, hb1, hs1⟩ := rows1 w [.int .i64 5, .int .i64 3, .string ⟨#[97, 98]⟩] 23
  have HE1 := hide hr1
  have HW1 := hide hb1
  obtain ⟨Z, hZ, hzl⟩ := make64
  have HZL := hide hzl
  clear hr1 hb1 hs1 hzl
  go_enter Try.func9, Try.ntmps9
  go_wp2_with (refine wpList_litE rfl 34 (.tmp 9) (.agg (cellsE e8).toArray) (.slice (some ⟨(w.alloc (.cells #[.int .i64 5, .int .i64 3, .string ⟨#[97, 98]⟩] 23)).heap.size, 0, none⟩) 1 1) rfl rfl (lit_ent e8 (w.alloc (.cells #[.int .i64 5, .int .i64 3, .string ⟨#[97, 98]⟩] 23))) ?_)
  have hz : (w.alloc (.cells #[.int .i64 5, .int .i64 3, .string ⟨#[97, 98]⟩] 23)).heap.size = w.heap.size + 1 := by simp
  have hrl := rde_lit e8 (w.alloc (.cells #[.int .i64 5, .int .i64 3, .string ⟨#[97, 98]⟩] 23))
  have hb2 := below_new (below_self (w.alloc (.cells #[.int .i64 5, .int .i64 3, .string ⟨#[97, 98]⟩] 23))) (.cells (cellsE e8).toArray 23)
  have HE2 := hide (HE1.out.on hb2)
  have HW2 := hide (below_step HW1.out hb2)
  rw [hz] at hrl
  have HRL := hide hrl
  clear hz hrl hb2 HE1 HW1
  generalize (w.alloc (.cells #[.int .i64 5, .int .i64 3, .string ⟨#[97, 98]⟩] 23)) = w1 at *
  refine (Block_any (k := 1) (w1.alloc (.cells (cellsE e8).toArray 23)) HRL.out aw8_short (by omega) (by omega) (by omega)).mono ?_
  rintro e w3 ⟨A3, c3, rfl, hown, hbel⟩
  have hcap := hown.cap
  obtain ⟨g3, cs3, rfl, -, -, -⟩ := hown.row (by omega)
  have HB3 : Hid (Own w3 (w1.alloc (.cells (cellsE e8).toArray 23)).heap.size 5 (some ⟨g3, 0, none⟩) 64 c3 b8) := hide hown
  have HE3 := hide (HE2.out.on hbel)
  have HW3 := hide (below_step HW2.out hbel)
  clear hown hbel HE2 HW2 HRL
  go_wp2_with fail
  refine (Parse_c _ HB3.out.bs hcap (by omega) (by omega) aw8_1 aw8_2).mono ?_
  rintro e w4 ⟨A4, n4, c4, A5, n5, c5, rfl, ho4, ho5, hbel⟩
  obtain rfl : n4 = 1 := by have := ho4.1; have e : (flatE [e8]).length = 3 := rfl; omega
  obtain rfl : n5 = 0 := by have := ho5.1; have e : (intsV []).length = 0 := rfl; omega
  have HL4 := hide (rde_owns ho4)
  have HB4 := hide (HB3.out.below hbel)
  have HE4 := hide (HE3.out.on hbel)
  have HW4 := hide (below_step HW3.out hbel)
  clear ho4 ho5 hbel HB3 HE3 HW3
  go_wp2_with (with_reducible refine wpList_make_Bs _ rfl _ _ 24 rfl 5 Try.underlying24 info_u8 _ _ _ _ 16 rfl rfl rfl rfl (by omega) ?_; intro w5 hr5 hb5; have HM5 := hide hr5; have HL5 := hide (HL4.out.on hb5); have HB5 := hide (HB4.out.below hb5); have HE5 := hide (HE4.out.on hb5); have HW5 := hide (below_step HW4.out hb5); clear hr5 hb5)
  refine (EGet_c aw8_3 aw8_4 aw8_5 _ (HM5.out.own_bvs (base := 0) rfl (zeros_length 16) (Nat.zero_le _) (by omega)).bs (by omega)).mono ?_
  rintro e w6 ⟨rfl, hbel⟩
  obtain ⟨hr7, hb7, hs7⟩ := rows1 w6 [.int .i64 0, .int .i64 0, .string ⟨#[]⟩] 23
  have hbb := hbel.trans (hb7.mono hbel.size)
  have HL7 := hide (HL5.out.on hbb)
  have HB7 := hide (HB5.out.below hbb)
  have HE7 := hide (HE5.out.on hbb)
  have HW7 := hide (below_step HW5.out hbb)
  clear hbel hr7 hb7 hs7 hbb HL5 HB5 HE5 HW5 HM5
  unfold ent0
  go_wp2_with fail
  generalize (w6.alloc (.cells #[.int .i64 0, .int .i64 0, .string ⟨#[]⟩] 23)) = w7 at *
  refine wp_region_G (fun w' => Below w7.heap.size w7 w') (.take 0 (.take 1 (.take 2 (.take 3 (.take 4 (.take 5 (.alt 6 (.alt 7 (.take 8 (.take 9 (.take 10 (.take 11 (.take 12 (.take 13 (.take 14 (.take 15 (.take 16 (.take 17 (.take 18 (.take 19 (.take 20 (.take 21 (.take 22 (.alt 23 (.alt 24 (.alt 25 (.take 26 (.take 27 .leaf)) .stop) .stop) (.alt 24 (.alt 23 (.alt 25 (.take 26 (.take 27 .leaf)) .stop) .stop) .stop))))))))))))))))) .stop) .stop))))))) (by kernel_rfl) (by kernel_rfl) (by kernel_rfl) (by kernel_rfl) rfl (fun _ _ _ _ _ h => h) (below_drew (below_self w7)) (fun hHeld => ?_)
  simp only [PT.map, List.getElem?_toArray, List.getElem?_cons_succ, List.getElem?_cons_zero]
  refine wpPT_take (v := ?_) (by kernel_rfl) (fun wS hSw => ?_) ?_
  rotate_left
  · (try dsimp only at hSw); go_simp; (try with_reducible rfl)
  (try simp only [Act.put, List.setIfInBounds_toArray, List.set_cons_zero, List.set_cons_succ])
  refine wpPT_take (v := ?_) (by kernel_rfl) (fun wS hSw => ?_) ?_
  rotate_left
  · (try dsimp only at hSw); go_simp; (try with_reducible rfl)
  (try simp only [Act.put, List.setIfInBounds_toArray, List.set_cons_zero, List.set_cons_succ])
  refine wpPT_take (v := ?_) (by kernel_rfl) (fun wS hSw => ?_) ?_
  rotate_left
  · (try dsimp only at hSw); go_simp; (try with_reducible rfl)
  (try simp only [Act.put, List.setIfInBounds_toArray, List.set_cons_zero, List.set_cons_succ])
  refine wpPT_take (v := ?_) (by kernel_rfl) (fun wS hSw => ?_) ?_
  rotate_left
  · (try dsimp only at hSw); go_simp; (try with_reducible rfl)
  (try simp only [Act.put, List.setIfInBounds_toArray, List.set_cons_zero, List.set_cons_succ])
  refine wpPT_take (v := ?_) (by kernel_rfl) (fun wS hSw => ?_) ?_
  rotate_left
  · (try dsimp only at hSw); go_simp; (try with_reducible rfl)
  (try simp only [Act.put, List.setIfInBounds_toArray, List.set_cons_zero, List.set_cons_succ])
  refine wpPT_take (v := ?_) (by kernel_rfl) (fun wS hSw => ?_) ?_
  rotate_left
  · refine execOp_load (x := .tmp 1) (k := 3) (g := w.heap.size) (off := 0) (cs := [.int .i64 5, .int .i64 3, .string ⟨#[97, 98]⟩]) ?_ ent_agg ent_size ?_ (RowL.at0 (HE7.out.on hSw)) rfl <;> rfl
  (try simp only [Act.put, List.setIfInBounds_toArray, List.set_cons_zero, List.set_cons_succ])
  refine wpPT_alt (by kernel_rfl) (fun K hK => ?_) ?_
  rotate_left
  · exact wpPT_stop
  have hOld := hide hHeld
  clear hHeld
  refine wp_litE 34 (.tmp 28) (.agg (cellsE e8).toArray) (.slice (some ⟨w7.drew.heap.size, 0, none⟩) 1 1) ?_ ?_ (lit_ent e8 w7.drew) ?_
  · rfl
  · rfl
  have hb' := below_new (below_self w7.drew) (.cells (cellsE e8).toArray 23)
  have HLIT := hide (rde_lit e8 w7.drew)
  have HL8 := hide (HL7.out.on (hOld.out.trans (hb'.mono hOld.out.size)))
  refine hK.out _ _ (hOld.out.trans (hb'.mono hOld.out.size)) (fun hHeld => ?_)
  clear hK K
  generalize w7.drew.alloc (.cells (cellsE e8).toArray 23) = w8 at *
  (try simp only [Act.put, List.setIfInBounds_toArray, List.set_cons_zero, List.set_cons_succ])
  refine wpPT_alt (by kernel_rfl) (fun K hK => ?_) ?_
  rotate_left
  · exact wpPT_stop
  have hOld := hide hHeld
  clear hHeld
  go_simp
  go_at_call 24
  refine (EqualE_c (b := true) _ HL8.out HLIT.out (by omega) (by decide +kernel)).mono ?_
  rintro e w' ⟨rfl, hbel⟩
  have hb' := hbel
  refine hK.out _ _ (hOld.out.trans (hb'.mono hOld.out.size)) (fun hHeld => ?_)
  clear hK K
  (try simp only [Act.put, List.setIfInBounds_toArray, List.set_cons_zero, List.set_cons_succ])
  refine wpPT_take (v := ?_) (by kernel_rfl) (fun wS hSw => ?_) ?_
  rotate_left
  · (try dsimp only at hSw); go_simp; (try with_reducible rfl)
  (try simp only [Act.put, List.setIfInBounds_toArray, List.set_cons_zero, List.set_cons_succ])
  refine wpPT_take (v := ?_) (by kernel_rfl) (fun wS hSw => ?_) ?_
  rotate_left
  · (try dsimp only at hSw); go_simp; (try with_reducible rfl)
  (try simp only [Act.put, List.setIfInBounds_toArray, List.set_cons_zero, List.set_cons_succ])
  refine wpPT_take (v := ?_) (by kernel_rfl) (fun wS hSw => ?_) ?_
  rotate_left
  · (try dsimp only at hSw); go_simp; (try with_reducible rfl)
  (try simp only [Act.put, List.setIfInBounds_toArray, List.set_cons_zero, List.set_cons_succ])
  refine wpPT_take (v := ?_) (by kernel_rfl) (fun wS hSw => ?_) ?_
  rotate_left
  · (try dsimp only at hSw); go_simp; (try with_reducible rfl)
  (try simp only [Act.put, List.setIfInBounds_toArray, List.set_cons_zero, List.set_cons_succ])
  refine wpPT_take (v := ?_) (by kernel_rfl) (fun wS hSw => ?_) ?_
  rotate_left
  · (try dsimp only at hSw); go_simp; (try with_reducible rfl)
  (try simp only [Act.put, List.setIfInBounds_toArray, List.set_cons_zero, List.set_cons_succ])
  refine wpPT_take (v := ?_) (by kernel_rfl) (fun wS hSw => ?_) ?_
  rotate_left
  · (try dsimp only at hSw); go_simp; (try with_reducible rfl)
  (try simp only [Act.put, List.setIfInBounds_toArray, List.set_cons_zero, List.set_cons_succ])
  refine wpPT_take (v := ?_) (by kernel_rfl) (fun wS hSw => ?_) ?_
  rotate_left
  · (try dsimp only at hSw); go_simp; (try with_reducible rfl)
  (try simp only [Act.put, List.setIfInBounds_toArray, List.set_cons_zero, List.set_cons_succ])
  refine wpPT_take (v := ?_) (by kernel_rfl) (fun wS hSw => ?_) ?_
  rotate_left
  · (try dsimp only at hSw); go_simp; (try with_reducible rfl)
  (try simp only [Act.put, List.setIfInBounds_toArray, List.set_cons_zero, List.set_cons_succ])
  refine wpPT_take (v := ?_) (by kernel_rfl) (fun wS hSw => ?_) ?_
  rotate_left
  · (try dsimp only at hSw); go_simp; (try with_reducible rfl)
  (try simp only [Act.put, List.setIfInBounds_toArray, List.set_cons_zero, List.set_cons_succ])
  refine wpPT_take (v := ?_) (by kernel_rfl) (fun wS hSw => ?_) ?_
  rotate_left
  · (try dsimp only at hSw); go_simp; (try with_reducible rfl)
  (try simp only [Act.put, List.setIfInBounds_toArray, List.set_cons_zero, List.set_cons_succ])
  refine wpPT_take (v := ?_) (by kernel_rfl) (fun wS hSw => ?_) ?_
  rotate_left
  · (try dsimp only at hSw); go_simp; (try with_reducible rfl)
  (try simp only [Act.put, List.setIfInBounds_toArray, List.set_cons_zero, List.set_cons_succ])
  refine wpPT_take (v := ?_) (by kernel_rfl) (fun wS hSw => ?_) ?_
  rotate_left
  · (try dsimp only at hSw); go_simp; (try with_reducible rfl)
  (try simp only [Act.put, List.setIfInBounds_toArray, List.set_cons_zero, List.set_cons_succ])
  refine wpPT_take (v := ?_) (by kernel_rfl) (fun wS hSw => ?_) ?_
  rotate_left
  · (try dsimp only at hSw); go_simp; (try with_reducible rfl)
  (try simp only [Act.put, List.setIfInBounds_toArray, List.set_cons_zero, List.set_cons_succ])
  refine wpPT_take (v := ?_) (by kernel_rfl) (fun wS hSw => ?_) ?_
  rotate_left
  · (try dsimp only at hSw); go_simp; (try with_reducible rfl)
  (try simp only [Act.put, List.setIfInBounds_toArray, List.set_cons_zero, List.set_cons_succ])
  refine wpPT_take (v := ?_) (by kernel_rfl) (fun wS hSw => ?_) ?_
  rotate_left
  · (try dsimp only at hSw); go_simp; (try with_reducible rfl)
  (try simp only [Act.put, List.setIfInBounds_toArray, List.set_cons_zero, List.set_cons_succ])
  refine wpPT_alt (by kernel_rfl) (fun K hK => ?_) ?_
  · skip
    have hOld := hide hHeld
    clear hHeld
    go_simp
    go_at_call 20
    refine (Clear_any (k := 1) (r := 1) _ (HB7.out.below hOld.out).bs (by omega) (by omega) rfl).mono ?_
    rintro e w' ⟨A9, c9, rfl, hown, hbel⟩
    have hb' := hbel
    have HC9 := hide hown
    refine hK.out _ _ (hOld.out.trans (hb'.mono hOld.out.size)) (fun hHeld => ?_)
    clear hK K
    (try simp only [Act.put, List.setIfInBounds_toArray, List.set_cons_zero, List.set_cons_succ])
    refine wpPT_alt (by kernel_rfl) (fun K hK => ?_) ?_
    rotate_left
    · exact wpPT_stop
    have hOld := hide hHeld
    clear hHeld
    unfold Oper.wp execOp
    go_simp
    have hb' := below_new (below_self w') (.cells Z 5)
    have HZ9 := hide (Bs.lit w' 5 (cs := Z.toList) HZL.out (zeros_length 64))
    have HC9b := hide (HC9.out.below hb')
    clear HC9
    have HC9 := HC9b
    refine hK.out _ _ (hOld.out.trans (hb'.mono hOld.out.size)) (fun hHeld => ?_)
    clear hK K
    (try simp only [Act.put, List.setIfInBounds_toArray, List.set_cons_zero, List.set_cons_succ])
    refine wpPT_alt (by kernel_rfl) (fun K hK => ?_) ?_
    rotate_left
    · exact wpPT_stop
    have hOld := hide hHeld
    clear hHeld
    go_simp
    go_at_call 16
    refine (BEqual_b (b := true) _ HC9.out.bs HZ9.out aw8_eq).mono ?_
    rintro e w' ⟨rfl, rfl⟩
    refine hK.out _ _ (hOld.out) (fun hHeld => ?_)
    clear hK K
    (try simp only [Act.put, List.setIfInBounds_toArray, List.set_cons_zero, List.set_cons_succ])
    refine wpPT_take (v := ?_) (by kernel_rfl) (fun wS hSw => ?_) ?_
    rotate_left
    · (try dsimp only at hSw); go_simp; (try with_reducible rfl)
    (try simp only [Act.put, List.setIfInBounds_toArray, List.set_cons_zero, List.set_cons_succ])
    refine wpPT_take (v := ?_) (by kernel_rfl) (fun wS hSw => ?_) ?_
    rotate_left
    · (try dsimp only at hSw); go_simp; (try with_reducible rfl)
    simp only [Act.put, List.setIfInBounds_toArray, List.set_cons_zero]
    refine wpPT_leaf ?_
    have HBF := hide (HW7.out.trans (hHeld.mono HW7.out.size))
    clear hHeld
    go_wp2_with fail
    go_ret
    exact LawOk.of HBF.out
  refine wpPT_alt (by kernel_rfl) (fun K hK => ?_) ?_
  · skip
    have hOld := hide hHeld
    clear hHeld
    unfold Oper.wp execOp
    go_simp
    have hb' := below_new (below_self w') (.cells Z 5)
    have HZ9 := hide (Bs.lit w' 5 (cs := Z.toList) HZL.out (zeros_length 64))
    refine hK.out _ _ (hOld.out.trans (hb'.mono hOld.out.size)) (fun hHeld => ?_)
    clear hK K
    (try simp only [Act.put, List.setIfInBounds_toArray, List.set_cons_zero, List.set_cons_succ])
    refine wpPT_alt (by kernel_rfl) (fun K hK => ?_) ?_
    rotate_left
    · exact wpPT_stop
    have hOld := hide hHeld
    clear hHeld
    go_simp
    go_at_call 20
    refine (Clear_any (k := 1) (r := 1) _ (HB7.out.below hOld.out).bs (by omega) (by omega) rfl).mono ?_
    rintro e w' ⟨A9, c9, rfl, hown, hbel⟩
    have hb' := hbel
    have HC9 := hide hown
    have HZ9b := hide (HZ9.out.below (hb'.mono (by simp)))
    refine hK.out _ _ (hOld.out.trans (hb'.mono hOld.out.size)) (fun hHeld => ?_)
    clear hK K
    (try simp only [Act.put, List.setIfInBounds_toArray, List.set_cons_zero, List.set_cons_succ])
    refine wpPT_alt (by kernel_rfl) (fun K hK => ?_) ?_
    rotate_left
    · exact wpPT_stop
    have hOld := hide hHeld
    clear hHeld
    go_simp
    go_at_call 16
    refine (BEqual_b (b := true) _ HC9.out.bs HZ9b.out aw8_eq).mono ?_
    rintro e w' ⟨rfl, rfl⟩
    refine hK.out _ _ (hOld.out) (fun hHeld => ?_)
    clear hK K
    (try simp only [Act.put, List.setIfInBounds_toArray, List.set_cons_zero, List.set_cons_succ])
    refine wpPT_take (v := ?_) (by kernel_rfl) (fun wS hSw => ?_) ?_
    rotate_left
    · (try dsimp only at hSw); go_simp; (try with_reducible rfl)
    (try simp only [Act.put, List.setIfInBounds_toArray, List.set_cons_zero, List.set_cons_succ])
    refine wpPT_take (v := ?_) (by kernel_rfl) (fun wS hSw => ?_) ?_
    rotate_left
    · (try dsimp only at hSw); go_simp; (try with_reducible rfl)
    simp only [Act.put, List.setIfInBounds_toArray, List.set_cons_zero]
    refine wpPT_leaf ?_
    have HBF := hide (HW7.out.trans (hHeld.mono HW7.out.size))
    clear hHeld
    go_wp2_with fail
    go_ret
    exact LawOk.of HBF.out
  exact wpPT_stop
end Go.Proofs.Ythjjjeolpdekoaa

/- The law EntryPuts (layer 8): its walk. -/
namespace Go.Proofs.Ythjjjeolpdekoaa
open Go.RowKit Plain

theorem ERight_c (x : EntV) (w : World) (hl : x.name.length ≤ 140737488355328) {r : Bool} (h : rightE x = r) : Calls Try.prog 14 #[.agg #[.int .i64 x.slot, .int .i64 x.ino, .string ⟨x.name.toArray⟩]] w (BoolB w r) := by
  subst h; exact ERight_any x w hl
theorem RERight_c (x : EntV) (w : World) (hl : x.name.length ≤ 140737488355328) {r : Bool} (h : rightE x = r) : Calls Try.prog 15 #[.agg #[.int .i64 x.slot, .int .i64 x.ino, .string ⟨x.name.toArray⟩]] w (BoolB w r) := by
  subst h; exact RERight_any x w hl
theorem EPut_c (x : EntV) (w : World) (hl : x.name.length ≤ 140737488355328) {k : Int} (h : errE x = k) : Calls Try.prog 10 #[.agg #[.int .i64 x.slot, .int .i64 x.ino, .string ⟨x.name.toArray⟩]] w (BERet w 5 (putE x) k) := by
  subst h; exact EPut_any x w hl
theorem REPut_c (x : EntV) (w : World) (hl : x.name.length ≤ 140737488355328) {k : Int} (h : errE x = k) : Calls Try.prog 11 #[.agg #[.int .i64 x.slot, .int .i64 x.ino, .string ⟨x.name.toArray⟩]] w (BERet w 5 (putE x) k) := by
  subst h; exact REPut_any x w hl
theorem REGet_c {A : Option Addr} {m c : Nat} {l : List UInt8} {slot : Int} {x : EntV} {p q : Bool} (h1 : entE l slot = x) (h2 : gotE l slot = p) (h3 : readE l slot = q) (w : World) (ha : Bs w w.heap.size A m l) (hmc : m ≤ c) (hm : m ≤ 140737488355000) : Calls Try.prog 13 #[.slice A m c, .int .i64 slot] w (ERet w x p q) := by
  subst h1 h2 h3; exact REGet_any w ha hmc hm
set_option maxRecDepth 100000 in
set_option maxHeartbeats 3200000 in
theorem law_EntryPuts (x : EntV) {A : Option Addr} {m c : Nat} {l : List UInt8} (slot : Int) (w : World) (ha : Bs w w.heap.size A m l) (hmc : m ≤ c) (hl : x.name.length ≤ 140737488355328) : Calls Try.prog 3 #[.agg #[.int .i64 x.slot, .int .i64 x.ino, .string ⟨x.name.toArray⟩], .slice A m c, .int .i64 slot] w (LawOk w) := by
  obtain ⟨hr1, hb, hsz⟩ := rows1 w [.int .i64 x.slot, .int .i64 x.ino, .string ⟨x.name.toArray⟩] 23
  have HR1 := hide hr1
  have HB1 := hide hb
  have HA1 := hide ((ha.below hb).more hb.size)
  clear hr1 hb hsz ha
  by_cases h1 : 2000 < m
  · have hd : decide ((2000 : Int) < (m : Int)) = true := by simp; omega
    go_enter Try.func3, Try.ntmps3
    go_wp2_with fail
    refine (awake8_any _).mono ?_
    rintro e w1 ⟨rfl, hbel⟩
    have HBa := hide (below_step HB1.out hbel)
    clear hbel
    go_wp2_with fail
    go_ret
    exact LawOk.of HBa.out
  have hd : decide ((2000 : Int) < (m : Int)) = false := by simp; omega
  obtain ⟨r, hr⟩ : ∃ r, rightE x = r := ⟨_, rfl⟩
  obtain ⟨k, hk⟩ : ∃ k, errE x = k := ⟨_, rfl⟩
  obtain ⟨y, hy⟩ : ∃ y, entE l slot = y := ⟨_, rfl⟩
  obtain ⟨p, hp⟩ : ∃ p, gotE l slot = p := ⟨_, rfl⟩
  obtain ⟨q, hq⟩ : ∃ q, readE l slot = q := ⟨_, rfl⟩
  have HXR := hide hr
  have HK := hide hk
  have HY := hide hy
  have HP := hide hp
  have HQ := hide hq
  have hm : m ≤ 140737488355000 := by omega
  have hrr : (r == r) = true := by simp
  have hkk : (k == k) = true := by simp
  have hpp : (p == p) = true := by simp
  have hqq : (q == q) = true := by simp
  have hEQ := eq_ent (x := y) (y := y) (b := true) (by simp)
  clear hr hk hy hp hq
  go_enter Try.func3, Try.ntmps3
  go_wp2_with fail
  refine (EPut_c x _ hl HK.out).mono ?_
  rintro e w2 ⟨A2, n2, c2', rfl, hown, hbel⟩
  have HO2 := hide hown
  have HB2 := hide (below_step HB1.out hbel)
  have HR2 := hide (HR1.out.on hbel)
  have HA2 := hide ((HA1.out.below hbel).more hbel.size)
  have c0 : w2.cell? ⟨w.heap.size, 0, none⟩ = some (.int .i64 x.slot) := HR2.out.cell 0
  have c1 : w2.cell? ⟨w.heap.size, 1, none⟩ = some (.int .i64 x.ino) := HR2.out.cell 1
  have c2 : w2.cell? ⟨w.heap.size, 2, none⟩ = some (.string ⟨x.name.toArray⟩) := HR2.out.cell 2
  have cg : w.heap.size < w2.heap.size := HR2.out.lt
  clear hown hbel HB1 HR1 HA1
  go_wp2_with fail
  refine (REPut_c x _ hl HK.out).mono ?_
  rintro e w3 ⟨A3, n3, c3', rfl, hown, hbel⟩
  have HO3 := hide (HO2.out.below hbel)
  have HQ3 := hide hown
  have HB3 := hide (below_step HB2.out hbel)
  have HR3 := hide (HR2.out.on hbel)
  have HA3 := hide ((HA2.out.below hbel).more hbel.size)
  clear c0 c1 c2 cg
  clear hown hbel HB2 HR2 HA2 HO2
  go_wp2_with fail
  refine (EGet_c HY.out HP.out HQ.out _ HA3.out hmc).mono ?_
  rintro e w4 ⟨rfl, hbel⟩
  obtain ⟨hr5, hb5, hs5⟩ := rows1 w4 [.int .i64 y.slot, .int .i64 y.ino, .string ⟨y.name.toArray⟩] 23
  have hbb := hbel.trans (hb5.mono hbel.size)
  have HO5 := hide (HO3.out.below hbb)
  have HQ5 := hide (HQ3.out.below hbb)
  have HB5 := hide (below_step HB3.out hbb)
  have HR5 := hide (HR3.out.on hbb)
  have HY5 := hide hr5
  have HA5 := hide ((HA3.out.below hbb).more hbb.size)
  clear hbel hr5 hb5 hs5 hbb HO3 HQ3 HB3 HR3 HA3
  go_wp2_with fail
  generalize (w4.alloc (.cells #[.int .i64 y.slot, .int .i64 y.ino, .string ⟨y.name.toArray⟩] 23)) = w5 at *
  generalize w4.heap.size = g11 at *
  refine (REGet_c HY.out HP.out HQ.out _ HA5.out hmc hm).mono ?_
  rintro e w6 ⟨rfl, hbel⟩
  obtain ⟨hr7, hb7, hs7⟩ := rows1 w6 [.int .i64 y.slot, .int .i64 y.ino, .string ⟨y.name.toArray⟩] 23
  have hbb := hbel.trans (hb7.mono hbel.size)
  have HO7 := hide (HO5.out.below hbb)
  have HQ7 := hide (HQ5.out.below hbb)
  have HB7 := hide (below_step HB5.out hbb)
  have HR7 := hide (HR5.out.on hbb)
  have HY7 := hide (HY5.out.on hbb)
  have HZ7 := hide hr7
  clear hbel hr7 hb7 hs7 hbb HO5 HQ5 HB5 HR5 HY5 HA5
  go_wp2_with fail
  generalize (w6.alloc (.cells #[.int .i64 y.slot, .int .i64 y.ino, .string ⟨y.name.toArray⟩] 23)) = w7 at *
  generalize w6.heap.size = g14 at *
  refine wp_region_G (fun w' => Below w7.heap.size w7 w') (.take 0 (.take 2 (.alt 1 (.alt 3 (.take 4 (.take 5 (.take 6 (.take 7 (.alt 8 (.take 9 (.take 10 (.take 11 (.take 12 (.take 13 (.take 14 (.take 15 (.take 16 (.take 17 (.take 18 (.take 19 (.take 20 (.take 21 (.take 22 (.take 23 (.take 24 (.take 25 (.take 26 (.take 27 (.take 28 (.take 29 (.take 30 (.alt 31 (.take 32 (.take 33 .leaf)) .stop))))))))))))))))))))))) .stop))))) .stop) .stop))) (by kernel_rfl) (by kernel_rfl) (by kernel_rfl) (by kernel_rfl) rfl (fun _ _ _ _ _ h => h) (below_drew (below_self w7)) (fun hHeld => ?_)
  simp only [PT.map, List.getElem?_toArray, List.getElem?_cons_succ, List.getElem?_cons_zero]
  refine wpPT_take (v := ?_) (by kernel_rfl) (fun wS hSw => ?_) ?_
  rotate_left
  · refine execOp_load (x := .tmp 3) (k := 3) (g := w.heap.size) (off := 0) (cs := [.int .i64 x.slot, .int .i64 x.ino, .string ⟨x.name.toArray⟩]) ?_ ent_agg ent_size ?_ (RowL.at0 (HR7.out.on hSw)) rfl <;> rfl
  (try simp only [Act.put, List.setIfInBounds_toArray, List.set_cons_zero, List.set_cons_succ])
  refine wpPT_take (v := ?_) (by kernel_rfl) (fun wS hSw => ?_) ?_
  rotate_left
  · refine execOp_load (x := .tmp 3) (k := 3) (g := w.heap.size) (off := 0) (cs := [.int .i64 x.slot, .int .i64 x.ino, .string ⟨x.name.toArray⟩]) ?_ ent_agg ent_size ?_ (RowL.at0 (HR7.out.on hSw)) rfl <;> rfl
  (try simp only [Act.put, List.setIfInBounds_toArray, List.set_cons_zero, List.set_cons_succ])
  refine wpPT_alt (by kernel_rfl) (fun K hK => ?_) ?_
  rotate_left
  · exact wpPT_stop
  have hOld := hide hHeld
  clear hHeld
  go_simp
  go_at_call 14
  refine (ERight_c x _ hl HXR.out).mono ?_
  rintro e w' ⟨rfl, hbel⟩
  refine hK.out _ _ (hOld.out.trans (hbel.mono hOld.out.size)) (fun hHeld => ?_)
  clear hK K
  (try simp only [Act.put, List.setIfInBounds_toArray, List.set_cons_zero, List.set_cons_succ])
  refine wpPT_alt (by kernel_rfl) (fun K hK => ?_) ?_
  rotate_left
  · exact wpPT_stop
  have hOld := hide hHeld
  clear hHeld
  go_simp
  go_at_call 15
  refine (RERight_c x _ hl HXR.out).mono ?_
  rintro e w' ⟨rfl, hbel⟩
  refine hK.out _ _ (hOld.out.trans (hbel.mono hOld.out.size)) (fun hHeld => ?_)
  clear hK K
  (try simp only [Act.put, List.setIfInBounds_toArray, List.set_cons_zero, List.set_cons_succ])
  refine wpPT_take (v := ?_) (by kernel_rfl) (fun wS hSw => ?_) ?_
  rotate_left
  · (try dsimp only at hSw); go_simp; (try with_reducible rfl)
  (try simp only [Act.put, List.setIfInBounds_toArray, List.set_cons_zero, List.set_cons_succ])
  refine wpPT_take (v := ?_) (by kernel_rfl) (fun wS hSw => ?_) ?_
  rotate_left
  · (try dsimp only at hSw); go_simp; (try with_reducible rfl)
  (try simp only [Act.put, List.setIfInBounds_toArray, List.set_cons_zero, List.set_cons_succ])
  refine wpPT_take (v := ?_) (by kernel_rfl) (fun wS hSw => ?_) ?_
  rotate_left
  · (try dsimp only at hSw); go_simp; (try with_reducible rfl)
  (try simp only [Act.put, List.setIfInBounds_toArray, List.set_cons_zero, List.set_cons_succ])
  refine wpPT_take (v := ?_) (by kernel_rfl) (fun wS hSw => ?_) ?_
  rotate_left
  · (try dsimp only at hSw); go_simp; (try with_reducible rfl)
  (try simp only [Act.put, List.setIfInBounds_toArray, List.set_cons_zero, List.set_cons_succ])
  refine wpPT_alt (by kernel_rfl) (fun K hK => ?_) ?_
  rotate_left
  · exact wpPT_stop
  have hOld := hide hHeld
  clear hHeld
  go_simp
  go_at_call 16
  refine (BEqual_b (b := true) _ (HO7.out.below hOld.out).bs (HQ7.out.below hOld.out).bs (by simp)).mono ?_
  rintro e w' ⟨rfl, rfl⟩
  refine hK.out _ _ (hOld.out) (fun hHeld => ?_)
  clear hK K
  (try simp only [Act.put, List.setIfInBounds_toArray, List.set_cons_zero, List.set_cons_succ])
  refine wpPT_take (v := ?_) (by kernel_rfl) (fun wS hSw => ?_) ?_
  rotate_left
  · (try dsimp only at hSw); go_simp; (try with_reducible rfl)
  (try simp only [Act.put, List.setIfInBounds_toArray, List.set_cons_zero, List.set_cons_succ])
  refine wpPT_take (v := ?_) (by kernel_rfl) (fun wS hSw => ?_) ?_
  rotate_left
  · (try dsimp only at hSw); go_simp; (try with_reducible rfl)
  (try simp only [Act.put, List.setIfInBounds_toArray, List.set_cons_zero, List.set_cons_succ])
  refine wpPT_take (v := ?_) (by kernel_rfl) (fun wS hSw => ?_) ?_
  rotate_left
  · (try dsimp only at hSw); go_simp; (try with_reducible rfl)
  (try simp only [Act.put, List.setIfInBounds_toArray, List.set_cons_zero, List.set_cons_succ])
  refine wpPT_take (v := ?_) (by kernel_rfl) (fun wS hSw => ?_) ?_
  rotate_left
  · (try dsimp only at hSw); go_simp; (try with_reducible rfl)
  (try simp only [Act.put, List.setIfInBounds_toArray, List.set_cons_zero, List.set_cons_succ])
  refine wpPT_take (v := ?_) (by kernel_rfl) (fun wS hSw => ?_) ?_
  rotate_left
  · (try dsimp only at hSw); go_simp; (try with_reducible rfl)
  (try simp only [Act.put, List.setIfInBounds_toArray, List.set_cons_zero, List.set_cons_succ])
  refine wpPT_take (v := ?_) (by kernel_rfl) (fun wS hSw => ?_) ?_
  rotate_left
  · (try dsimp only at hSw); go_simp; (try with_reducible rfl)
  (try simp only [Act.put, List.setIfInBounds_toArray, List.set_cons_zero, List.set_cons_succ])
  refine wpPT_take (v := ?_) (by kernel_rfl) (fun wS hSw => ?_) ?_
  rotate_left
  · (try dsimp only at hSw); go_simp; (try with_reducible rfl)
  (try simp only [Act.put, List.setIfInBounds_toArray, List.set_cons_zero, List.set_cons_succ])
  refine wpPT_take (v := ?_) (by kernel_rfl) (fun wS hSw => ?_) ?_
  rotate_left
  · refine execOp_load (x := .tmp 11) (k := 3) (g := g11) (off := 0) (cs := [.int .i64 y.slot, .int .i64 y.ino, .string ⟨y.name.toArray⟩]) ?_ ent_agg ent_size ?_ (RowL.at0 (HY7.out.on hSw)) rfl <;> rfl
  (try simp only [Act.put, List.setIfInBounds_toArray, List.set_cons_zero, List.set_cons_succ])
  refine wpPT_take (v := ?_) (by kernel_rfl) (fun wS hSw => ?_) ?_
  rotate_left
  · refine execOp_load (x := .tmp 14) (k := 3) (g := g14) (off := 0) (cs := [.int .i64 y.slot, .int .i64 y.ino, .string ⟨y.name.toArray⟩]) ?_ ent_agg ent_size ?_ (RowL.at0 (HZ7.out.on hSw)) rfl <;> rfl
  (try simp only [Act.put, List.setIfInBounds_toArray, List.set_cons_zero, List.set_cons_succ])
  refine wpPT_take (v := ?_) (by kernel_rfl) (fun wS hSw => ?_) ?_
  rotate_left
  · (try dsimp only at hSw); go_simp; (try with_reducible rfl)
  (try simp only [Act.put, List.setIfInBounds_toArray, List.set_cons_zero, List.set_cons_succ])
  refine wpPT_take (v := ?_) (by kernel_rfl) (fun wS hSw => ?_) ?_
  rotate_left
  · (try dsimp only at hSw); go_simp; (try with_reducible rfl)
  (try simp only [Act.put, List.setIfInBounds_toArray, List.set_cons_zero, List.set_cons_succ])
  refine wpPT_take (v := ?_) (by kernel_rfl) (fun wS hSw => ?_) ?_
  rotate_left
  · (try dsimp only at hSw); go_simp; (try with_reducible rfl)
  (try simp only [Act.put, List.setIfInBounds_toArray, List.set_cons_zero, List.set_cons_succ])
  refine wpPT_take (v := ?_) (by kernel_rfl) (fun wS hSw => ?_) ?_
  rotate_left
  · (try dsimp only at hSw); go_simp; (try with_reducible rfl)
  (try simp only [Act.put, List.setIfInBounds_toArray, List.set_cons_zero, List.set_cons_succ])
  refine wpPT_take (v := ?_) (by kernel_rfl) (fun wS hSw => ?_) ?_
  rotate_left
  · (try dsimp only at hSw); go_simp; (try with_reducible rfl)
  (try simp only [Act.put, List.setIfInBounds_toArray, List.set_cons_zero, List.set_cons_succ])
  refine wpPT_take (v := ?_) (by kernel_rfl) (fun wS hSw => ?_) ?_
  rotate_left
  · (try dsimp only at hSw); go_simp; (try with_reducible rfl)
  (try simp only [Act.put, List.setIfInBounds_toArray, List.set_cons_zero, List.set_cons_succ])
  refine wpPT_take (v := ?_) (by kernel_rfl) (fun wS hSw => ?_) ?_
  rotate_left
  · (try dsimp only at hSw); go_simp; (try with_reducible rfl)
  (try simp only [Act.put, List.setIfInBounds_toArray, List.set_cons_zero, List.set_cons_succ])
  refine wpPT_take (v := ?_) (by kernel_rfl) (fun wS hSw => ?_) ?_
  rotate_left
  · (try dsimp only at hSw); go_simp; (try with_reducible rfl)
  (try simp only [Act.put, List.setIfInBounds_toArray, List.set_cons_zero, List.set_cons_succ])
  refine wpPT_take (v := ?_) (by kernel_rfl) (fun wS hSw => ?_) ?_
  rotate_left
  · (try dsimp only at hSw); go_simp; (try with_reducible rfl)
  (try simp only [Act.put, List.setIfInBounds_toArray, List.set_cons_zero, List.set_cons_succ])
  refine wpPT_take (v := ?_) (by kernel_rfl) (fun wS hSw => ?_) ?_
  rotate_left
  · (try dsimp only at hSw); go_simp; (try with_reducible rfl)
  (try simp only [Act.put, List.setIfInBounds_toArray, List.set_cons_zero, List.set_cons_succ])
  refine wpPT_take (v := ?_) (by kernel_rfl) (fun wS hSw => ?_) ?_
  rotate_left
  · (try dsimp only at hSw); go_simp; (try with_reducible rfl)
  (try simp only [Act.put, List.setIfInBounds_toArray, List.set_cons_zero, List.set_cons_succ])
  refine wpPT_take (v := ?_) (by kernel_rfl) (fun wS hSw => ?_) ?_
  rotate_left
  · (try dsimp only at hSw); go_simp; (try with_reducible rfl)
  (try simp only [Act.put, List.setIfInBounds_toArray, List.set_cons_zero, List.set_cons_succ])
  refine wpPT_take (v := ?_) (by kernel_rfl) (fun wS hSw => ?_) ?_
  rotate_left
  · (try dsimp only at hSw); go_simp; (try with_reducible rfl)
  (try simp only [Act.put, List.setIfInBounds_toArray, List.set_cons_zero, List.set_cons_succ])
  refine wpPT_alt (by kernel_rfl) (fun K hK => ?_) ?_
  rotate_left
  · exact wpPT_stop
  have hOld := hide hHeld
  clear hHeld
  go_simp
  go_at_call 9
  refine (awake8_any _).mono ?_
  rintro e w' ⟨rfl, hbel⟩
  refine hK.out _ _ (hOld.out.trans (hbel.mono hOld.out.size)) (fun hHeld => ?_)
  clear hK K
  (try simp only [Act.put, List.setIfInBounds_toArray, List.set_cons_zero, List.set_cons_succ])
  refine wpPT_take (v := ?_) (by kernel_rfl) (fun wS hSw => ?_) ?_
  rotate_left
  · (try dsimp only at hSw); go_simp; (try with_reducible rfl)
  (try simp only [Act.put, List.setIfInBounds_toArray, List.set_cons_zero, List.set_cons_succ])
  refine wpPT_take (v := ?_) (by kernel_rfl) (fun wS hSw => ?_) ?_
  rotate_left
  · (try dsimp only at hSw); go_simp; (try with_reducible rfl)
  (try simp only [Act.put, List.setIfInBounds_toArray, List.set_cons_zero, List.set_cons_succ])
  refine wpPT_leaf ?_
  skip
  have HBF := hide (HB7.out.trans (hHeld.mono HB7.out.size))
  clear hHeld
  go_wp2_with fail
  go_ret
  exact LawOk.of HBF.out
end Go.Proofs.Ythjjjeolpdekoaa

