import Derived.Test.YthjjjeolpdekoaaEntH
import Derived.Test.YthjjjeolpdekoaaNumC
import Derived.Test.YthjjjeolpdekoaaEntG
import Derived.Test.YthjjjeolpdekoaaMemD
import Derived.BigQuiet
import Derived.Deep.QuietTactic
import Derived.Great.BuildSlice
import Derived.Test.YthjjjeolpdekoaaSumF
import Derived.Shelf.SlicesQ.Contains
import Derived.Shelf.SlicesE.Clone
import Derived.Shelf.SlicesQ.IndexFunc
import Derived.Lib.SmallJoins

/- entry.Clear (layer 8). -/
namespace Go.Proofs.Ythjjjeolpdekoaa
open Go.RowKit Go.Shelf Plain
attribute [local go_sem] Oper.semAt_some

theorem zeroValue_u8 (w : World) : (zeroValue 5).run Try.prog w = .ok (.int .u8 0) w := by
  obtain ⟨i, hi, hz, _, _⟩ := info_parts info_u8
  simp [zeroValue, typeInfo, hi, hz]
theorem run_clear_row {P : Program} (w : World) (t e ty g off n c tt : Nat) (cur : List Value) (ht : P.underlying t = some (.slice e)) (hv : ∀ w, (zeroValue e).run P w = .ok (.int .u8 0) w) (hr : RowL w g tt cur) (hfit : off + (n + 1) ≤ cur.length) :
    (Builtin.clear_ #[t] ty #[.slice (some ⟨g, off, none⟩) (n + 1) c]).run P w = .ok (.tuple #[]) (w.setRow g (splice cur off (bvs (zeros (n + 1)))).toArray) := by
  have hzc : (Builtin.zeroCells (Value.int .u8 0).cells (n + 1)).toList = bvs (zeros (n + 1)) := by
    rw [show (Value.int .u8 0).cells = #[Value.int .u8 0] from rfl]
    simp [Builtin.zeroCells]
    apply List.ext_getElem
    · simp [bvs_length, zeros_length]
    · intro i h1 h2
      simp [Nat.mod_one, bvs, zeros, bv]
  have hst := run_storeCells_at P g off tt (bvs (zeros (n + 1))) 0 cur.toArray w hr (by simp [bvs_length, zeros_length]; omega) (bvs_one _)
  simp only [Nat.add_zero] at hst
  simp [Builtin.clear_, run_underlying ht, hv, hzc, hst, splice]
theorem wpIn_clearAt {F : Fence} {n : Nat} {P : Program} {w : World} {o : Oper} {a : Act} {K : Act → World → Prop} {Q : Exit → Act → World → Prop} (d : Operand) (dT : TypeId)
    (ho : o.op = .call { callee := .builtin .clear, args := #[d], argTypes := #[dT] }) (elem : TypeId) (hu : P.underlying dT = some (.slice elem)) (hv : ∀ w, (zeroValue elem).run P w = .ok (.int .u8 0) w)
    (g off m dCap : Nat) (hd : a.eval d = .slice (some ⟨g, off, none⟩) (m + 1) dCap) (cur : List Value) (t : TypeId) (hr : RowL w g t cur) (hcur : off + (m + 1) ≤ cur.length)
    (h : ∀ w', RowL w' g t (splice cur off (bvs (zeros (m + 1)))) → w.grownBy w' (some g) → K (a.put o.dst (.tuple #[])) w') : o.wpIn F n P a w K Q := by
  unfold Oper.wpIn
  refine ⟨by simp [Oper.about, ho, resolve, Target.leads, Sem.run_pure], ?_⟩
  rw [Oper.semAt_plain F _ _ (by rw [ho]; intro c hc'; cases hc')]
  have hrun := run_clear_row (P := P) w dT elem o.type g off m dCap t cur hu hv hr hcur
  simp only [execOp, ho, resolve, invoke, builtin, Sem.run_bind, Sem.run_pure, Result.andThen_ok, List.map_toArray, List.map_cons, List.map_nil, hd, hrun]
  exact h _ (hr.setRow_ _) (grownBy_setRow _ _ _)

set_option maxRecDepth 100000 in
set_option maxHeartbeats 2000000 in
theorem Clear_any {A : Option Addr} {c : Nat} {l : List UInt8} {slot k : Int} {r : Fin 4} (w : World) (h : Bs w w.heap.size A 64 l) (hk0 : 0 ≤ k) (hk4 : k < 4) (hs : slot = k * 4 + (r.1 : Int)) : Calls Try.prog 20 #[.slice A 64 c, .int .i64 slot] w (BRet w 5 64 (splice l (16 * r.1) (zeros 16))) := by
  obtain ⟨hr1, hb1, hs1⟩ := rows1 w [.int .i64 slot] 3
  have H1 := h.below hb1
  have H2 := H1.more (B' := (w.alloc (.cells [.int .i64 slot].toArray 3)).heap.size) (by omega)
  have HS := hide hs
  clear hs
  refine (callsIn_wide (n := 3)).1 ?_
  refine callsIn_of_wp_marks Try.func20 rfl trivial ?_ rfl
  simp only [Try.ntmps20, List.size_toArray, List.length_cons, List.length_nil, Nat.reduceAdd, Nat.reduceSub, Array.replicate_succ, Array.replicate_zero, List.push_toArray, List.append_toArray, List.nil_append, List.cons_append]
  gi_wp2
  refine ⟨trivial, (callsIn_wide.2 (Clone_any _ H2 (by omega))).mono ?_⟩
  rintro e w2 ⟨A2, c2, rfl, hown, hbel2⟩
  have hr4 := r.2
  have hq : IntKind.i64.wrap (slot.tdiv 4) = k := by rw [show slot.tdiv 4 = k from by rw [HS.out, Int.tdiv_eq_ediv_of_nonneg (by omega)]; omega]; exact IntWalk.i64_in _ (by omega)
  obtain ⟨g, cs, rfl, hgb, hrow, hcl, hnc, hcm, htk⟩ := hown.row (by omega)
  have hb2 := below_step hb1 hbel2
  have hbox : RowL w2 w.heap.size 3 [.int .i64 slot] := hr1.on hbel2
  have hc0 : w2.cell? ⟨w.heap.size, 0, none⟩ = some (.int .i64 slot) := hbox.cell 0
  gi_wp2
  refine ⟨trivial, (parts_in Fence.wide 2 trivial rfl _ _ _ _ _).mono ?_⟩
  rintro e w' ⟨rfl, rfl⟩
  gi_wp2
  obtain ⟨hp1, hp2, hp3, hp4⟩ := rows2 w2 [.slice (some ⟨g, 0, none⟩) 64 c2] [.int .i64 k] 24 3
  have hrow4 := hrow.on hp3
  have hbox4 := hbox.on hp3
  have hB4 := below_step hb2 hp3
  obtain ⟨W4, hW4⟩ : ∃ W4, ((w2.alloc (.cells #[.slice (some ⟨g, 0, none⟩) 64 c2] 24)).alloc (.cells #[.int .i64 k] 3)) = W4 := ⟨_, rfl⟩
  rw [hW4]
  change RowL _ _ _ _ at hp1
  have e4 : ((w2.alloc (.cells [.slice (some ⟨g, 0, none⟩) 64 c2].toArray 24)).alloc (.cells [.int .i64 k].toArray 3)) = W4 := hW4
  rw [e4] at hp1 hp2 hp4 hrow4 hbox4 hB4
  have hg2 := hrow.lt
  rw [hs1] at hgb
  clear hW4 e4 hp3 hrow hbox hc0 hown hbel2 hr1 hb1 H1 H2 hq h hs1
  refine wpIn_rangeFunc_ownF rfl (by omega) (gf := 78) (lb := #[.pointer (some ⟨w2.heap.size, 0, none⟩), .pointer (some ⟨w2.heap.size + 1, 0, none⟩)]) rfl trivial (enters_of Try.func78 (by kernel_rfl) rfl)
    (parts1_stops Fence.wide 2 trivial rfl (by omega) w2.heap.size (w2.heap.size + 1) k g 0 c2 hk0 hk4 hnc W4 (hp1.cell 0) (hp2.cell 0) (by omega) (by omega)) kpB_t
    (fun W b o o' hb hw h1 h2 => kpB_below (n := W4.heap.size) (by omega) (by omega) (belowK_b (Nat.le_refl _) W b o o' hb hw h1 h2)) (Below.refl _ _) (fun _ => rfl)
    (fun pre W => ((RowL W g 5 cs ∧ RowL W w.heap.size 3 [.int .i64 slot]) ∧ r ∉ pre) ∧ Below w.heap.size w W)
    (fun cc pre W => (RowL W g 5 (splice cs (16 * r.1) (bvs (zeros 16))) ∧ cc = .exit 0) ∧ Below w.heap.size w W)
    (OwnFrom.and (Go.Own.from (fun s A' B' row hs hg hr => ⟨⟨own_row (β := List (Fin 4)) _ _ (fun _ => cs) s A' B' row hs.1.1 hg hr, own_row (β := List (Fin 4)) _ _ (fun _ => [.int .i64 slot]) s A' B' row hs.1.2 hg hr⟩, hs.2⟩) _) (ownFrom_below (Nat.le_refl _) (by have := hb2.size; omega)))
    (fun cc => OwnFrom.and (Go.Own.from (fun s A' B' row hs hg hr => ⟨own_row (β := List (Fin 4)) _ _ (fun _ => splice cs (16 * r.1) (bvs (zeros 16))) s A' B' row hs.1 hg hr, hs.2⟩) _) (ownFrom_below (Nat.le_refl _) (by have := hb2.size; omega)))
    ⟨⟨⟨hrow4, hbox4⟩, by simp⟩, hB4⟩
    (fun x => { tmps := #[.slice A 64 c, .int .i64 slot, undef, .pointer (some ⟨w.heap.size, 0, none⟩), .slice none 0 0, .slice (some ⟨g, 0, none⟩) 64 c2, .int .i64 (k * 4 + (x.1 : Int)), .slice (some ⟨g, 16 * x.1, none⟩) 16 (c2 - 16 * x.1), .slice A 64 c, .slice (some ⟨g, 0, none⟩) 64 c2, .slice (some ⟨g, 0, none⟩) 64 c2, .int .i64 slot, .int .i64 k, .func (.func 78) #[] #[.pointer (some ⟨w2.heap.size, 0, none⟩), .pointer (some ⟨w2.heap.size + 1, 0, none⟩)], .int .i64 (k * 4 + (x.1 : Int)), .slice (some ⟨g, 16 * x.1, none⟩) 16 (c2 - 16 * x.1), undef, undef, undef, undef, undef], defers := [] }) ?assign ?body ?done ?stop
  case assign =>
    intro l' x W K hK
    dsimp only [encP]
    gi_wp2
    exact hK
  case body =>
    rintro l' pre x W ⟨⟨⟨hrb, hbx⟩, hnot⟩, hB⟩ _
    have hc0 : W.cell? ⟨w.heap.size, 0, none⟩ = some (.int .i64 slot) := hbx.cell 0
    have hx4 := x.2
    by_cases hx : x = r
    · subst hx
      have ht : (k * 4 + (x.1 : Int) == slot) = true := by rw [HS.out]; simp
      gi_wp2_with (refine wpListIn_plain rfl fun K2 hK2 => ?_; refine wpIn_clearAt (.tmp 19) 24 rfl 5 Try.underlying24 zeroValue_u8 g (16 * x.1) 15 (c2 - 16 * x.1) rfl cs 5 hrb (by omega) ?_; intro W3 hr3 hg3; refine hK2 _ _ ?_; clear hK2 K2)
      exact ⟨keeps_row hrb hg3, ⟨hr3, rfl⟩, hB.grown hg3 hB.size (fun g' hg' => by have := Option.some.inj hg'; omega)⟩
    · have ht : (k * 4 + (x.1 : Int) == slot) = false := by
        rw [HS.out, beq_eq_false_iff_ne]
        intro e
        exact hx (Fin.ext (by omega))
      gi_wp2
      exact ⟨KeepsOthers.refl W, ⟨rfl, rfl⟩, ⟨⟨hrb, hbx⟩, by
        rw [List.mem_append, List.mem_singleton]
        rintro (h1 | h1)
        · exact hnot h1
        · exact hx h1.symm⟩, hB⟩
  case done =>
    rintro D ys W hD rfl ⟨⟨_, hnot⟩, hB⟩ hK
    exact absurd (List.mem_finRange r) hnot
  case stop =>
    rintro D cc pre W hD hpre ⟨⟨hrb, rfl⟩, hB⟩ hK
    have hz := hrb.lt
    gi_wp2
    refine ⟨by simp, .inl ⟨_, _, rfl, run_takeDeferred hK, ?_⟩⟩
    have hpb := belowK_b (w := W4) (Nat.le_refl _) W D _ (.deferred none) hD hK rfl rfl
    have hrp : RowL (W.putObj D (.deferred none)) g 5 (splice cs (16 * r.1) (bvs (zeros 16))) := (hpb.block g (by omega)).trans hrb
    exact ⟨_, results_tmp rfl _ _ _, _, _, rfl, Own.spliced hrp (by omega) hcl hnc hcm htk (by rw [zeros_length]; omega), hB.trans (hpb.mono (by have := hb2.size; omega))⟩
end Go.Proofs.Ythjjjeolpdekoaa

/- Entries: is one the other? slices.Equal (layer 8). -/
namespace Go.Proofs.Ythjjjeolpdekoaa
open Go.RowKit Plain

theorem EntV.ext_iff' {x y : EntV} : x = y ↔ x.slot = y.slot ∧ x.ino = y.ino ∧ x.name = y.name := by
  cases x; cases y; simp [EntV.mk.injEq]
theorem eq_ent {x y : EntV} {b : Bool} (h : decide (x = y) = b) (w : World) : (binOp .eql 23 (.agg #[.int .i64 x.slot, .int .i64 x.ino, .string ⟨x.name.toArray⟩]) (.agg #[.int .i64 y.slot, .int .i64 y.ino, .string ⟨y.name.toArray⟩])).run Try.prog w = .ok (.bool b) w := by
  subst h
  simp only [EntV.ext_iff']
  by_cases h1 : x.slot = y.slot
  rotate_left
  · simp [go_sem, h1]
  by_cases h2 : x.ino = y.ino
  rotate_left
  · simp [go_sem, h1, h2]
  by_cases h3 : x.name = y.name
  rotate_left
  · simp [go_sem, h1, h2, h3]
  simp [go_sem, h1, h2, h3]
theorem neq_ent {x y : EntV} {b : Bool} (h : decide (x ≠ y) = b) (w : World) : (binOp .neq 23 (.agg #[.int .i64 x.slot, .int .i64 x.ino, .string ⟨x.name.toArray⟩]) (.agg #[.int .i64 y.slot, .int .i64 y.ino, .string ⟨y.name.toArray⟩])).run Try.prog w = .ok (.bool b) w := by
  subst h
  simp only [ne_eq, EntV.ext_iff']
  by_cases h1 : x.slot = y.slot
  rotate_left
  · simp [go_sem, h1]
  by_cases h2 : x.ino = y.ino
  rotate_left
  · simp [go_sem, h1, h2]
  by_cases h3 : x.name = y.name
  rotate_left
  · simp [go_sem, h1, h2, h3]
  simp [go_sem, h1, h2, h3]

theorem quiet_loadX {P : Program} {C : World → Prop} {o : Oper} {a : Act} {K : Act → Prop} (T : Nat) (x : Operand) (ho : o.op = .load T x) (p v : Value) (hx : a.eval x = p) (hl : ∀ w, C w → (Instr.loadAt T p).run P w = .ok v w) (hk : K (a.put o.dst v)) : o.quiet P a C K :=
  ⟨v, fun w hw => by
    unfold Oper.quietAt execOp
    simp only [ho, Sem.run_bind, Sem.run_pure, Result.andThen_ok, hx, hl w hw]
    exact ⟨rfl, rfl⟩, hk⟩
theorem BoolB.off {w : World} {b c : Bool} {w' : World} (h : Below w.heap.size w w') (hb : b = c) : BoolB w c (.returned (.bool b)) w' := BoolB.eq hb h
set_option maxHeartbeats 800000 in
theorem EqualE_any {A B : Option Addr} {n m c d : Nat} {l k : List EntV} (w : World) (ha : RdE entEn w (Under w.heap.size) A n l) (hb : RdE entEn w (Under w.heap.size) B m k) (hn : n ≤ 140737488355328) :
    Calls Try.prog 24 #[.slice A n c, .slice B m d] w (BoolB w (l == k)) := by
  by_cases hnm : n = m
  case neg =>
    have hne : (l == k) = false := by
      simp only [beq_eq_false_iff_ne, ne_eq]
      intro e
      apply hnm
      rw [← ha.len, ← hb.len, e]
    have HNE := hide hne
    have hd : ((n : Int) != (m : Int)) = true := by simp; omega
    clear ha hb hne
    go_enter Try.func24, Try.ntmps24
    go_wp2
    go_ret
    exact BoolB.off (below_self w) HNE.out.symm
  subst hnm
  obtain ⟨r, hr⟩ : ∃ r, (l == k) = r := ⟨_, rfl⟩
  rw [hr]
  have HR := hide hr
  have HA := hide ha
  have HB := hide hb
  clear hr ha hb
  have hd : ((n : Int) != (n : Int)) = false := by simp
  go_enter Try.func24, Try.ntmps24
  go_wp2
  go_loopw [13] (fun i wr => ∃ j q : Nat, j ≤ n ∧ i = .int .i64 j ∧ l.take j = k.take j ∧ wr = w.drewN q) (fun i _ => n - (intOf i).toNat)
  case atStart => exact ⟨0, 0, by omega, rfl, rfl, rfl⟩
  case round =>
    obtain ⟨j, q, hj, rfl, htake, rfl⟩ := hrel
    have HT := hide htake
    clear htake
    by_cases hlt : j < n
    · have hl1 : j < l.length := by rw [HA.out.len]; exact hlt
      have hl2 : j < k.length := by rw [HB.out.len]; exact hlt
      obtain ⟨b1, o1, rfl, _, hc1⟩ := ent_get HA.out (List.getElem?_eq_getElem hl1)
      obtain ⟨b2, o2, rfl, _, hc2⟩ := ent_get HB.out (List.getElem?_eq_getElem hl2)
      obtain ⟨x, hx⟩ : ∃ x, x = l[j] := ⟨_, rfl⟩
      obtain ⟨y, hy⟩ : ∃ y, y = k[j] := ⟨_, rfl⟩
      rw [← hx] at hc1
      rw [← hy] at hc2
      have hL1 : ∀ q, (Instr.loadAt 23 (.pointer (some ⟨b1, o1 + j * 3, none⟩))).run Try.prog (w.drewN q) = .ok (.agg #[.int .i64 x.slot, .int .i64 x.ino, .string ⟨x.name.toArray⟩]) (w.drewN q) := fun q => run_loadAt_cells (w := w.drewN q) ent_agg ent_size hc1 len3
      have hL2 : ∀ q, (Instr.loadAt 23 (.pointer (some ⟨b2, o2 + j * 3, none⟩))).run Try.prog (w.drewN q) = .ok (.agg #[.int .i64 y.slot, .int .i64 y.ino, .string ⟨y.name.toArray⟩]) (w.drewN q) := fun q => run_loadAt_cells (w := w.drewN q) ent_agg ent_size hc2 len3
      clear hc1 hc2
      by_cases hxy : x = y
      · have ht2 : l.take (j + 1) = k.take (j + 1) := by
          rw [List.take_succ_eq_append_getElem hl1, List.take_succ_eq_append_getElem hl2, HT.out, ← hx, ← hy, hxy]
        have HT2 := hide ht2
        have hne := fun W => neq_ent (b := false) (x := x) (y := y) (by simp [hxy]) W
        clear hx hy ht2 hxy hl1 hl2
        go_wp2
        refine wp_region_quiet_lit (by kernel_rfl) (by kernel_rfl) ?_
        iterate 3 (quiet_step (fail))
        refine Go.BigFrame.wpQuiet_want rfl (fun K hK => ?_)
        refine quiet_loadX 23 (.tmp 18) rfl _ _ rfl (by rintro _ ⟨n', rfl⟩; rw [World.drewN_drewN]; exact hL1 _) (hK _ ?_)
        clear hK K
        iterate 3 (quiet_step (fail))
        refine Go.BigFrame.wpQuiet_want rfl (fun K hK => ?_)
        refine quiet_loadX 23 (.tmp 22) rfl _ _ rfl (by rintro _ ⟨n', rfl⟩; rw [World.drewN_drewN]; exact hL2 _) (hK _ ?_)
        clear hK K
        iterate 1 (quiet_step (fail))
        refine wpQuiet_nil ?_
        rintro _ ⟨nq, rfl⟩
        go_wp2
        go_roundw
        case rel => exact ⟨j + 1, _, by omega, by go_num, HT2.out, rfl⟩
        case measure => simp [intOf]; omega
      · have hre : r = false := by
          rw [← HR.out]
          simp only [beq_eq_false_iff_ne, ne_eq]
          intro e
          apply hxy
          subst e
          rw [hx, hy]
        have hne := fun W => neq_ent (b := true) (x := x) (y := y) (by simp [hxy]) W
        have HRE := hide hre
        clear hx hy hre hxy hl1 hl2
        go_wp2
        refine wp_region_quiet_lit (by kernel_rfl) (by kernel_rfl) ?_
        iterate 3 (quiet_step (fail))
        refine Go.BigFrame.wpQuiet_want rfl (fun K hK => ?_)
        refine quiet_loadX 23 (.tmp 18) rfl _ _ rfl (by rintro _ ⟨n', rfl⟩; rw [World.drewN_drewN]; exact hL1 _) (hK _ ?_)
        clear hK K
        iterate 3 (quiet_step (fail))
        refine Go.BigFrame.wpQuiet_want rfl (fun K hK => ?_)
        refine quiet_loadX 23 (.tmp 22) rfl _ _ rfl (by rintro _ ⟨n', rfl⟩; rw [World.drewN_drewN]; exact hL2 _) (hK _ ?_)
        clear hK K
        iterate 1 (quiet_step (fail))
        refine wpQuiet_nil ?_
        rintro _ ⟨nq, rfl⟩
        go_wp2
        go_ret
        exact BoolB.off (below_drewN (below_drewN (below_self w) _) _) HRE.out.symm
    · obtain rfl : j = n := by omega
      have hre : r = true := by
        rw [← HR.out]
        have e := HT.out
        rw [List.take_of_length_le (by rw [HA.out.len]; exact Nat.le_refl _), List.take_of_length_le (by rw [HB.out.len]; exact Nat.le_refl _)] at e
        simp [e]
      have HRE := hide hre
      clear hre
      go_wp2
      go_ret
      exact BoolB.off (below_drewN (below_self w) _) HRE.out.symm
end Go.Proofs.Ythjjjeolpdekoaa

/- entry.Parse (layer 8). -/
namespace Go.Proofs.Ythjjjeolpdekoaa
open Go.RowKit Go.Shelf Plain
attribute [local go_sem] Oper.semAt_some

/-- An entry's cells. -/
def cellsE (x : EntV) : List Value := [.int .i64 x.slot, .int .i64 x.ino, .string ⟨x.name.toArray⟩]
def flatE (l : List EntV) : List Value := l.flatMap cellsE
def intsV (l : List Int) : List Value := l.map (fun i => Value.int .i64 i)
theorem flatE_snoc (l : List EntV) (x : EntV) : flatE (l ++ [x]) = flatE l ++ cellsE x := by simp [flatE]
theorem intsV_snoc (l : List Int) (x : Int) : intsV (l ++ [x]) = intsV l ++ [.int .i64 x] := by simp [intsV]
theorem ownsRow_below {w w' : World} {base e s n : Nat} {v : Value} {xs : List Value} (h : w.ownsRow base e s v n xs) (hb : Below w.heap.size w w') : w'.ownsRow base e s v n xs := by
  refine ⟨h.1, ?_⟩
  rcases h.2 with h0 | ⟨g, cap, cur, h1, h2, h3, h4⟩
  · exact .inl h0
  · refine .inr ⟨g, cap, cur, h1, h2, ?_, h4⟩
    rw [hb.block g ?_]
    · exact h3
    · rcases Nat.lt_or_ge g w.heap.size with hlt | hge
      · exact hlt
      · rw [Array.getElem?_eq_none hge] at h3; cases h3
/-- What lies in slot j of a block. -/
def slS (l : List UInt8) (j : Nat) : List UInt8 := (l.drop (16 * j)).take 16
def accE (l : List UInt8) (k : Int) (pre : List (Fin 4)) : List EntV := pre.foldl (fun a j => if gotE (slS l j.1) (k * 4 + (j.1 : Int)) = true then a ++ [entE (slS l j.1) (k * 4 + (j.1 : Int))] else a) []
def accB (l : List UInt8) (k : Int) (pre : List (Fin 4)) : List Int := pre.foldl (fun a j => if readE (slS l j.1) (k * 4 + (j.1 : Int)) = true then a else a ++ [k * 4 + (j.1 : Int)]) []
theorem accE_snoc (l : List UInt8) (k : Int) (pre : List (Fin 4)) (j : Fin 4) : accE l k (pre ++ [j]) = if gotE (slS l j.1) (k * 4 + (j.1 : Int)) = true then accE l k pre ++ [entE (slS l j.1) (k * 4 + (j.1 : Int))] else accE l k pre := by
  unfold accE
  rw [List.foldl_append]
  rfl
theorem accB_snoc (l : List UInt8) (k : Int) (pre : List (Fin 4)) (j : Fin 4) : accB l k (pre ++ [j]) = if readE (slS l j.1) (k * 4 + (j.1 : Int)) = true then accB l k pre else accB l k pre ++ [k * 4 + (j.1 : Int)] := by
  unfold accB
  rw [List.foldl_append]
  rfl
theorem slS_bs {w : World} {B b o : Nat} {l : List UInt8} {j : Nat} (h : Bs w B (some ⟨b, o, none⟩) 64 l) (hj : j < 4) : Bs w B (some ⟨b, o + 16 * j, none⟩) 16 (slS l j) := by
  have hl := h.len
  obtain ⟨b', o', e, hb, hc⟩ := h.2 (by omega)
  cases e
  refine ⟨by unfold slS; rw [List.length_take, List.length_drop]; omega, fun _ => ⟨b, o + 16 * j, rfl, hb, fun i x hx => ?_⟩⟩
  unfold slS at hx
  rw [List.getElem?_take] at hx
  split at hx
  · rw [List.getElem?_drop] at hx
    have := hc _ x hx
    rwa [← Nat.add_assoc] at this
  · cases hx
section
variable {F : Fence} {n : Nat} {P : Program} {w : World} {o : Oper} {a : Act} {K : Act → World → Prop} {Q : Exit → Act → World → Prop}
theorem wpIn_loadW (T : Nat) (x : Operand) (ho : o.op = .load T x) (k : Nat) (hag : ∀ w, (isAgg T).run P w = .ok true w) (hsz : ∀ w, (Go.sizeOf T).run P w = .ok k w) (g t : Nat) (hx : a.eval x = .pointer (some ⟨g, 0, none⟩)) (cs : List Value) (h : RowL w g t cs) (hk : cs.length = k)
    (hK : K (a.put o.dst (.agg cs.toArray)) w) : o.wpIn F n P a w K Q := by
  have hr := run_loadAt_row (P := P) hag hsz (off := 0) h (cs := cs) (by rw [List.drop_zero, List.take_of_length_le (by omega)]) hk
  unfold Oper.wpIn
  refine ⟨by simp [Oper.about, ho], ?_⟩
  rw [Oper.semAt_plain F _ _ (by rw [ho]; intro c hc'; cases hc')]
  simp only [execOp, ho, Sem.run_bind, Sem.run_pure, Result.andThen_ok, hx, hr]
  exact hK
theorem wpIn_storeW (T : Nat) (x y : Operand) (ho : o.op = .store T x y) (k : Nat) (hsz : ∀ w, (Go.sizeOf T).run P w = .ok k w) (g t : Nat) (hx : a.eval x = .pointer (some ⟨g, 0, none⟩)) (cur cs : List Value) (hy : a.eval y = .agg cs.toArray) (h : RowL w g t cur) (hk : cs.length = k) (hcur : cur.length = k) (h1 : ∀ v ∈ cs, v.oneCell' = true)
    (hK : ∀ w', RowL w' g t cs → w.grownBy w' (some g) → w'.heap.size = w.heap.size → K (a.put o.dst undef) w') : o.wpIn F n P a w K Q := by
  have hr := run_storeAt_row (P := P) hsz (off := 0) h hk (by omega) h1
  have e : splice cur 0 cs = cs := by unfold splice; rw [List.take_zero, List.nil_append, List.drop_of_length_le (by omega), List.append_nil]
  rw [e] at hr
  unfold Oper.wpIn
  refine ⟨by simp [Oper.about, ho], ?_⟩
  rw [Oper.semAt_plain F _ _ (by rw [ho]; intro c hc'; cases hc')]
  simp only [execOp, ho, Sem.run_bind, Sem.run_pure, Result.andThen_ok, hx, hy, hr]
  exact hK _ (h.setRow_ _) (grownBy_setRow _ _ _) (by simp)
theorem wpIn_lit1 {w' : World} (t : Nat) (x : Operand) (ho : o.op = .buildSlice t 1 #[(0, x)]) (vx v : Value) (hx : a.eval x = vx) (hr : (Instr.buildSlice t 1 #[(0, vx)]).run P w = .ok v w') (hK : K (a.put o.dst v) w') : o.wpIn F n P a w K Q := by
  unfold Oper.wpIn
  refine ⟨by simp [Oper.about, ho], ?_⟩
  rw [Oper.semAt_plain F _ _ (by rw [ho]; intro c hc'; cases hc')]
  simp only [execOp, ho, List.map_toArray, List.map_cons, List.map_nil, hx, Sem.run_bind, Sem.run_pure, Result.andThen_ok, hr]
  exact hK
end
def zent : Value := .agg #[.int .i64 0, .int .i64 0, .string ⟨#[]⟩]
theorem ent_info : (Try.prog.info? 23).map (fun i => (i.zero, i.size, i.bytes)) = some (some zent, 3, 32) := by kernel_rfl
theorem lit_ent (x : EntV) (W : World) : (Instr.buildSlice 34 1 #[(0, .agg (cellsE x).toArray)]).run Try.prog W = .ok (.slice (some ⟨W.heap.size, 0, none⟩) 1 1) (W.alloc (.cells (cellsE x).toArray 23)) := by
  obtain ⟨it, hi, hz, hsz, -⟩ := info_parts ent_info
  refine run_buildSlice W _ 23 1 _ _ it zent Try.underlying34 hi hz (by omega) (by omega) ?_
  rw [hsz]
  have := Great.fill_whole (s := 3) (by omega) [.agg (cellsE x).toArray] ((Array.range (1 * 3)).map (zent.cells[· % zent.cells.size]!)) (by intro v hv; rw [List.mem_singleton] at hv; subst hv; simp [Value.cells, cellsE]) (by simp)
  simpa [Value.cells] using this
end Go.Proofs.Ythjjjeolpdekoaa

/- Words for entry.Parse (layer 8). -/
namespace Go.Proofs.Ythjjjeolpdekoaa
open Go.RowKit Go.Shelf Plain
attribute [local go_sem] Oper.semAt_some

theorem own_owns {W W' : World} {row : Option Nat} {base e s n : Nat} {v : Value} {xs : List Value} (h : W.ownsRow base e s v n xs) (hg : W.grownBy W' row) (hr : ∀ r, row = some r → ∃ o : Obj, W.heap[r]? = some o ∧ o.isCells = false) : W'.ownsRow base e s v n xs := by
  refine h.kept hg ?_
  rcases h.2 with ⟨rfl, _⟩ | ⟨g, cap, cur, rfl, _, hc, _⟩
  · exact .inl rfl
  · refine .inr fun e => ?_
    obtain ⟨o, ho, hc'⟩ := hr g e.symm
    rw [hc] at ho
    cases Option.some.inj ho
    cases hc'
theorem owns_apart {W : World} {b1 b2 e1 e2 s1 s2 n1 n2 : Nat} {v1 v2 : Value} {x1 x2 : List Value} (h1 : W.ownsRow b1 e1 s1 v1 n1 x1) (h2 : W.ownsRow b2 e2 s2 v2 n2 x2) (he : e1 ≠ e2) : v2.ownBlock = none ∨ v2.ownBlock ≠ v1.ownBlock := by
  rcases h2.2 with ⟨rfl, _⟩ | ⟨g2, _, _, rfl, _, hc2, _⟩
  · exact .inl rfl
  · rcases h1.2 with ⟨rfl, _⟩ | ⟨g1, _, _, rfl, _, hc1, _⟩
    · exact .inr (fun e => by cases e)
    · refine .inr fun e => ?_
      have e' : g2 = g1 := Option.some.inj e
      subst e'
      rw [hc1] at hc2
      have := Option.some.inj hc2
      injection this with _ h _
      exact he h
/-- The two lists so far. -/
def Acc (base g1 g2 : Nat) (L1 : List EntV) (L2 : List Int) (W : World) : Prop :=
  (∃ A1 n1 c1, RowL W g1 34 [.slice A1 n1 c1] ∧ W.ownsRow base 23 3 (.slice A1 n1 c1) n1 (flatE L1)) ∧ (∃ A2 n2 c2, RowL W g2 36 [.slice A2 n2 c2] ∧ W.ownsRow base 3 1 (.slice A2 n2 c2) n2 (intsV L2))
theorem Acc.on {base g1 g2 : Nat} {L1 : List EntV} {L2 : List Int} {W W' : World} (h : Acc base g1 g2 L1 L2 W) (hb : Below W.heap.size W W') : Acc base g1 g2 L1 L2 W' := by
  obtain ⟨⟨A1, n1, c1, h1, h2⟩, ⟨A2, n2, c2, h3, h4⟩⟩ := h
  exact ⟨⟨A1, n1, c1, h1.on hb, ownsRow_below h2 hb⟩, ⟨A2, n2, c2, h3.on hb, ownsRow_below h4 hb⟩⟩
theorem Acc.turned {base g1 g2 : Nat} {L1 : List EntV} {L2 : List Int} {W W' : World} {row : Option Nat} (h : Acc base g1 g2 L1 L2 W) (hg : W.grownBy W' row) (hr : ∀ r, row = some r → ∃ o : Obj, W.heap[r]? = some o ∧ o.isCells = false) : Acc base g1 g2 L1 L2 W' := by
  obtain ⟨⟨A1, n1, c1, h1, h2⟩, ⟨A2, n2, c2, h3, h4⟩⟩ := h
  refine ⟨⟨A1, n1, c1, h1.grown hg ?_, own_owns h2 hg hr⟩, ⟨A2, n2, c2, h3.grown hg ?_, own_owns h4 hg hr⟩⟩
  · intro e
    obtain ⟨o, ho, hc⟩ := hr g1 e.symm
    rw [show W.heap[g1]? = _ from h1] at ho
    cases Option.some.inj ho
    cases hc
  · intro e
    obtain ⟨o, ho, hc⟩ := hr g2 e.symm
    rw [show W.heap[g2]? = _ from h3] at ho
    cases Option.some.inj ho
    cases hc
/-- It returns the entries and the numbers. -/
def PRet (w : World) (L1 : List EntV) (L2 : List Int) (e : Ending) (w' : World) : Prop := ∃ A1 n1 c1 A2 n2 c2, e = .returned (.tuple #[.slice A1 n1 c1, .slice A2 n2 c2]) ∧ w'.ownsRow w.heap.size 23 3 (.slice A1 n1 c1) n1 (flatE L1) ∧ w'.ownsRow w.heap.size 3 1 (.slice A2 n2 c2) n2 (intsV L2) ∧ Below w.heap.size w w'
theorem flatE_len (l : List EntV) : (flatE l).length = l.length * 3 := by
  induction l with
  | nil => rfl
  | cons x r ih => rw [show flatE (x :: r) = cellsE x ++ flatE r from rfl, List.length_append, ih, List.length_cons]; simp only [cellsE, List.length_cons, List.length_nil]; omega
theorem intsV_len (l : List Int) : (intsV l).length = l.length * 1 := by simp [intsV]
theorem int_info' : (Try.prog.info? 3).map (fun i => (i.zero, i.size, i.bytes)) = some (some (.int .i64 0), 1, 8) := by kernel_rfl
theorem foldl_len {α β : Type} (f : List β → α → List β) (hf : ∀ a x, (f a x).length ≤ a.length + 1) (pre : List α) (a : List β) : (pre.foldl f a).length ≤ a.length + pre.length := by
  induction pre generalizing a with
  | nil => simp
  | cons x r ih => have h1 := ih (f a x); have h2 := hf a x; simp only [List.foldl_cons, List.length_cons]; omega
theorem accE_len (l : List UInt8) (k : Int) (pre : List (Fin 4)) : (accE l k pre).length ≤ pre.length := by
  have := foldl_len (fun a (j : Fin 4) => if gotE (slS l j.1) (k * 4 + (j.1 : Int)) = true then a ++ [entE (slS l j.1) (k * 4 + (j.1 : Int))] else a) (fun a x => by split <;> simp) pre []
  simpa [accE] using this
theorem accB_len (l : List UInt8) (k : Int) (pre : List (Fin 4)) : (accB l k pre).length ≤ pre.length := by
  have := foldl_len (fun a (j : Fin 4) => if readE (slS l j.1) (k * 4 + (j.1 : Int)) = true then a else a ++ [k * 4 + (j.1 : Int)]) (fun a x => by split <;> simp) pre []
  simpa [accB] using this
theorem owns_slice {W : World} {base e s n : Nat} {v : Value} {xs : List Value} (h : W.ownsRow base e s v n xs) : ∃ A c, v = .slice A n c := by
  rcases h.2 with ⟨rfl, rfl⟩ | ⟨g, cap, cur, rfl, _⟩
  · exact ⟨none, 0, rfl⟩
  · exact ⟨_, _, rfl⟩
/-- append of one entry, inside a fence. -/
theorem wpListIn_appE {F : Fence} {n : Nat} {ops : Array Oper} {rest : List Oper} {o : Oper} {a : Act} {Q : Exit → Act → World → Prop} (W3 : World) (base : Nat) (hg : o.guard = none) (s x : Operand)
    (hop : o.op = Op.call { callee := Callee.builtin Builtin.append, args := #[s, x], argTypes := #[34, 34] }) (A1 : Option Addr) (n1 c1 : Nat) (L1 : List EntV) (y : EntV) (hs : a.eval s = .slice A1 n1 c1) (ho1 : W3.ownsRow base 23 3 (.slice A1 n1 c1) n1 (flatE L1))
    (hx : a.eval x = .slice (some ⟨W3.heap.size, 0, none⟩) 1 1) (hm : n1 ≤ 100) (hb : base ≤ W3.heap.size)
    (hK : ∀ A5 c5 W5, W5.ownsRow base 23 3 (.slice A5 (n1 + 1) c5) (n1 + 1) (flatE (L1 ++ [y])) → (W3.alloc (.cells (cellsE y).toArray 23)).grownBy W5 (Value.slice A1 n1 c1).ownBlock → wpListIn F n Try.prog ops Q rest (a.put o.dst (.slice A5 (n1 + 1) c5)) W5) :
    wpListIn F n Try.prog ops Q (o :: rest) a (W3.alloc (.cells (cellsE y).toArray 23)) := by
  obtain ⟨ie, hie, hze, hse, hbe⟩ := info_parts ent_info
  have hc := (RowL.new W3 23 (cellsE y)).src (off := 0) (m := 3) (l := cellsE y) rfl rfl
  have h1c : ∀ u ∈ cellsE y, u.oneCell' = true := by simp [cellsE, Value.oneCell']
  refine wpListIn_append_own _ hg s x 34 hop base 23 ie zent 3 32 Try.underlying34 hie hze hse hbe rfl (by omega) (.slice A1 n1 c1) n1 (flatE L1) hs (ho1.alloc _) ⟨W3.heap.size, 0, none⟩ 1 1 (cellsE y) hx rfl hc h1c (by simp only [maxLen]; omega) (by omega) (by rw [World.size_alloc]; omega) ?_
  intro v' W5 ho5 hg5 _
  obtain ⟨A5, c5, rfl⟩ := owns_slice ho5
  rw [← flatE_snoc] at ho5
  exact hK A5 c5 W5 ho5 hg5
end Go.Proofs.Ythjjjeolpdekoaa

/- entry.Parse: one append, all that it keeps (layer 8). -/
namespace Go.Proofs.Ythjjjeolpdekoaa
open Go.RowKit Go.Shelf Plain
attribute [local go_sem] Oper.semAt_some

section
variable {F : Fence} {n : Nat} {P : Program} {w : World} {o : Oper} {a : Act} {K : Act → World → Prop} {Q : Exit → Act → World → Prop}
/-- One cell, stored, inside a fence. -/
theorem wpIn_storeV (T : Nat) (x y : Operand) (ho : o.op = .store T x y) (hsz : ∀ w, (Go.sizeOf T).run P w = .ok 1 w) (g t : Nat) (hx : a.eval x = .pointer (some ⟨g, 0, none⟩)) (v : Value) (hy : a.eval y = v) (hv : v.cells = #[v]) (h1 : v.oneCell' = true) (cur : Value) (h : RowL w g t [cur])
    (hK : ∀ w', RowL w' g t [v] → w.grownBy w' (some g) → K (a.put o.dst undef) w') : o.wpIn F n P a w K Q := by
  have hst := run_storeCells_at P g 0 t [v] 0 #[cur] w h (by simp) (by simp [h1])
  simp only [Nat.add_zero] at hst
  have hr : (Instr.storeAt T (.pointer (some ⟨g, 0, none⟩)) v).run P w = .ok () (w.setRow g [v].toArray) := by
    simp [Instr.storeAt, Instr.sureAddr, storeVar, hsz, hv, hst]
  unfold Oper.wpIn
  refine ⟨by simp [Oper.about, ho], ?_⟩
  rw [Oper.semAt_plain F _ _ (by rw [ho]; intro c hc'; cases hc')]
  simp only [execOp, ho, Sem.run_bind, Sem.run_pure, Result.andThen_ok, hx, hy, hr]
  exact hK _ (h.setRow_ _) (grownBy_setRow _ _ _)
end
theorem kpB_any {m1 m2 : Nat} {row : Option Nat} {A B : World} (h1 : m1 < A.heap.size) (h2 : m2 < A.heap.size) (hr : ∀ g, row = some g → m1 ≠ g ∧ m2 ≠ g) (h : A.grownBy B row) : KpB m1 m2 A B := by
  refine ⟨World.cell?_of_block (h.block m1 h1 ?_), World.cell?_of_block (h.block m2 h2 ?_)⟩
  · intro e; exact (hr m1 e.symm).1 rfl
  · intro e; exact (hr m2 e.symm).2 rfl
theorem own_block {W : World} {base e s n : Nat} {v : Value} {xs : List Value} (h : W.ownsRow base e s v n xs) : ∀ g, v.ownBlock = some g → base ≤ g ∧ g < W.heap.size ∧ ∃ o : Obj, W.heap[g]? = some o ∧ o.isCells = true := by
  intro g hg
  rcases h.2 with ⟨rfl, _⟩ | ⟨g', cap, cur, rfl, hb, hc, _⟩
  · cases hg
  · obtain rfl : g' = g := Option.some.inj hg
    refine ⟨hb, ?_, _, hc, rfl⟩
    rcases Nat.lt_or_ge g' W.heap.size with hlt | hge
    · exact hlt
    · rw [Array.getElem?_eq_none hge] at hc; cases hc
theorem app_keeps {W3 W5 W6 : World} {lit : Obj} {base g1 m1 m2 e1 s1 n1 t1 : Nat} {v1 : Value} {xs1 cs1 : List Value} (ho : W3.ownsRow base e1 s1 v1 n1 xs1) (hg5 : (W3.alloc lit).grownBy W5 v1.ownBlock) (hg6 : W5.grownBy W6 (some g1)) (hr : RowL W3 g1 t1 cs1)
    (hb : g1 < base) (hm1 : m1 < base) (hm2 : m2 < base) (hn1 : m1 ≠ g1) (hn2 : m2 ≠ g1) (hbs : base ≤ W3.heap.size) :
    KeepsOthers W3 W6 ∧ KpB m1 m2 W3 W6 ∧ W3.heap.size ≤ W6.heap.size ∧ (∀ B w, B ≤ g1 → Below B w W3 → Below B w W6) ∧ (∀ g t cs, RowL W3 g t cs → g < base → g ≠ g1 → RowL W6 g t cs) ∧
    (∀ e s n v xs, W3.ownsRow base e s v n xs → (v.ownBlock = none ∨ v.ownBlock ≠ v1.ownBlock) → W6.ownsRow base e s v n xs) ∧ (∀ e s n v xs, W5.ownsRow base e s v n xs → W6.ownsRow base e s v n xs) := by
  have ha := below_new (below_self W3) lit
  have hs4 : (W3.alloc lit).heap.size = W3.heap.size + 1 := by simp
  have hr4 : RowL (W3.alloc lit) g1 t1 cs1 := hr.on ha
  have hob := own_block ho
  have hr5 : RowL W5 g1 t1 cs1 := hr4.grown hg5 (fun e => by have := hob g1 e.symm; omega)
  have hz5 := hg5.size
  have hz6 := hg6.size
  have hlast : ∀ e s n v xs, W5.ownsRow base e s v n xs → W6.ownsRow base e s v n xs := fun e s n v xs h => by
    refine h.kept hg6 ?_
    rcases h.2 with ⟨rfl, _⟩ | ⟨g, cap, cur, rfl, hbg, _⟩
    · exact .inl rfl
    · refine .inr fun e => ?_
      have : g = g1 := Option.some.inj e
      omega
  refine ⟨((keeps_below ha).trans (KeepsOthers.of_grownBy hg5 ?_)).trans (keeps_row hr5 hg6), kpB_t (kpB_t (kpB_below (by omega) (by omega) ha) (kpB_any (by omega) (by omega) (fun g e => by have := hob g e; omega) hg5)) (kpB_any (by omega) (by omega) (fun g e => by have := Option.some.inj e; omega) hg6), by omega, ?_, ?_, ?_, hlast⟩
  · intro j o e hj
    obtain ⟨-, hlt, o', ho', hc'⟩ := hob j e
    rw [show (W3.alloc lit).heap[j]? = W3.heap[j]? from ha.block j hlt, ho'] at hj
    cases Option.some.inj hj
    exact hc'
  · intro B w hB h
    have h1 : Below B w (W3.alloc lit) := h.alloc (by omega) lit
    exact (h1.grown hg5 (by omega) (fun g e => by have := hob g e; omega)).grown hg6 (by omega) (fun g e => by have := Option.some.inj e; omega)
  · intro g t cs h hg hne
    exact ((h.on ha).grown hg5 (fun e => by have := hob g e.symm; omega)).grown hg6 (fun e => hne (Option.some.inj e))
  · intro e s n v xs h hne
    exact hlast _ _ _ _ _ ((h.alloc lit).kept hg5 hne)
/-- append of one number, inside a fence. -/
theorem wpListIn_appI {F : Fence} {n : Nat} {ops : Array Oper} {rest : List Oper} {o : Oper} {a : Act} {Q : Exit → Act → World → Prop} (W3 : World) (base : Nat) (hg : o.guard = none) (s x : Operand)
    (hop : o.op = Op.call { callee := Callee.builtin Builtin.append, args := #[s, x], argTypes := #[36, 36] }) (A1 : Option Addr) (n1 c1 : Nat) (L1 : List Int) (y : Int) (hs : a.eval s = .slice A1 n1 c1) (ho1 : W3.ownsRow base 3 1 (.slice A1 n1 c1) n1 (intsV L1))
    (hx : a.eval x = .slice (some ⟨W3.heap.size, 0, none⟩) 1 1) (hm : n1 ≤ 100) (hb : base ≤ W3.heap.size)
    (hK : ∀ A5 c5 W5, W5.ownsRow base 3 1 (.slice A5 (n1 + 1) c5) (n1 + 1) (intsV (L1 ++ [y])) → (W3.alloc (.cells #[.int .i64 y] 3)).grownBy W5 (Value.slice A1 n1 c1).ownBlock → wpListIn F n Try.prog ops Q rest (a.put o.dst (.slice A5 (n1 + 1) c5)) W5) :
    wpListIn F n Try.prog ops Q (o :: rest) a (W3.alloc (.cells #[.int .i64 y] 3)) := by
  obtain ⟨ie, hie, hze, hse, hbe⟩ := info_parts int_info'
  have hc := (RowL.new W3 3 [.int .i64 y]).src (off := 0) (m := 1) (l := [.int .i64 y]) rfl rfl
  have h1c : ∀ u ∈ [Value.int .i64 y], u.oneCell' = true := by simp [Value.oneCell']
  refine wpListIn_append_own _ hg s x 36 hop base 3 ie (.int .i64 0) 1 8 Try.underlying36 hie hze hse hbe rfl (by omega) (.slice A1 n1 c1) n1 (intsV L1) hs (ho1.alloc _) ⟨W3.heap.size, 0, none⟩ 1 1 [.int .i64 y] hx rfl hc h1c (by simp only [maxLen]; omega) (by omega) (by rw [World.size_alloc]; omega) ?_
  intro v' W5 ho5 hg5 _
  obtain ⟨A5, c5, rfl⟩ := owns_slice ho5
  rw [← intsV_snoc] at ho5
  exact hK A5 c5 W5 ho5 hg5
end Go.Proofs.Ythjjjeolpdekoaa

/- entry.Parse (layer 8). -/
namespace Go.Proofs.Ythjjjeolpdekoaa
open Go.RowKit Go.Shelf Plain
attribute [local go_sem] Oper.semAt_some

theorem owns_rebase {W : World} {b base e s n : Nat} {v : Value} {xs : List Value} (h : W.ownsRow base e s v n xs) (hb : b ≤ base) : W.ownsRow b e s v n xs := by
  refine ⟨h.1, ?_⟩
  rcases h.2 with h0 | ⟨g, cap, cur, h1, h2, h3⟩
  · exact .inl h0
  · exact .inr ⟨g, cap, cur, h1, Nat.le_trans hb h2, h3⟩
theorem below_stored {W2 W3 : World} {o : Obj} (hg : (W2.alloc o).grownBy W3 (some W2.heap.size)) : Below W2.heap.size W2 W3 := (below_new (below_self W2) o).grown hg (by simp) (fun g hg => by have := Option.some.inj hg; omega)
theorem acc_split {base g1 g2 : Nat} {L1 : List EntV} {L2 : List Int} {W : World} (h : Acc base g1 g2 L1 L2 W) : ∃ A1 n1 c1 A2 n2 c2, RowL W g1 34 [.slice A1 n1 c1] ∧ W.ownsRow base 23 3 (.slice A1 n1 c1) n1 (flatE L1) ∧ RowL W g2 36 [.slice A2 n2 c2] ∧ W.ownsRow base 3 1 (.slice A2 n2 c2) n2 (intsV L2) ∧ L1.length = n1 ∧ L2.length = n2 ∧ W.cell? ⟨g1, 0, none⟩ = some (.slice A1 n1 c1) ∧ W.cell? ⟨g2, 0, none⟩ = some (.slice A2 n2 c2) := by
  obtain ⟨⟨A1, n1, c1, h1, h2⟩, ⟨A2, n2, c2, h3, h4⟩⟩ := h
  have e1 := h2.1
  have e2 := h4.1
  rw [flatE_len] at e1
  rw [intsV_len] at e2
  exact ⟨A1, n1, c1, A2, n2, c2, h1, h2, h3, h4, by omega, by omega, h1.cell 0, h3.cell 0⟩
theorem es_size : ∀ w, (Go.sizeOf 34).run Try.prog w = .ok 1 w := fun w => by kernel_rfl
theorem is_size : ∀ w, (Go.sizeOf 36).run Try.prog w = .ok 1 w := fun w => by kernel_rfl
set_option maxRecDepth 100000 in
set_option maxHeartbeats 1000000 in
theorem Parse_any {b o c : Nat} {l : List UInt8} {k : Int} (w : World) (h : Bs w w.heap.size (some ⟨b, o, none⟩) 64 l) (hc64 : 64 ≤ c) (hk0 : 0 ≤ k) (hk4 : k < 4) : Calls Try.prog 18 #[.slice (some ⟨b, o, none⟩) 64 c, .int .i64 k] w (PRet w (accE l k (List.finRange 4)) (accB l k (List.finRange 4))) := by
  have H := hide h
  clear h
  refine (callsIn_wide (n := 3)).1 ?_
  refine callsIn_of_wp_marks Try.func18 rfl trivial ?_ rfl
  simp only [Try.ntmps18, List.size_toArray, List.length_cons, List.length_nil, Nat.reduceAdd, Nat.reduceSub, Array.replicate_succ, Array.replicate_zero, List.push_toArray, List.append_toArray, List.nil_append, List.cons_append]
  gi_wp2
  refine ⟨trivial, (parts_in Fence.wide 2 trivial rfl _ _ _ _ _).mono ?_⟩
  rintro e w' ⟨rfl, rfl⟩
  gi_wp2
  obtain ⟨W4, hW4, R0, R1, R2, R3, HB, hs4⟩ := rows4 w [.slice none 0 0] [.slice none 0 0] [.slice (some ⟨b, o, none⟩) 64 c] [.int .i64 k] 34 36 24 3
  have hW4' : ((((w.alloc (.cells #[.slice none 0 0] 34)).alloc (.cells #[.slice none 0 0] 36)).alloc (.cells #[.slice (some ⟨b, o, none⟩) 64 c] 24)).alloc (.cells #[.int .i64 k] 3)) = W4 := hW4.symm
  rw [hW4']
  clear hW4 hW4'
  refine wpIn_rangeFunc_ownF rfl (by omega) (gf := 78) (lb := #[.pointer (some ⟨w.heap.size + 1 + 1, 0, none⟩), .pointer (some ⟨w.heap.size + 1 + 1 + 1, 0, none⟩)]) rfl trivial (enters_of Try.func78 (by kernel_rfl) rfl)
    (parts1_stops Fence.wide 2 trivial rfl (by omega) (w.heap.size + 1 + 1) (w.heap.size + 1 + 1 + 1) k b o c hk0 hk4 hc64 W4 (R2.cell 0) (R3.cell 0) (by omega) (by omega)) kpB_t
    (fun W b o o' hb hw h1 h2 => kpB_below (n := W4.heap.size) (by omega) (by omega) (belowK_b (Nat.le_refl _) W b o o' hb hw h1 h2)) (Below.refl _ _) (fun _ => rfl)
    (fun pre W => (Acc W4.heap.size w.heap.size (w.heap.size + 1) (accE l k pre) (accB l k pre) W ∧ W4.heap.size ≤ W.heap.size) ∧ Below w.heap.size w W)
    (fun _ _ _ => False)
    (OwnFrom.and (Go.Own.from (fun s A' B' row hs hg hr => ⟨hs.1.turned hg hr, Nat.le_trans hs.2 hg.size⟩) _) (ownFrom_below (Nat.le_refl _) (by omega)))
    (fun _ _ _ _ _ hs _ _ => hs)
    ⟨⟨⟨⟨none, 0, 0, R0, World.ownsRow_nil _ _ _ _⟩, ⟨none, 0, 0, R1, World.ownsRow_nil _ _ _ _⟩⟩, Nat.le_refl _⟩, HB⟩
    (fun x => { tmps := #[.slice (some ⟨b, o, none⟩) 64 c, .int .i64 k, undef, undef, .slice none 0 0, .slice none 0 0, .pointer (some ⟨w.heap.size, 0, none⟩), .pointer (some ⟨w.heap.size + 1, 0, none⟩), .int .i64 (k * 4 + (x.1 : Int)), .slice (some ⟨b, o + 16 * x.1, none⟩) 16 (c - 16 * x.1), undef, undef, undef, .slice (some ⟨b, o, none⟩) 64 c, .int .i64 k, .func (.func 78) #[] #[.pointer (some ⟨w.heap.size + 1 + 1, 0, none⟩), .pointer (some ⟨w.heap.size + 1 + 1 + 1, 0, none⟩)], .int .i64 (k * 4 + (x.1 : Int)), .slice (some ⟨b, o + 16 * x.1, none⟩) 16 (c - 16 * x.1), undef, undef, undef, undef, undef, undef, undef, undef, undef, undef, undef, undef, undef, undef, undef, undef, undef, undef, undef, undef], defers := [] }) ?assign ?body ?done ?stop
  case assign =>
    intro l' x W K hK
    dsimp only [encP]
    gi_wp2
    exact hK
  case body =>
    rintro l' pre x W ⟨⟨hacc, hsz⟩, hB⟩ hpl
    have hx4 := x.2
    have hcb := slS_bs (H.out.below hB) hx4
    gi_wp2
    refine ⟨trivial, (CallsIn.inRound l' (callsIn_wide.2 (EGet_any W (hcb.more hB.size) (by omega)))).mono ?_⟩
    rintro e W2 ⟨rfl, hbel⟩
    obtain ⟨y, hy⟩ : ∃ y, entE (slS l x.1) (k * 4 + (x.1 : Int)) = y := ⟨_, rfl⟩
    obtain ⟨gb, hgb⟩ : ∃ y, gotE (slS l x.1) (k * 4 + (x.1 : Int)) = y := ⟨_, rfl⟩
    obtain ⟨rb, hrb⟩ : ∃ y, readE (slS l x.1) (k * 4 + (x.1 : Int)) = y := ⟨_, rfl⟩
    rw [hy, hgb, hrb]
    have HGE : Hid (accE l k (pre ++ [x]) = if gb = true then accE l k pre ++ [y] else accE l k pre) := hide (by rw [accE_snoc, hgb, hy])
    have HGB : Hid (accB l k (pre ++ [x]) = if rb = true then accB l k pre else accB l k pre ++ [k * 4 + (x.1 : Int)]) := hide (by rw [accB_snoc, hrb])
    have HGR : Hid (gb = true → rb = true) := hide (fun h => by rw [← hrb]; unfold readE; rw [hgb, h]; rfl)
    clear hy hgb hrb
    have hacc2 := hacc.on hbel
    have hs2 := hbel.size
    have hB2 := below_step hB hbel
    have hle1 := accE_len l k pre
    have hle2 := accB_len l k pre
    obtain ⟨ie, hie, hze, hse, hbe⟩ := info_parts ent_info
    obtain ⟨ii, hii, hzi, hsi, hbi⟩ := info_parts int_info'
    clear hacc
    cases gb
    · cases rb
      · gi_wp2_with (first | (refine wpListIn_plain rfl fun K2 hK2 => ?_; refine wpIn_storeW 23 (.tmp 10) (.tmp 22) rfl 3 ent_size W2.heap.size 23 rfl [.int .i64 0, .int .i64 0, .string ⟨#[]⟩] (cellsE y) rfl (RowL.new W2 23 [.int .i64 0, .int .i64 0, .string ⟨#[]⟩]) rfl rfl ents3 ?_; intro W3 hr3 hg3 hz3; refine hK2 _ _ ?_; clear hK2 K2; have hb3 := below_stored hg3; have hs3 := hb3.size; clear hg3 hz3; obtain ⟨A1, n1, c1, A2, n2, c2, hb1, ho1, hb2, ho2, hn1, hn2, hc1, hc2⟩ := acc_split (hacc2.on hb3); clear hacc2) | (refine wpListIn_appI W3 W4.heap.size rfl (.tmp 32) (.tmp 34) rfl A2 n2 c2 (accB l k pre) (k * 4 + (x.1 : Int)) rfl ho2 rfl (by omega) (by omega) ?_; intro A5 c5 W5 ho5 hg5; refine wpListIn_plain rfl fun K2 hK2 => ?_; refine wpIn_storeV 36 (.tmp 7) (.tmp 35) rfl is_size (w.heap.size + 1) 36 rfl (.slice A5 (n2 + 1) c5) rfl rfl rfl _ ((hb2.on (below_new (below_self W3) _)).grown hg5 (fun e => by have := own_block ho2 _ e.symm; omega)) ?_; intro W6 hr6 hg6; refine hK2 _ _ ?_; clear hK2 K2; obtain ⟨q1, q2, q3, q4, q5, q6, q7⟩ := app_keeps (m1 := w.heap.size + 1 + 1) (m2 := w.heap.size + 1 + 1 + 1) ho2 hg5 hg6 hb2 (by omega) (by omega) (by omega) (by omega) (by omega) (by omega); clear hc1 hc2))
        have hk3 := below_step hbel hb3
        have e1 : accE l k (pre ++ [x]) = accE l k pre := HGE.out
        have e2 : accB l k (pre ++ [x]) = accB l k pre ++ [k * 4 + (x.1 : Int)] := by have := HGB.out; simpa using this
        exact ⟨(keeps_below hk3).trans q1, kpB_t (kpB_below (n := W.heap.size) (by omega) (by omega) hk3) q2, ⟨⟨⟨A1, n1, c1, q5 _ _ _ hb1 (by omega) (by omega), by rw [e1]; exact q6 _ _ _ _ _ ho1 (owns_apart ho2 ho1 (by decide))⟩, ⟨A5, n2 + 1, c5, hr6, by rw [e2]; exact q7 _ _ _ _ _ ho5⟩⟩, by omega⟩, q4 _ _ (by omega) (below_step hB2 hb3)⟩
      · gi_wp2_with (refine wpListIn_plain rfl fun K2 hK2 => ?_; refine wpIn_storeW 23 (.tmp 10) (.tmp 22) rfl 3 ent_size W2.heap.size 23 rfl [.int .i64 0, .int .i64 0, .string ⟨#[]⟩] (cellsE y) rfl (RowL.new W2 23 [.int .i64 0, .int .i64 0, .string ⟨#[]⟩]) rfl rfl ents3 ?_; intro W3 hr3 hg3 hz3; refine hK2 _ _ ?_; clear hK2 K2; have hb3 := below_stored hg3; have hs3 := hb3.size; clear hg3 hz3; obtain ⟨A1, n1, c1, A2, n2, c2, hb1, ho1, hb2, ho2, hn1, hn2, hc1, hc2⟩ := acc_split (hacc2.on hb3); clear hacc2)
        have hk3 := below_step hbel hb3
        have e1 : accE l k (pre ++ [x]) = accE l k pre := HGE.out
        have e2 : accB l k (pre ++ [x]) = accB l k pre := by have := HGB.out; simpa using this
        exact ⟨keeps_below hk3, kpB_below (n := W.heap.size) (by omega) (by omega) hk3, ⟨⟨⟨A1, n1, c1, hb1, by rw [e1]; exact ho1⟩, ⟨A2, n2, c2, hb2, by rw [e2]; exact ho2⟩⟩, by omega⟩, below_step hB2 hb3⟩
    · have hm1 : (accE l k pre).length + 1 ≤ maxLen := by simp only [maxLen]; omega
      cases rb
      · exact absurd (HGR.out rfl) (by simp)
      · gi_wp2_with (first | (refine wpListIn_plain rfl fun K2 hK2 => ?_; refine wpIn_storeW 23 (.tmp 10) (.tmp 22) rfl 3 ent_size W2.heap.size 23 rfl [.int .i64 0, .int .i64 0, .string ⟨#[]⟩] (cellsE y) rfl (RowL.new W2 23 [.int .i64 0, .int .i64 0, .string ⟨#[]⟩]) rfl rfl ents3 ?_; intro W3 hr3 hg3 hz3; refine hK2 _ _ ?_; clear hK2 K2; have hb3 := below_stored hg3; have hs3 := hb3.size; clear hg3 hz3; obtain ⟨A1, n1, c1, A2, n2, c2, hb1, ho1, hb2, ho2, hn1, hn2, hc1, hc2⟩ := acc_split (hacc2.on hb3); clear hacc2) | (refine wpListIn_plain rfl fun K2 hK2 => ?_; refine wpIn_loadW 23 (.tmp 10) rfl 3 ent_agg ent_size W2.heap.size 23 rfl (cellsE y) hr3 rfl ?_; refine hK2 _ _ ?_; clear hK2 K2; refine wpListIn_plain rfl fun K2 hK2 => ?_; refine wpIn_lit1 34 (.tmp 27) rfl (.agg (cellsE y).toArray) (.slice (some ⟨W3.heap.size, 0, none⟩) 1 1) rfl (lit_ent y W3) ?_; refine hK2 _ _ ?_; clear hK2 K2; refine wpListIn_appE W3 W4.heap.size rfl (.tmp 26) (.tmp 28) rfl A1 n1 c1 (accE l k pre) y rfl ho1 rfl (by omega) (by omega) ?_; intro A5 c5 W5 ho5 hg5; refine wpListIn_plain rfl fun K2 hK2 => ?_; refine wpIn_storeV 34 (.tmp 6) (.tmp 29) rfl es_size w.heap.size 34 rfl (.slice A5 (n1 + 1) c5) rfl rfl rfl _ ((hb1.on (below_new (below_self W3) _)).grown hg5 (fun e => by have := own_block ho1 _ e.symm; omega)) ?_; intro W6 hr6 hg6; refine hK2 _ _ ?_; clear hK2 K2; obtain ⟨q1, q2, q3, q4, q5, q6, q7⟩ := app_keeps (m1 := w.heap.size + 1 + 1) (m2 := w.heap.size + 1 + 1 + 1) ho1 hg5 hg6 hb1 (by omega) (by omega) (by omega) (by omega) (by omega) (by omega); clear hc1 hc2))
        have hk3 := below_step hbel hb3
        have e1 : accE l k (pre ++ [x]) = accE l k pre ++ [y] := by have := HGE.out; simpa using this
        have e2 : accB l k (pre ++ [x]) = accB l k pre := by have := HGB.out; simpa using this
        exact ⟨(keeps_below hk3).trans q1, kpB_t (kpB_below (n := W.heap.size) (by omega) (by omega) hk3) q2, ⟨⟨⟨A5, n1 + 1, c5, hr6, by rw [e1]; exact q7 _ _ _ _ _ ho5⟩, ⟨A2, n2, c2, q5 _ _ _ hb2 (by omega) (by omega), by rw [e2]; exact q6 _ _ _ _ _ ho2 (owns_apart ho1 ho2 (by decide))⟩⟩, by omega⟩, q4 _ _ (by omega) (below_step hB2 hb3)⟩
  case done =>
    rintro D ys W hD rfl ⟨⟨⟨⟨A1, n1, c1, hb1, ho1⟩, ⟨A2, n2, c2, hb2, ho2⟩⟩, hsz⟩, hB⟩ hK
    have hc1 : W.cell? ⟨w.heap.size, 0, none⟩ = some (.slice A1 n1 c1) := hb1.cell 0
    have hc2 : W.cell? ⟨w.heap.size + 1, 0, none⟩ = some (.slice A2 n2 c2) := hb2.cell 0
    have hro : Fence.wide.round = none := rfl
    have hmx : Try.prog.follows .mixedOrders = true := by kernel_rfl
    gi_wp2
    refine wpIn_region_any (by assumption) ?_
    (try (change wpAnyIn _ _ _ _ _ _ _ _ _ (World.drew _)))
    refine wpAnyIn_ready (rs := [0, 1]) (by kernel_rfl) (by simp) ?_
    refine AllReadyIn.cons rfl (fun K hK => ?_) ?_
    · skip
      go_simp
      refine hK _ _ ?_
      clear hK K
      refine wpAnyIn_ready (rs := [1, 2]) (by kernel_rfl) (by simp) ?_
      refine AllReadyIn.cons rfl (fun K hK => ?_) ?_
      · skip
        go_simp
        refine hK _ _ ?_
        clear hK K
        refine wpAnyIn_ready (rs := [2]) (by kernel_rfl) (by simp) ?_
        refine AllReadyIn.cons rfl (fun K hK => ?_) ?_
        · skip
          go_simp
          refine hK _ _ ?_
          clear hK K
          refine wpAnyIn_ready (rs := [3]) (by kernel_rfl) (by simp) ?_
          refine AllReadyIn.cons rfl (fun K hK => ?_) ?_
          · skip
            go_simp
            refine hK _ _ ?_
            clear hK K
            refine wpAnyIn_done (by kernel_rfl) ?_ _
            gi_wp2
            refine ⟨by simp, .inl ⟨_, _, rfl, run_takeDeferred (show W.drew.heap[D]? = some (.deferred (some [])) from hK), ?_⟩⟩
            have hpb := belowK_b (w := W4) (Nat.le_refl _) W.drew D _ (.deferred none) hD hK rfl rfl
            have hg5 := grownBy_putObj' W.drew D (.deferred none)
            have o1 := owns_rebase (own_owns ho1.drew hg5 (fun r e => by cases e; exact ⟨_, hK, rfl⟩)) (b := w.heap.size) (by omega)
            have o2 := owns_rebase (own_owns ho2.drew hg5 (fun r e => by cases e; exact ⟨_, hK, rfl⟩)) (b := w.heap.size) (by omega)
            exact ⟨.tuple #[.slice A1 n1 c1, .slice A2 n2 c2], by simp [results, Try.results18, go_sem], _, _, _, _, _, _, rfl, o1, o2, (below_drewN hB 1).trans (hpb.mono (by omega))⟩
          exact AllReadyIn.nil
        exact AllReadyIn.nil
      refine AllReadyIn.cons rfl (fun K hK => ?_) ?_
      · skip
        go_simp
        refine hK _ _ ?_
        clear hK K
        refine wpAnyIn_ready (rs := [1]) (by kernel_rfl) (by simp) ?_
        refine AllReadyIn.cons rfl (fun K hK => ?_) ?_
        · skip
          go_simp
          refine hK _ _ ?_
          clear hK K
          refine wpAnyIn_ready (rs := [3]) (by kernel_rfl) (by simp) ?_
          refine AllReadyIn.cons rfl (fun K hK => ?_) ?_
          · skip
            go_simp
            refine hK _ _ ?_
            clear hK K
            refine wpAnyIn_done (by kernel_rfl) ?_ _
            gi_wp2
            refine ⟨by simp, .inl ⟨_, _, rfl, run_takeDeferred (show W.drew.heap[D]? = some (.deferred (some [])) from hK), ?_⟩⟩
            have hpb := belowK_b (w := W4) (Nat.le_refl _) W.drew D _ (.deferred none) hD hK rfl rfl
            have hg5 := grownBy_putObj' W.drew D (.deferred none)
            have o1 := owns_rebase (own_owns ho1.drew hg5 (fun r e => by cases e; exact ⟨_, hK, rfl⟩)) (b := w.heap.size) (by omega)
            have o2 := owns_rebase (own_owns ho2.drew hg5 (fun r e => by cases e; exact ⟨_, hK, rfl⟩)) (b := w.heap.size) (by omega)
            exact ⟨.tuple #[.slice A1 n1 c1, .slice A2 n2 c2], by simp [results, Try.results18, go_sem], _, _, _, _, _, _, rfl, o1, o2, (below_drewN hB 1).trans (hpb.mono (by omega))⟩
          exact AllReadyIn.nil
        exact AllReadyIn.nil
      exact AllReadyIn.nil
    refine AllReadyIn.cons rfl (fun K hK => ?_) ?_
    · skip
      go_simp
      refine hK _ _ ?_
      clear hK K
      refine wpAnyIn_ready (rs := [0]) (by kernel_rfl) (by simp) ?_
      refine AllReadyIn.cons rfl (fun K hK => ?_) ?_
      · skip
        go_simp
        refine hK _ _ ?_
        clear hK K
        refine wpAnyIn_ready (rs := [2]) (by kernel_rfl) (by simp) ?_
        refine AllReadyIn.cons rfl (fun K hK => ?_) ?_
        · skip
          go_simp
          refine hK _ _ ?_
          clear hK K
          refine wpAnyIn_ready (rs := [3]) (by kernel_rfl) (by simp) ?_
          refine AllReadyIn.cons rfl (fun K hK => ?_) ?_
          · skip
            go_simp
            refine hK _ _ ?_
            clear hK K
            refine wpAnyIn_done (by kernel_rfl) ?_ _
            gi_wp2
            refine ⟨by simp, .inl ⟨_, _, rfl, run_takeDeferred (show W.drew.heap[D]? = some (.deferred (some [])) from hK), ?_⟩⟩
            have hpb := belowK_b (w := W4) (Nat.le_refl _) W.drew D _ (.deferred none) hD hK rfl rfl
            have hg5 := grownBy_putObj' W.drew D (.deferred none)
            have o1 := owns_rebase (own_owns ho1.drew hg5 (fun r e => by cases e; exact ⟨_, hK, rfl⟩)) (b := w.heap.size) (by omega)
            have o2 := owns_rebase (own_owns ho2.drew hg5 (fun r e => by cases e; exact ⟨_, hK, rfl⟩)) (b := w.heap.size) (by omega)
            exact ⟨.tuple #[.slice A1 n1 c1, .slice A2 n2 c2], by simp [results, Try.results18, go_sem], _, _, _, _, _, _, rfl, o1, o2, (below_drewN hB 1).trans (hpb.mono (by omega))⟩
          exact AllReadyIn.nil
        exact AllReadyIn.nil
      exact AllReadyIn.nil
    exact AllReadyIn.nil
  case stop =>
    rintro D c pre W _ _ h _
    exact h.elim
end Go.Proofs.Ythjjjeolpdekoaa

/- The law's awake (layer 8). -/
namespace Go.Proofs.Ythjjjeolpdekoaa
open Go.RowKit Plain

theorem flatE_get {l : List EntV} {i j : Nat} {x : EntV} (h : l[i]? = some x) (hj : j < 3) : (flatE l)[i * 3 + j]? = (cellsE x)[j]? := by
  induction l generalizing i with
  | nil => simp at h
  | cons y r ih =>
    have e : flatE (y :: r) = cellsE y ++ flatE r := rfl
    rw [e]
    have hy : (cellsE y).length = 3 := rfl
    cases i with
    | zero =>
      simp only [List.getElem?_cons_zero, Option.some.injEq] at h
      subst h
      rw [List.getElem?_append_left (by rw [hy]; omega), Nat.zero_mul, Nat.zero_add]
    | succ i =>
      rw [List.getElem?_append_right (by rw [hy]; omega), hy, show (i + 1) * 3 + j - 3 = i * 3 + j by omega]
      exact ih (by simpa using h)
theorem ent_R (w : World) (D : Nat → Prop) (x : EntV) : entEn.R w D (cellsE x) x := ⟨[_], [_, _], rfl, rfl, [_], [_], rfl, rfl, rfl⟩
theorem rde_row {w : World} {g t : Nat} {cs : List Value} {l : List EntV} {D : Nat → Prop} (h : RowL w g t cs) (hD : D g) (hc : cs.take (l.length * 3) = flatE l) : RdE entEn w D (some ⟨g, 0, none⟩) l.length l := by
  refine ⟨rfl, fun _ => ⟨g, 0, rfl, hD, fun i x hx => ⟨cellsE x, ent_R _ _ _, fun j v hv => ?_⟩⟩⟩
  have hj : j < 3 := (List.getElem?_eq_some_iff.1 hv).1
  have hi := (List.getElem?_eq_some_iff.1 hx).1
  rw [Nat.zero_add, show i * entEn.k + j = i * 3 + j from rfl, h.cell, ← hv, ← flatE_get hx hj, ← hc, List.getElem?_take_of_lt (by omega)]
theorem rde_owns {W : World} {base n c : Nat} {A : Option Addr} {l : List EntV} (h : W.ownsRow base 23 3 (.slice A n c) n (flatE l)) : RdE entEn W (Under W.heap.size) A n l := by
  have hl := h.1
  rw [flatE_len] at hl
  have hn : l.length = n := by omega
  rcases h.2 with ⟨_, h0⟩ | ⟨g, cap, cur, he, _, hg, hnc, _, hcs, ht⟩
  · subst h0
    obtain rfl : l = [] := List.eq_nil_of_length_eq_zero hn
    exact RdE.none_ _ _ _ _
  · cases he
    subst hn
    have hr : RowL W g 23 cur.toList := by simpa [RowL] using hg
    exact rde_row hr hr.lt ht
theorem owns_cap {W : World} {base e s n c : Nat} {A : Option Addr} {xs : List Value} (h : W.ownsRow base e s (.slice A n c) n xs) : n ≤ c := by
  rcases h.2 with ⟨_, h0⟩ | ⟨g, cap, cur, he, _, _, hnc, _⟩
  · omega
  · cases he; exact hnc
theorem rde_lit (x : EntV) (W : World) : RdE entEn (W.alloc (.cells (cellsE x).toArray 23)) (Under (W.alloc (.cells (cellsE x).toArray 23)).heap.size) (some ⟨W.heap.size, 0, none⟩) 1 [x] :=
  rde_row (l := [x]) (RowL.new W 23 (cellsE x)) (RowL.new W 23 (cellsE x)).lt (by simp [flatE, cellsE])
theorem wp_litE {P : Program} {w w' : World} {o : Oper} {a : Act} {K : Act → World → Prop} {Q : Exit → Act → World → Prop} (t : Nat) (x : Operand) (vx v : Value) (ho : o.op = .buildSlice t 1 #[(0, x)]) (hx : a.eval x = vx) (hr : (Instr.buildSlice t 1 #[(0, vx)]).run P w = .ok v w') (hK : K (a.put o.dst v) w') : o.wp P a w K Q := by
  unfold Oper.wp execOp
  simp only [ho, List.map_toArray, List.map_cons, List.map_nil, hx, Sem.run_bind, Sem.run_pure, Result.andThen_ok, hr]
  exact hK
theorem wpList_litE {P : Program} {w w' : World} {ops : Array Oper} {rest : List Oper} {o : Oper} {a : Act} {Q : Exit → Act → World → Prop} (hgd : o.guard = none) (t : Nat) (x : Operand) (vx v : Value) (ho : o.op = .buildSlice t 1 #[(0, x)]) (hx : a.eval x = vx) (hr : (Instr.buildSlice t 1 #[(0, vx)]).run P w = .ok v w') (hK : wpList P ops Q rest (a.put o.dst v) w') : wpList P ops Q (o :: rest) a w := by
  refine wpList_plain hgd fun K hK' => ?_
  exact wp_litE t x vx v ho hx hr (hK' _ _ hK)
theorem EqualE_c {A B : Option Addr} {n m c d : Nat} {l k : List EntV} {b : Bool} (w : World) (ha : RdE entEn w (Under w.heap.size) A n l) (hb : RdE entEn w (Under w.heap.size) B m k) (hn : n ≤ 140737488355328) (h : (l == k) = b) :
    Calls Try.prog 24 #[.slice A n c, .slice B m d] w (BoolB w b) := by
  subst h; exact EqualE_any w ha hb hn
theorem Parse_c {b o c : Nat} {l : List UInt8} {k : Int} {L1 : List EntV} {L2 : List Int} (w : World) (h : Bs w w.heap.size (some ⟨b, o, none⟩) 64 l) (hc64 : 64 ≤ c) (hk0 : 0 ≤ k) (hk4 : k < 4) (h1 : accE l k (List.finRange 4) = L1) (h2 : accB l k (List.finRange 4) = L2) : Calls Try.prog 18 #[.slice (some ⟨b, o, none⟩) 64 c, .int .i64 k] w (PRet w L1 L2) := by
  subst h1 h2; exact Parse_any w h hc64 hk0 hk4
theorem EGet_c {A : Option Addr} {m c : Nat} {l : List UInt8} {slot : Int} {x : EntV} {p q : Bool} (h1 : entE l slot = x) (h2 : gotE l slot = p) (h3 : readE l slot = q) (w : World) (ha : Bs w w.heap.size A m l) (hmc : m ≤ c) : Calls Try.prog 12 #[.slice A m c, .int .i64 slot] w (ERet w x p q) := by
  subst h1 h2 h3; exact EGet_any w ha hmc
def e8 : EntV := ⟨5, 3, [97, 98]⟩
def b8 : List UInt8 := blkS [e8] 1 (List.finRange 4)
theorem aw8_1 : accE b8 1 (List.finRange 4) = [e8] := by decide +kernel
theorem aw8_2 : accB b8 1 (List.finRange 4) = [] := by decide +kernel
theorem aw8_3 : entE (zeros 16) 2 = ent0 := by decide +kernel
theorem aw8_4 : gotE (zeros 16) 2 = false := by decide +kernel
theorem aw8_5 : readE (zeros 16) 2 = true := by decide +kernel
theorem aw8_eq : (splice b8 (16 * (1 : Fin 4).1) (zeros 16) == zeros 64) = true := by decide +kernel
theorem aw8_short : Short [e8] := by intro x hx; rw [List.mem_singleton] at hx; subst hx; decide
set_option maxRecDepth 100000 in
set_option maxHeartbeats 1600000 in
theorem awake8_any (w : World) : Calls Try.prog 9 #[] w (LawOk w) := by
  obtain ⟨hr1, hb1, hs1⟩ := rows1 w [.int .i64 5, .int .i64 3, .string ⟨#[97, 98]⟩] 23
  have HE1 := hide hr1
  have HW1 := hide hb1
  obtain ⟨Z, hZ, hzl⟩ := make64
  have HZL := hide hzl
  clear hr1 hb1 hs1 hzl
  go_enter Try.func9, Try.ntmps9
  go_wp2_with (refine wpList_litE rfl 34 (.tmp 9) (.agg (cellsE e8).toArray) (.slice (some ⟨(w.alloc (.cells #[.int .i64 5, .int .i64 3, .string ⟨#[97, 98]⟩] 23)).heap.size, 0, none⟩) 1 1) rfl rfl (lit_ent e8 (w.alloc (.cells #[.int .i64 5, .int .i64 3, .string ⟨#[97, 98]⟩] 23))) ?_)
  have hz : (w.alloc (.cells #[.int .i64 5, .int .i64 3, .string ⟨#[97, 98]⟩] 23)).heap.size = w.heap.size + 1 := by simp
  have hrl := rde_lit e8 (w.alloc (.cells #[.int .i64 5, .int .i64 3, .string ⟨#[97, 98]⟩] 23))
  have hb2 := below_new (below_self (w.alloc (.cells #[.int .i64 5, .int .i64 3, .string ⟨#[97, 98]⟩] 23))) (.cells (cellsE e8).toArray 23)
  have HE2 := hide (HE1.out.on hb2)
  have HW2 := hide (below_step HW1.out hb2)
  rw [hz] at hrl
  have HRL := hide hrl
  clear hz hrl hb2 HE1 HW1
  generalize (w.alloc (.cells #[.int .i64 5, .int .i64 3, .string ⟨#[97, 98]⟩] 23)) = w1 at *
  refine (Block_any (k := 1) (w1.alloc (.cells (cellsE e8).toArray 23)) HRL.out aw8_short (by omega) (by omega) (by omega)).mono ?_
  rintro e w3 ⟨A3, c3, rfl, hown, hbel⟩
  have hcap := hown.cap
  obtain ⟨g3, cs3, rfl, -, -, -⟩ := hown.row (by omega)
  have HB3 : Hid (Own w3 (w1.alloc (.cells (cellsE e8).toArray 23)).heap.size 5 (some ⟨g3, 0, none⟩) 64 c3 b8) := hide hown
  have HE3 := hide (HE2.out.on hbel)
  have HW3 := hide (below_step HW2.out hbel)
  clear hown hbel HE2 HW2 HRL
  go_wp2_with fail
  refine (Parse_c _ HB3.out.bs hcap (by omega) (by omega) aw8_1 aw8_2).mono ?_
  rintro e w4 ⟨A4, n4, c4, A5, n5, c5, rfl, ho4, ho5, hbel⟩
  obtain rfl : n4 = 1 := by have := ho4.1; have e : (flatE [e8]).length = 3 := rfl; omega
  obtain rfl : n5 = 0 := by have := ho5.1; have e : (intsV []).length = 0 := rfl; omega
  have HL4 := hide (rde_owns ho4)
  have HB4 := hide (HB3.out.below hbel)
  have HE4 := hide (HE3.out.on hbel)
  have HW4 := hide (below_step HW3.out hbel)
  clear ho4 ho5 hbel HB3 HE3 HW3
  go_wp2_with (with_reducible refine wpList_make_Bs _ rfl _ _ 24 rfl 5 Try.underlying24 info_u8 _ _ _ _ 16 rfl rfl rfl rfl (by omega) ?_; intro w5 hr5 hb5; have HM5 := hide hr5; have HL5 := hide (HL4.out.on hb5); have HB5 := hide (HB4.out.below hb5); have HE5 := hide (HE4.out.on hb5); have HW5 := hide (below_step HW4.out hb5); clear hr5 hb5)
  refine (EGet_c aw8_3 aw8_4 aw8_5 _ (HM5.out.own_bvs (base := 0) rfl (zeros_length 16) (Nat.zero_le _) (by omega)).bs (by omega)).mono ?_
  rintro e w6 ⟨rfl, hbel⟩
  obtain ⟨hr7, hb7, hs7⟩ := rows1 w6 [.int .i64 0, .int .i64 0, .string ⟨#[]⟩] 23
  have hbb := hbel.trans (hb7.mono hbel.size)
  have HL7 := hide (HL5.out.on hbb)
  have HB7 := hide (HB5.out.below hbb)
  have HE7 := hide (HE5.out.on hbb)
  have HW7 := hide (below_step HW5.out hbb)
  clear hbel hr7 hb7 hs7 hbb HL5 HB5 HE5 HW5 HM5
  unfold ent0
  go_wp2_with fail
  generalize (w6.alloc (.cells #[.int .i64 0, .int .i64 0, .string ⟨#[]⟩] 23)) = w7 at *
  refine wp_region_G (fun w' => Below w7.heap.size w7 w') (.take 0 (.take 1 (.take 2 (.take 3 (.take 4 (.take 5 (.alt 6 (.alt 7 (.take 8 (.take 9 (.take 10 (.take 11 (.take 12 (.take 13 (.take 14 (.take 15 (.take 16 (.take 17 (.take 18 (.take 19 (.take 20 (.take 21 (.take 22 (.alt 23 (.alt 24 (.alt 25 (.take 26 (.take 27 .leaf)) .stop) .stop) (.alt 24 (.alt 23 (.alt 25 (.take 26 (.take 27 .leaf)) .stop) .stop) .stop))))))))))))))))) .stop) .stop))))))) (by kernel_rfl) (by kernel_rfl) (by kernel_rfl) (by kernel_rfl) rfl (fun _ _ _ _ _ h => h) (below_drew (below_self w7)) (fun hHeld => ?_)
  simp only [PT.map, List.getElem?_toArray, List.getElem?_cons_succ, List.getElem?_cons_zero]
  refine wpPT_take (v := ?_) (by kernel_rfl) (fun wS hSw => ?_) ?_
  rotate_left
  · (try dsimp only at hSw); go_simp; (try with_reducible rfl)
  (try simp only [Act.put, List.setIfInBounds_toArray, List.set_cons_zero, List.set_cons_succ])
  refine wpPT_take (v := ?_) (by kernel_rfl) (fun wS hSw => ?_) ?_
  rotate_left
  · (try dsimp only at hSw); go_simp; (try with_reducible rfl)
  (try simp only [Act.put, List.setIfInBounds_toArray, List.set_cons_zero, List.set_cons_succ])
  refine wpPT_take (v := ?_) (by kernel_rfl) (fun wS hSw => ?_) ?_
  rotate_left
  · (try dsimp only at hSw); go_simp; (try with_reducible rfl)
  (try simp only [Act.put, List.setIfInBounds_toArray, List.set_cons_zero, List.set_cons_succ])
  refine wpPT_take (v := ?_) (by kernel_rfl) (fun wS hSw => ?_) ?_
  rotate_left
  · (try dsimp only at hSw); go_simp; (try with_reducible rfl)
  (try simp only [Act.put, List.setIfInBounds_toArray, List.set_cons_zero, List.set_cons_succ])
  refine wpPT_take (v := ?_) (by kernel_rfl) (fun wS hSw => ?_) ?_
  rotate_left
  · (try dsimp only at hSw); go_simp; (try with_reducible rfl)
  (try simp only [Act.put, List.setIfInBounds_toArray, List.set_cons_zero, List.set_cons_succ])
  refine wpPT_take (v := ?_) (by kernel_rfl) (fun wS hSw => ?_) ?_
  rotate_left
  · refine execOp_load (x := .tmp 1) (k := 3) (g := w.heap.size) (off := 0) (cs := [.int .i64 5, .int .i64 3, .string ⟨#[97, 98]⟩]) ?_ ent_agg ent_size ?_ (RowL.at0 (HE7.out.on hSw)) rfl <;> rfl
  (try simp only [Act.put, List.setIfInBounds_toArray, List.set_cons_zero, List.set_cons_succ])
  refine wpPT_alt (by kernel_rfl) (fun K hK => ?_) ?_
  rotate_left
  · exact wpPT_stop
  have hOld := hide hHeld
  clear hHeld
  refine wp_litE 34 (.tmp 28) (.agg (cellsE e8).toArray) (.slice (some ⟨w7.drew.heap.size, 0, none⟩) 1 1) ?_ ?_ (lit_ent e8 w7.drew) ?_
  · rfl
  · rfl
  have hb' := below_new (below_self w7.drew) (.cells (cellsE e8).toArray 23)
  have HLIT := hide (rde_lit e8 w7.drew)
  have HL8 := hide (HL7.out.on (hOld.out.trans (hb'.mono hOld.out.size)))
  refine hK.out _ _ (hOld.out.trans (hb'.mono hOld.out.size)) (fun hHeld => ?_)
  clear hK K
  generalize w7.drew.alloc (.cells (cellsE e8).toArray 23) = w8 at *
  (try simp only [Act.put, List.setIfInBounds_toArray, List.set_cons_zero, List.set_cons_succ])
  refine wpPT_alt (by kernel_rfl) (fun K hK => ?_) ?_
  rotate_left
  · exact wpPT_stop
  have hOld := hide hHeld
  clear hHeld
  go_simp
  go_at_call 24
  refine (EqualE_c (b := true) _ HL8.out HLIT.out (by omega) (by decide +kernel)).mono ?_
  rintro e w' ⟨rfl, hbel⟩
  have hb' := hbel
  refine hK.out _ _ (hOld.out.trans (hb'.mono hOld.out.size)) (fun hHeld => ?_)
  clear hK K
  (try simp only [Act.put, List.setIfInBounds_toArray, List.set_cons_zero, List.set_cons_succ])
  refine wpPT_take (v := ?_) (by kernel_rfl) (fun wS hSw => ?_) ?_
  rotate_left
  · (try dsimp only at hSw); go_simp; (try with_reducible rfl)
  (try simp only [Act.put, List.setIfInBounds_toArray, List.set_cons_zero, List.set_cons_succ])
  refine wpPT_take (v := ?_) (by kernel_rfl) (fun wS hSw => ?_) ?_
  rotate_left
  · (try dsimp only at hSw); go_simp; (try with_reducible rfl)
  (try simp only [Act.put, List.setIfInBounds_toArray, List.set_cons_zero, List.set_cons_succ])
  refine wpPT_take (v := ?_) (by kernel_rfl) (fun wS hSw => ?_) ?_
  rotate_left
  · (try dsimp only at hSw); go_simp; (try with_reducible rfl)
  (try simp only [Act.put, List.setIfInBounds_toArray, List.set_cons_zero, List.set_cons_succ])
  refine wpPT_take (v := ?_) (by kernel_rfl) (fun wS hSw => ?_) ?_
  rotate_left
  · (try dsimp only at hSw); go_simp; (try with_reducible rfl)
  (try simp only [Act.put, List.setIfInBounds_toArray, List.set_cons_zero, List.set_cons_succ])
  refine wpPT_take (v := ?_) (by kernel_rfl) (fun wS hSw => ?_) ?_
  rotate_left
  · (try dsimp only at hSw); go_simp; (try with_reducible rfl)
  (try simp only [Act.put, List.setIfInBounds_toArray, List.set_cons_zero, List.set_cons_succ])
  refine wpPT_take (v := ?_) (by kernel_rfl) (fun wS hSw => ?_) ?_
  rotate_left
  · (try dsimp only at hSw); go_simp; (try with_reducible rfl)
  (try simp only [Act.put, List.setIfInBounds_toArray, List.set_cons_zero, List.set_cons_succ])
  refine wpPT_take (v := ?_) (by kernel_rfl) (fun wS hSw => ?_) ?_
  rotate_left
  · (try dsimp only at hSw); go_simp; (try with_reducible rfl)
  (try simp only [Act.put, List.setIfInBounds_toArray, List.set_cons_zero, List.set_cons_succ])
  refine wpPT_take (v := ?_) (by kernel_rfl) (fun wS hSw => ?_) ?_
  rotate_left
  · (try dsimp only at hSw); go_simp; (try with_reducible rfl)
  (try simp only [Act.put, List.setIfInBounds_toArray, List.set_cons_zero, List.set_cons_succ])
  refine wpPT_take (v := ?_) (by kernel_rfl) (fun wS hSw => ?_) ?_
  rotate_left
  · (try dsimp only at hSw); go_simp; (try with_reducible rfl)
  (try simp only [Act.put, List.setIfInBounds_toArray, List.set_cons_zero, List.set_cons_succ])
  refine wpPT_take (v := ?_) (by kernel_rfl) (fun wS hSw => ?_) ?_
  rotate_left
  · (try dsimp only at hSw); go_simp; (try with_reducible rfl)
  (try simp only [Act.put, List.setIfInBounds_toArray, List.set_cons_zero, List.set_cons_succ])
  refine wpPT_take (v := ?_) (by kernel_rfl) (fun wS hSw => ?_) ?_
  rotate_left
  · (try dsimp only at hSw); go_simp; (try with_reducible rfl)
  (try simp only [Act.put, List.setIfInBounds_toArray, List.set_cons_zero, List.set_cons_succ])
  refine wpPT_take (v := ?_) (by kernel_rfl) (fun wS hSw => ?_) ?_
  rotate_left
  · (try dsimp only at hSw); go_simp; (try with_reducible rfl)
  (try simp only [Act.put, List.setIfInBounds_toArray, List.set_cons_zero, List.set_cons_succ])
  refine wpPT_take (v := ?_) (by kernel_rfl) (fun wS hSw => ?_) ?_
  rotate_left
  · (try dsimp only at hSw); go_simp; (try with_reducible rfl)
  (try simp only [Act.put, List.setIfInBounds_toArray, List.set_cons_zero, List.set_cons_succ])
  refine wpPT_take (v := ?_) (by kernel_rfl) (fun wS hSw => ?_) ?_
  rotate_left
  · (try dsimp only at hSw); go_simp; (try with_reducible rfl)
  (try simp only [Act.put, List.setIfInBounds_toArray, List.set_cons_zero, List.set_cons_succ])
  refine wpPT_take (v := ?_) (by kernel_rfl) (fun wS hSw => ?_) ?_
  rotate_left
  · (try dsimp only at hSw); go_simp; (try with_reducible rfl)
  (try simp only [Act.put, List.setIfInBounds_toArray, List.set_cons_zero, List.set_cons_succ])
  refine wpPT_alt (by kernel_rfl) (fun K hK => ?_) ?_
  · skip
    have hOld := hide hHeld
    clear hHeld
    go_simp
    go_at_call 20
    refine (Clear_any (k := 1) (r := 1) _ (HB7.out.below hOld.out).bs (by omega) (by omega) rfl).mono ?_
    rintro e w' ⟨A9, c9, rfl, hown, hbel⟩
    have hb' := hbel
    have HC9 := hide hown
    refine hK.out _ _ (hOld.out.trans (hb'.mono hOld.out.size)) (fun hHeld => ?_)
    clear hK K
    (try simp only [Act.put, List.setIfInBounds_toArray, List.set_cons_zero, List.set_cons_succ])
    refine wpPT_alt (by kernel_rfl) (fun K hK => ?_) ?_
    rotate_left
    · exact wpPT_stop
    have hOld := hide hHeld
    clear hHeld
    unfold Oper.wp execOp
    go_simp
    have hb' := below_new (below_self w') (.cells Z 5)
    have HZ9 := hide (Bs.lit w' 5 (cs := Z.toList) HZL.out (zeros_length 64))
    have HC9b := hide (HC9.out.below hb')
    clear HC9
    have HC9 := HC9b
    refine hK.out _ _ (hOld.out.trans (hb'.mono hOld.out.size)) (fun hHeld => ?_)
    clear hK K
    (try simp only [Act.put, List.setIfInBounds_toArray, List.set_cons_zero, List.set_cons_succ])
    refine wpPT_alt (by kernel_rfl) (fun K hK => ?_) ?_
    rotate_left
    · exact wpPT_stop
    have hOld := hide hHeld
    clear hHeld
    go_simp
    go_at_call 16
    refine (BEqual_b (b := true) _ HC9.out.bs HZ9.out aw8_eq).mono ?_
    rintro e w' ⟨rfl, rfl⟩
    refine hK.out _ _ (hOld.out) (fun hHeld => ?_)
    clear hK K
    (try simp only [Act.put, List.setIfInBounds_toArray, List.set_cons_zero, List.set_cons_succ])
    refine wpPT_take (v := ?_) (by kernel_rfl) (fun wS hSw => ?_) ?_
    rotate_left
    · (try dsimp only at hSw); go_simp; (try with_reducible rfl)
    (try simp only [Act.put, List.setIfInBounds_toArray, List.set_cons_zero, List.set_cons_succ])
    refine wpPT_take (v := ?_) (by kernel_rfl) (fun wS hSw => ?_) ?_
    rotate_left
    · (try dsimp only at hSw); go_simp; (try with_reducible rfl)
    simp only [Act.put, List.setIfInBounds_toArray, List.set_cons_zero]
    refine wpPT_leaf ?_
    have HBF := hide (HW7.out.trans (hHeld.mono HW7.out.size))
    clear hHeld
    go_wp2_with fail
    go_ret
    exact LawOk.of HBF.out
  refine wpPT_alt (by kernel_rfl) (fun K hK => ?_) ?_
  · skip
    have hOld := hide hHeld
    clear hHeld
    unfold Oper.wp execOp
    go_simp
    have hb' := below_new (below_self w') (.cells Z 5)
    have HZ9 := hide (Bs.lit w' 5 (cs := Z.toList) HZL.out (zeros_length 64))
    refine hK.out _ _ (hOld.out.trans (hb'.mono hOld.out.size)) (fun hHeld => ?_)
    clear hK K
    (try simp only [Act.put, List.setIfInBounds_toArray, List.set_cons_zero, List.set_cons_succ])
    refine wpPT_alt (by kernel_rfl) (fun K hK => ?_) ?_
    rotate_left
    · exact wpPT_stop
    have hOld := hide hHeld
    clear hHeld
    go_simp
    go_at_call 20
    refine (Clear_any (k := 1) (r := 1) _ (HB7.out.below hOld.out).bs (by omega) (by omega) rfl).mono ?_
    rintro e w' ⟨A9, c9, rfl, hown, hbel⟩
    have hb' := hbel
    have HC9 := hide hown
    have HZ9b := hide (HZ9.out.below (hb'.mono (by simp)))
    refine hK.out _ _ (hOld.out.trans (hb'.mono hOld.out.size)) (fun hHeld => ?_)
    clear hK K
    (try simp only [Act.put, List.setIfInBounds_toArray, List.set_cons_zero, List.set_cons_succ])
    refine wpPT_alt (by kernel_rfl) (fun K hK => ?_) ?_
    rotate_left
    · exact wpPT_stop
    have hOld := hide hHeld
    clear hHeld
    go_simp
    go_at_call 16
    refine (BEqual_b (b := true) _ HC9.out.bs HZ9b.out aw8_eq).mono ?_
    rintro e w' ⟨rfl, rfl⟩
    refine hK.out _ _ (hOld.out) (fun hHeld => ?_)
    clear hK K
    (try simp only [Act.put, List.setIfInBounds_toArray, List.set_cons_zero, List.set_cons_succ])
    refine wpPT_take (v := ?_) (by kernel_rfl) (fun wS hSw => ?_) ?_
    rotate_left
    · (try dsimp only at hSw); go_simp; (try with_reducible rfl)
    (try simp only [Act.put, List.setIfInBounds_toArray, List.set_cons_zero, List.set_cons_succ])
    refine wpPT_take (v := ?_) (by kernel_rfl) (fun wS hSw => ?_) ?_
    rotate_left
    · (try dsimp only at hSw); go_simp; (try with_reducible rfl)
    simp only [Act.put, List.setIfInBounds_toArray, List.set_cons_zero]
    refine wpPT_leaf ?_
    have HBF := hide (HW7.out.trans (hHeld.mono HW7.out.size))
    clear hHeld
    go_wp2_with fail
    go_ret
    exact LawOk.of HBF.out
  exact wpPT_stop
end Go.Proofs.Ythjjjeolpdekoaa

/- What the law EntryBack says of entries, without a program: a block parsed back (layer 8). -/
namespace Go.Proofs.Ythjjjeolpdekoaa
open Go.RowKit Plain

theorem snoc_ind {α : Type} {C : List α → Prop} (h0 : C []) (h1 : ∀ l x, C l → C (l ++ [x])) (l : List α) : C l := by
  rw [← List.reverse_reverse l]
  induction l.reverse with
  | nil => exact h0
  | cons x r ih => rw [List.reverse_cons]; exact h1 _ _ ih
/-- The first entry of the list that is right and has the slot. -/
def pickE (l : List EntV) (s : Int) : Option EntV := l.find? (fun x => x.slot == s && rightE x)
theorem firstS_pick (l : List EntV) (s : Int) : firstS s l = (pickE l s).elim [] putE := by
  unfold pickE
  induction l with
  | nil => rfl
  | cons x r ih =>
    cases h : (x.slot == s && rightE x) with
    | true => rw [List.find?_cons_of_pos (by simpa using h)]; show (if (x.slot == s && rightE x) = true then _ else _) = _; rw [if_pos h]; rfl
    | false => rw [List.find?_cons_of_neg (by simpa using h)]; show (if (x.slot == s && rightE x) = true then _ else _) = _; rw [if_neg (by rw [h]; simp), ih]
theorem pick_some {l : List EntV} {s : Int} {x : EntV} (h : pickE l s = some x) : x ∈ l ∧ x.slot = s ∧ rightE x = true := by
  have h1 := List.mem_of_find?_eq_some h
  have h2 := List.find?_some h
  simp only [Bool.and_eq_true, beq_iff_eq] at h2
  exact ⟨h1, h2.1, h2.2⟩
theorem slS_splice {bs p : List UInt8} {i j : Nat} (hb : bs.length = 64) (hi : i < 4) (hj : j < 4) (hp : p.length = 0 ∨ p.length = 16) : slS (splice bs (16 * i) p) j = if i = j ∧ p ≠ [] then p else slS bs j := by
  rcases hp with hp | hp
  · rw [List.length_eq_zero_iff.1 hp, splice_nil, if_neg (by simp)]
  have hne : p ≠ [] := by intro e; rw [e] at hp; cases hp
  apply List.ext_getElem?
  intro n
  unfold slS
  by_cases hn : n < 16
  · rw [List.getElem?_take_of_lt hn, List.getElem?_drop, splice_get _ _ _ _ (by omega)]
    by_cases e : i = j
    · subst e
      rw [if_neg (by omega), if_pos (by omega), if_pos ⟨rfl, hne⟩]
      congr 1
      omega
    · rw [if_neg (c := i = j ∧ p ≠ []) (fun h => e h.1), List.getElem?_take_of_lt hn, List.getElem?_drop]
      split
      · rfl
      · rw [if_neg (by omega)]
  · rw [List.getElem?_eq_none (by rw [List.length_take]; omega)]
    split
    · rw [List.getElem?_eq_none (by omega)]
    · rw [List.getElem?_eq_none (by rw [List.length_take]; omega)]
theorem slS_zeros {j : Nat} (h : j < 4) : slS (zeros 64) j = zeros 16 := by
  unfold slS zeros
  rw [List.drop_replicate, List.take_replicate, Nat.min_eq_left (by omega)]
theorem slS_pre (l : List EntV) (k : Int) (j : Fin 4) : ∀ pre : List (Fin 4), slS (blkS l k pre) j.1 = if j ∈ pre then (pickE l (k * 4 + (j.1 : Int))).elim (zeros 16) putE else zeros 16 := by
  intro pre
  induction pre using snoc_ind with
  | h0 => exact slS_zeros j.2
  | h1 pre i ih =>
    rw [blkS_snoc, slS_splice (blkS_len l k pre) i.2 j.2 (firstS_len l _), ih]
    by_cases e : i = j
    · subst e
      rw [firstS_pick]
      cases hp : pickE l (k * 4 + (i.1 : Int)) with
      | none => simp
      | some x =>
        have hx := (pick_some hp).2.2
        have : putE x ≠ [] := by intro e; have := putE_len hx; rw [e] at this; cases this
        simp [this]
    · have e1 : ¬ i.1 = j.1 := fun h => e (Fin.ext h)
      have e2 : ¬ j = i := fun h => e h.symm
      simp [e1, e2]
theorem slS_blk (l : List EntV) (k : Int) (j : Fin 4) : slS (blkS l k (List.finRange 4)) j.1 = (pickE l (k * 4 + (j.1 : Int))).elim (zeros 16) putE := by
  rw [slS_pre, if_pos (List.mem_finRange j)]
theorem told_put {x : EntV} (h : rightE x = true) : toldE (putE x) x.slot = x := by
  obtain ⟨_, ⟨h1, h2⟩, h3⟩ := rightE_parts h
  have hp : putE x = nb 2 x.ino.toNat ++ packS x.name := by unfold putE; rw [if_pos h]
  have hl := putE_len h
  have hd : (putE x).drop 2 = packS x.name := by rw [hp, List.drop_left' (nb_length _ _)]
  have ht : (putE x).take 2 = nb 2 x.ino.toNat := by rw [hp, List.take_left' (nb_length _ _)]
  have hn : unpackS (packS x.name) = x.name := by
    obtain ⟨q1, q2⟩ := isPackB_packS h3
    unfold unpackS
    rw [if_pos q1, q2]
  have hi : ((getR (putE x) 0 2 : Nat) : Int) = x.ino := by
    unfold getR
    rw [if_pos (by rw [hl]; rfl)]
    unfold getS
    show ((val ((putE x).take 2) : Nat) : Int) = _
    rw [ht, val_nb _ _ (by omega)]
    omega
  unfold toldE
  rw [hd, hn, hi]
theorem got_put {x : EntV} (h : rightE x = true) : gotE (putE x) x.slot = true ∧ entE (putE x) x.slot = x := by
  have h2 := rightE_parts h
  have hz : (putE x == zeros 16) = false := by
    rw [beq_eq_false_iff_ne]
    intro e
    have hd : (putE x).drop 2 = packS x.name := by unfold putE; rw [if_pos h, List.drop_left' (nb_length _ _)]
    have := (isPackB_packS h2.2.2).2
    rw [← hd, e] at this
    have h0 : innerS ((zeros 16).drop 2) = [] := by decide +kernel
    rw [h0] at this
    have := h2.2.2
    rw [← ‹[] = x.name›] at this
    exact absurd this (by decide +kernel)
  have hg : gotE (putE x) x.slot = true := by
    unfold gotE
    rw [putE_len h, hz, told_put h, h]
    simp
  refine ⟨hg, ?_⟩
  unfold entE
  rw [if_pos hg, told_put h]
theorem got_zeros (s : Int) : gotE (zeros 16) s = false ∧ readE (zeros 16) s = true := by
  have : gotE (zeros 16) s = false := by unfold gotE; simp
  exact ⟨this, by unfold readE; rw [this]; simp⟩
theorem acc_of {b : List UInt8} {k : Int} {f : Fin 4 → Option EntV} (hf : ∀ j : Fin 4, slS b j.1 = (f j).elim (zeros 16) putE) (hr : ∀ (j : Fin 4) x, f j = some x → rightE x = true ∧ x.slot = k * 4 + (j.1 : Int)) :
    ∀ pre : List (Fin 4), accE b k pre = pre.filterMap f ∧ accB b k pre = [] := by
  intro pre
  induction pre using snoc_ind with
  | h0 => exact ⟨rfl, rfl⟩
  | h1 pre j ih =>
    rw [accE_snoc, accB_snoc, ih.1, ih.2, hf j, List.filterMap_append]
    cases hj : f j with
    | none =>
      obtain ⟨g1, g2⟩ := got_zeros (k * 4 + (j.1 : Int))
      simp only [Option.elim, g1, g2, if_true, List.filterMap_cons, hj, List.filterMap_nil, List.append_nil]
      exact ⟨rfl, trivial⟩
    | some x =>
      obtain ⟨r1, r2⟩ := hr j x hj
      obtain ⟨g1, g2⟩ := got_put r1
      rw [r2] at g1 g2
      have g3 : readE (putE x) (k * 4 + (j.1 : Int)) = true := by unfold readE; rw [g1]; rfl
      simp only [Option.elim, g1, g2, g3, if_true, List.filterMap_cons, hj, List.filterMap_nil]
      exact ⟨trivial, trivial⟩
/-- The entries that block k tells. -/
def blkE (l : List EntV) (k : Int) : List EntV := (List.finRange 4).filterMap (fun j => pickE l (k * 4 + (j.1 : Int)))
theorem pick_hr (l : List EntV) (k : Int) (j : Fin 4) (x : EntV) (h : pickE l (k * 4 + (j.1 : Int)) = some x) : rightE x = true ∧ x.slot = k * 4 + (j.1 : Int) := ⟨(pick_some h).2.2, (pick_some h).2.1⟩
theorem parse_blk (l : List EntV) (k : Int) : accE (blkS l k (List.finRange 4)) k (List.finRange 4) = blkE l k ∧ accB (blkS l k (List.finRange 4)) k (List.finRange 4) = [] := acc_of (slS_blk l k) (pick_hr l k) _
theorem parse_clear (l : List EntV) (k : Int) (r : Fin 4) : accE (splice (blkS l k (List.finRange 4)) (16 * r.1) (zeros 16)) k (List.finRange 4) = (blkE l k).filter (fun x => !(x.slot == k * 4 + (r.1 : Int))) := by
  have h := acc_of (b := splice (blkS l k (List.finRange 4)) (16 * r.1) (zeros 16)) (k := k) (f := fun j => (pickE l (k * 4 + (j.1 : Int))).filter (fun x => !(x.slot == k * 4 + (r.1 : Int)))) (fun j => by
    rw [slS_splice (blkS_len _ _ _) r.2 j.2 (Or.inr (zeros_length 16)), slS_blk]
    cases hp : pickE l (k * 4 + (j.1 : Int)) with
    | none => simp [Option.filter]
    | some x =>
      have hx := (pick_some hp).2.1
      have hz : zeros 16 ≠ [] := by decide
      by_cases e : r.1 = j.1
      · simp [Option.filter, hx, e, hz]
      · have : ¬ ((j.1 : Int) = (r.1 : Int)) := fun h => e (by omega)
        simp [Option.filter, hx, e, this]) (fun j x hx => by
    rw [Option.filter_eq_some_iff] at hx
    exact pick_hr l k j x hx.1) (List.finRange 4)
  rw [h.1]
  unfold blkE
  rw [List.filter_filterMap]
theorem blk_mem {l : List EntV} {k : Int} {x : EntV} (h : x ∈ blkE l k) : x ∈ l ∧ rightE x = true ∧ ∃ j : Fin 4, x.slot = k * 4 + (j.1 : Int) := by
  unfold blkE at h
  rw [List.mem_filterMap] at h
  obtain ⟨j, _, hj⟩ := h
  obtain ⟨h1, h2, h3⟩ := pick_some hj
  exact ⟨h1, h3, j, h2⟩
theorem blk_sorted (l : List EntV) (k : Int) : (blkE l k).Pairwise (fun x y => x.slot < y.slot) := by
  unfold blkE
  refine List.Pairwise.filterMap _ (fun i j hij x hx y hy => ?_) (List.pairwise_lt_finRange 4)
  have h1 := (pick_some hx).2.1
  have h2 := (pick_some hy).2.1
  have : i.1 < j.1 := hij
  omega
theorem blk_len (l : List EntV) (k : Int) : (blkE l k).length ≤ 4 := by
  have := List.length_filterMap_le (fun j : Fin 4 => pickE l (k * 4 + (j.1 : Int))) (List.finRange 4)
  rw [List.length_finRange] at this
  exact this
theorem pick_blk (l : List EntV) (k : Int) (j : Fin 4) : pickE (blkE l k) (k * 4 + (j.1 : Int)) = pickE l (k * 4 + (j.1 : Int)) := by
  cases hp : pickE l (k * 4 + (j.1 : Int)) with
  | none =>
    unfold pickE
    rw [List.find?_eq_none]
    intro x hx hc
    simp only [Bool.and_eq_true, beq_iff_eq] at hc
    obtain ⟨_, _, i, hi⟩ := blk_mem hx
    have e : i = j := Fin.ext (by omega)
    unfold blkE at hx
    rw [List.mem_filterMap] at hx
    obtain ⟨i', _, hi'⟩ := hx
    have e' : i' = j := Fin.ext (by have := (pick_some hi').2.1; omega)
    rw [e', hp] at hi'
    cases hi'
  | some x =>
    have hm : x ∈ blkE l k := List.mem_filterMap.2 ⟨j, List.mem_finRange j, hp⟩
    cases hq : pickE (blkE l k) (k * 4 + (j.1 : Int)) with
    | none =>
      unfold pickE at hq
      rw [List.find?_eq_none] at hq
      exact absurd (by simp [(pick_some hp).2.1, (pick_some hp).2.2]) (hq x hm)
    | some y =>
      obtain ⟨hy, hs, _⟩ := pick_some hq
      unfold blkE at hy
      rw [List.mem_filterMap] at hy
      obtain ⟨i, _, hi⟩ := hy
      have e : i = j := Fin.ext (by have := (pick_some hi).2.1; omega)
      rw [e, hp] at hi
      exact hi.symm
theorem blk_again (l : List EntV) (k : Int) : ∀ pre, blkS (blkE l k) k pre = blkS l k pre := by
  intro pre
  induction pre using snoc_ind with
  | h0 => rfl
  | h1 pre j ih => rw [blkS_snoc, blkS_snoc, ih, firstS_pick, firstS_pick, pick_blk]
end Go.Proofs.Ythjjjeolpdekoaa

/- slices.Contains, slices.Clone of entries, laid off the library's generic contracts (layer 8). -/
namespace Go.Proofs.Ythjjjeolpdekoaa
open Go.RowKit Go.Shelf Plain

instance : Inhabited EntV := ⟨ent0⟩
def conR : Ren := ⟨fun | 6 => 53 | 7 => 19 | n => n, fun | 24 => 23 | 22 => 34 | n => n, fun | n => n⟩
theorem conL : SlLaysQ.n7 Try.prog conR := {
  mixed := by kernel_rfl
  f6 := ⟨"slices.Index[[]craquelure/api.Entry,craquelure/api.Entry]", by decide +kernel, Try.func53.trans (congrArg some (by kernel_rfl))⟩
  f7 := ⟨"slices.Contains[[]craquelure/api.Entry,craquelure/api.Entry]", by decide +kernel, Try.func19.trans (congrArg some (by kernel_rfl))⟩
  t0 := by kernel_rfl
  a0 := fun w => by kernel_rfl
  z0 := fun w => by kernel_rfl
  v0 := fun w => by kernel_rfl
  t3 := by kernel_rfl
  a3 := fun w => by kernel_rfl
  z3 := fun w => by kernel_rfl
  v3 := fun w => by kernel_rfl
  t4 := by kernel_rfl
  a4 := fun w => by kernel_rfl
  z4 := fun w => by kernel_rfl
  v4 := fun w => by kernel_rfl
  t22 := by kernel_rfl
  a22 := fun w => by kernel_rfl
  z22 := fun w => by kernel_rfl
  v22 := fun w => by kernel_rfl }
theorem ent_eql : EqlAt Try.prog 23 (fun x => .agg (cellsE x).toArray) (fun x y => decide (x = y)) := ⟨fun _ _ w => eq_ent rfl w, GuardAt.agg _ (by kernel_rfl)⟩
theorem ent_at {w : World} {D : Nat → Prop} {A : Option Addr} {n : Nat} {l : List EntV} (h : RdE entEn w D A n l) (hn : 0 < n) : ∃ b o, A = some ⟨b, o, none⟩ ∧ D b ∧ ∀ j, j < l.length → ∀ i v, (cellsE l[j]!)[i]? = some v → w.cell? ⟨b, o + j * 3 + i, none⟩ = some v := by
  obtain ⟨b, o, e, hD, hc⟩ := h.2 hn
  refine ⟨b, o, e, hD, fun j hj i v hv => ?_⟩
  rw [getElem!_pos l j hj] at hv
  obtain ⟨cs, hR, hcs⟩ := hc j l[j] (List.getElem?_eq_getElem hj)
  rw [Nat.add_assoc]
  refine hcs i v ?_
  rw [ent_cells hR]
  exact hv
theorem Contains_any {A : Option Addr} {n c : Nat} {l : List EntV} {x : EntV} {r : Bool} (w : World) (h : RdE entEn w (Under w.heap.size) A n l) (hn : n ≤ 140737488355328) (h0 : 0 < n) (hr : l.contains x = r) :
    Calls Try.prog 19 #[.slice A n c, .agg (cellsE x).toArray] w (BoolB w r) := by
  obtain ⟨b, o, rfl, _, hc⟩ := ent_at h h0
  have hl := h.len
  have := AnyQ.slices_Contains conL 3 ent_agg ent_size cellsE (fun _ => rfl) _ ent_eql b o n c l x w (by omega) (by omega) hc
  refine this.mono ?_
  rintro e w' ⟨rfl, hB⟩
  refine ⟨?_, hB⟩
  rw [← hr, List.take_of_length_le (by omega)]
  congr 2
  rw [Bool.eq_iff_iff]
  simp
def cloR : Ren := ⟨fun | 41 => 22 | n => n, fun | 23 => 23 | 22 => 34 | n => n, fun | n => n⟩
theorem cloL : SlLaysE0.n41 Try.prog cloR := {
  mixed := by kernel_rfl
  f41 := ⟨"slices.Clone[[]craquelure/api.Entry,craquelure/api.Entry]", by decide +kernel, Try.func22.trans (congrArg some (by kernel_rfl))⟩
  t4 := by kernel_rfl
  a4 := fun w => by kernel_rfl
  z4 := fun w => by kernel_rfl
  v4 := fun w => by kernel_rfl
  t22 := by kernel_rfl
  a22 := fun w => by kernel_rfl
  z22 := fun w => by kernel_rfl
  v22 := fun w => by kernel_rfl }
theorem cells_one (l : List EntV) : ∀ u ∈ flatE l, u.oneCell' = true := by
  intro u hu
  unfold flatE at hu
  rw [List.mem_flatMap] at hu
  obtain ⟨x, _, hx⟩ := hu
  unfold cellsE at hx
  simp only [List.mem_cons, List.not_mem_nil, or_false] at hx
  rcases hx with rfl | rfl | rfl <;> rfl
set_option maxRecDepth 100000 in
/-- A clone, nil or not. -/
theorem CloneE_any {v : Value} {n base : Nat} {l : List EntV} (w : World) (h : w.ownsRow base 23 3 v n (flatE l)) (hn : n ≤ 100) :
    Calls Try.prog 22 #[v] w (fun e w' => ∃ v', e = .returned v' ∧ w'.ownsRow w.heap.size 23 3 v' n (flatE l) ∧ Below w.heap.size w w') := by
  have hlen := h.1
  rcases Joins.ownsRow_forms h with ⟨rfl, rfl⟩ | ⟨g, cap, rfl⟩
  · have h0 : flatE l = [] := List.length_eq_zero_iff.1 (by simpa using hlen)
    have HO := hide (World.ownsRow_nil w w.heap.size 23 3)
    rw [h0]
    have hq : ∀ w, (binOp .eql 34 (.slice none 0 0) (.slice none 0 0)).run Try.prog w = .ok (.bool true) w := fun w => Lib.run_eql_slice_nil w _ _ none 0 0 0 0 Try.underlying34
    clear h hlen h0
    go_enter Try.func22, Try.ntmps22
    go_wp2
    go_ret
    exact ⟨_, rfl, HO.out, below_self w⟩
  · obtain ⟨i, hi⟩ := Option.isSome_iff_exists.1 (show (Try.prog.info? 23).isSome = true by kernel_rfl)
    have hi3 := ent_info
    rw [hi] at hi3
    simp only [Option.map_some, Option.some.injEq, Prod.mk.injEq] at hi3
    have hcl := World.ownsRow.cells h (g := g) rfl
    refine (AnyE.slices_Clone cloL i zent 3 32 hi hi3.1 hi3.2.1 hi3.2.2 rfl (by decide) ent_size g 0 n cap (flatE l) w hlen (by unfold maxLen; omega) (by omega) (fun j u hj => ?_) (cells_one l)).mono ?_
    · have := hcl j u hj
      rw [Addr.add_lit] at this
      exact this
    · rintro e w' ⟨v', rfl, h1, _, h3⟩
      exact ⟨v', rfl, h1, h3⟩
end Go.Proofs.Ythjjjeolpdekoaa

/- The law EntryBack's function value; slices.IndexFunc of entries with it (layer 8). -/
namespace Go.Proofs.Ythjjjeolpdekoaa
open Go.RowKit Go.Shelf Plain

set_option maxRecDepth 100000 in
/-- Has the entry the slot that the captured variable holds? -/
theorem Del_any {g0 : Nat} {s : Int} {x : EntV} {r : Bool} (W : World) (hc : W.cell? ⟨g0, 0, none⟩ = some (.int .i64 s)) (hr : (x.slot == s) = r) :
    Calls Try.prog 23 #[.agg #[.int .i64 x.slot, .int .i64 x.ino, .string ⟨x.name.toArray⟩], .pointer (some ⟨g0, 0, none⟩)] W (BoolB W r) := by
  have hB := below_new (below_self W) (.cells #[.int .i64 x.slot, .int .i64 x.ino, .string ⟨x.name.toArray⟩] 23)
  have hlt : g0 < W.heap.size := World.block_lt_of_cell? _ _ hc
  have c1 : (W.alloc (.cells #[.int .i64 x.slot, .int .i64 x.ino, .string ⟨x.name.toArray⟩] 23)).cell? ⟨g0, 0, none⟩ = some (.int .i64 s) := (hB.cell (p := ⟨g0, 0, none⟩) hlt).trans hc
  have HB := hide hB
  have HR := hide hr
  clear hB hr hc
  go_enter Try.func23, Try.ntmps23
  go_wp2
  go_ret
  exact BoolB.eq HR.out HB.out
def idxR : Ren := ⟨fun | 6 => 55 | n => n, fun | 23 => 23 | 22 => 34 | 25 => 31 | n => n, fun | n => n⟩
theorem idxL : SlLaysH0.n6 Try.prog idxR := {
  mixed := by kernel_rfl
  f6 := ⟨"slices.IndexFunc[[]craquelure/api.Entry,craquelure/api.Entry]", by decide +kernel, Try.func55.trans (congrArg some (by kernel_rfl))⟩
  t0 := by kernel_rfl
  a0 := fun w => by kernel_rfl
  z0 := fun w => by kernel_rfl
  v0 := fun w => by kernel_rfl
  t3 := by kernel_rfl
  a3 := fun w => by kernel_rfl
  z3 := fun w => by kernel_rfl
  v3 := fun w => by kernel_rfl
  t4 := by kernel_rfl
  a4 := fun w => by kernel_rfl
  z4 := fun w => by kernel_rfl
  v4 := fun w => by kernel_rfl
  t22 := by kernel_rfl
  a22 := fun w => by kernel_rfl
  z22 := fun w => by kernel_rfl
  v22 := fun w => by kernel_rfl
  t25 := by kernel_rfl
  a25 := fun w => by kernel_rfl
  z25 := fun w => by kernel_rfl
  v25 := fun w => by kernel_rfl }
/-- Where the first with the slot is. -/
def idxS (s : Int) : List EntV → Nat → Option Nat
  | [], _ => none
  | x :: r, k => if (x.slot == s) = true then some k else idxS s r (k + 1)
def idxI (s : Int) (l : List EntV) : Int := (idxS s l 0).elim (-1) (fun k => (k : Int))
theorem idx_from (s : Int) (l : List EntV) (k : Nat) : Lib.idxByFrom (fun _ (y : EntV) => y.slot == s) default l k = (idxS s l k).elim (-1) (fun k => (k : Int)) := by
  induction l generalizing k with
  | nil => rfl
  | cons x r ih =>
    unfold idxS Lib.idxByFrom
    cases h : (x.slot == s) with
    | true => rfl
    | false => exact ih (k + 1)
set_option maxRecDepth 100000 in
theorem IndexF_any {A : Option Addr} {n c : Nat} {l : List EntV} {g0 : Nat} {s r : Int} (w : World) (h : RdE entEn w (Under w.heap.size) A n l) (hn : n ≤ 140737488355328) (hc : w.cell? ⟨g0, 0, none⟩ = some (.int .i64 s)) (hr : idxI s l = r) :
    Calls Try.prog 55 #[.slice A n c, .func (.func 23) #[] #[.pointer (some ⟨g0, 0, none⟩)]] w (fun e w' => e = .returned (.int .i64 r) ∧ Below w.heap.size w w') := by
  have hl := h.len
  have hlt : g0 < w.heap.size := World.block_lt_of_cell? _ _ hc
  by_cases h0 : 0 < n
  · obtain ⟨b, o, rfl, hD, hcs⟩ := ent_at h h0
    have eg : ∀ args w, (callFunc 23 args).run Try.prog w = .ok (.enter 23 args) w := enters_of Try.func23 rfl rfl
    have hp : PredBelow Try.prog 23 #[.pointer (some ⟨g0, 0, none⟩)] (fun x => .agg (cellsE x).toArray) (fun x : EntV => x.slot == s) w := fun W x hB => by
      have hlt2 := hB.size
      exact (Del_any W ((hB.cell (p := ⟨g0, 0, none⟩) hlt).trans hc) rfl).mono (fun e w' he => ⟨he.1, hB.trans (he.2.mono hlt2)⟩)
    have := AnyQ.slices_IndexFunc idxL 3 ent_agg ent_size cellsE (fun _ => rfl) (fun x : EntV => x.slot == s) 23 #[.pointer (some ⟨g0, 0, none⟩)] eg b o n c l w hp (by omega) (by omega) hD hcs
    refine this.mono ?_
    rintro e w' ⟨rfl, hB⟩
    refine ⟨?_, hB⟩
    rw [List.take_of_length_le (by omega), ← hr]
    unfold idxI
    rw [← idx_from]
    rfl
  · obtain rfl : n = 0 := by omega
    have hl0 : l = [] := List.length_eq_zero_iff.1 hl
    have hr0 : (-1 : Int) = r := by rw [← hr, hl0]; rfl
    clear h hl hl0 hr hn h0 hc
    subst hr0
    go_enter Try.func55, Try.ntmps55
    go_wp2
    go_loopw [8] (fun i wr => i = .int .i64 0 ∧ wr = w) (fun _ _ => 0)
    case atStart => exact ⟨rfl, rfl⟩
    case round =>
      obtain ⟨rfl, rfl⟩ := hrel
      go_wp2
      go_ret
      exact ⟨rfl, below_self _⟩
end Go.Proofs.Ythjjjeolpdekoaa

/- slices.DeleteFunc of entries with the law's function value (layer 8). -/
namespace Go.Proofs.Ythjjjeolpdekoaa
open Go.RowKit Go.Shelf Plain

theorem run_clear_ent (w : World) (g off n c tt : Nat) (cur : List Value) (hn : 0 < n) (hr : RowL w g tt cur) (hfit : off + n * 3 ≤ cur.length) :
    ∃ Z : List Value, Z.length = n * 3 ∧ ∀ ty, (Builtin.clear_ #[34] ty #[.slice (some ⟨g, off, none⟩) n c]).run Try.prog w = .ok (.tuple #[]) (w.setRow g (splice cur off Z).toArray) := by
  have hz : ∀ w, (zeroValue 23).run Try.prog w = .ok zent w := fun w => by kernel_rfl
  obtain ⟨Z, hZ⟩ : ∃ Z, (Builtin.zeroCells zent.cells n).toList = Z := ⟨_, rfl⟩
  have hl : Z.length = n * 3 := by
    rw [← hZ, show zent.cells = #[.int .i64 0, .int .i64 0, .string ⟨#[]⟩] from rfl]
    simp [Builtin.zeroCells]
  have h1 : ∀ v ∈ Z, v.oneCell' = true := by
    rw [← hZ, show zent.cells = #[.int .i64 0, .int .i64 0, .string ⟨#[]⟩] from rfl]
    intro v hv
    simp only [Builtin.zeroCells, Array.mem_toList_iff, Array.mem_map] at hv
    obtain ⟨i, _, rfl⟩ := hv
    have hi : i % 3 < 3 := Nat.mod_lt _ (by omega)
    show (#[Value.int .i64 0, .int .i64 0, .string ⟨#[]⟩][i % 3]!).oneCell' = true
    generalize i % 3 = m at hi
    have : m = 0 ∨ m = 1 ∨ m = 2 := by omega
    rcases this with rfl | rfl | rfl <;> rfl
  have hst := run_storeCells_at Try.prog g off tt Z 0 cur.toArray w hr (by simp; omega) h1
  simp only [Nat.add_zero] at hst
  refine ⟨Z, hl, fun ty => ?_⟩
  obtain ⟨m, rfl⟩ : ∃ m, n = m + 1 := ⟨n - 1, by omega⟩
  simp [Builtin.clear_, run_underlying Try.underlying34, hz, hZ, hst, splice]
theorem flatE_take (l : List EntV) (a : Nat) : (flatE l).take (a * 3) = flatE (l.take a) := by
  induction l generalizing a with
  | nil => simp [flatE]
  | cons x r ih =>
    cases a with
    | zero => simp [flatE]
    | succ a =>
      have e : flatE (x :: r) = cellsE x ++ flatE r := rfl
      have e2 : flatE ((x :: r).take (a + 1)) = cellsE x ++ flatE (r.take a) := rfl
      rw [e, e2, List.take_append, List.take_of_length_le (by show 3 ≤ _; omega), show (a + 1) * 3 - (cellsE x).length = a * 3 from by show (a + 1) * 3 - 3 = _; omega, ih]
theorem set_flat {cur : List Value} {M : List EntV} {a : Nat} (x : EntV) (h : cur.take (M.length * 3) = flatE M) (hc : M.length * 3 ≤ cur.length) (ha : a < M.length) : (splice cur (a * 3) (cellsE x)).take (M.length * 3) = flatE (M.set a x) := by
  have h3 : (cellsE x).length = 3 := rfl
  apply List.ext_getElem?
  intro i
  by_cases hi : i < M.length * 3
  · rw [List.getElem?_take_of_lt hi, splice_get _ _ _ _ (by omega)]
    have e : i = i / 3 * 3 + i % 3 := by omega
    have hM : i / 3 < M.length := by omega
    have hf : (flatE (M.set a x))[i]? = (cellsE ((M.set a x)[i / 3]'(by rw [List.length_set]; omega)))[i % 3]? := by
      conv => lhs; rw [e]
      exact flatE_get (List.getElem?_eq_getElem (by rw [List.length_set]; omega)) (by omega)
    have hg : cur[i]? = (cellsE M[i / 3])[i % 3]? := by
      rw [← List.getElem?_take_of_lt hi, h]
      conv => lhs; rw [e]
      exact flatE_get (List.getElem?_eq_getElem hM) (by omega)
    rw [hf, List.getElem_set, hg]
    by_cases hia : a = i / 3
    · rw [if_neg (by omega), if_pos (by omega), if_pos hia]
      congr 1
      omega
    · rw [if_neg hia]
      split
      · rfl
      · rw [if_neg (by omega)]
  · rw [List.getElem?_eq_none (by rw [List.length_take]; omega), List.getElem?_eq_none (by rw [flatE_len, List.length_set]; omega)]
theorem grown_on {a w w' : World} {row : Option Nat} (h : a.grownBy w row) (hb : Below w.heap.size w w') : a.grownBy w' row := ⟨hb.os.trans h.os, hb.tape.trans h.tape, hb.output.trans h.output, Nat.le_trans h.size hb.size, fun j hj hne => (hb.block j (Nat.lt_of_lt_of_le hj h.size)).trans (h.block j hj hne)⟩
theorem grown_t {a w w' : World} {row : Option Nat} (h : a.grownBy w row) (k : w.grownBy w' row) : a.grownBy w' row := ⟨k.os.trans h.os, k.tape.trans h.tape, k.output.trans h.output, Nat.le_trans h.size k.size, fun j hj hne => (k.block j (Nat.lt_of_lt_of_le hj h.size) hne).trans (h.block j hj hne)⟩
/-- In the midst of striking: a entries are kept of the first b. -/
def DelAt (l : List EntV) (s : Int) (n cap g a b : Nat) (w : World) : Prop := ∃ (M : List EntV) (cur : List Value), RowL w g 23 cur ∧ cur.length = cap * 3 ∧ cur.take (n * 3) = flatE M ∧ M.length = n ∧ M.take a = (l.take b).filter (fun x => !(x.slot == s)) ∧ M.drop b = l.drop b
theorem DelAt.on {l : List EntV} {s : Int} {n cap g a b : Nat} {w w' : World} (h : DelAt l s n cap g a b w) (hb : Below w.heap.size w w') : DelAt l s n cap g a b w' := by
  obtain ⟨M, cur, h1, h2⟩ := h
  exact ⟨M, cur, h1.on hb, h2⟩
theorem DelAt.skip {l : List EntV} {s : Int} {n cap g a b : Nat} {w : World} (h : DelAt l s n cap g a b w) {x : EntV} (hx : l[b]? = some x) (hs : (x.slot == s) = true) : DelAt l s n cap g a (b + 1) w := by
  obtain ⟨M, cur, h1, h2, h3, h4, h5, h6⟩ := h
  obtain ⟨hb, e⟩ := List.getElem?_eq_some_iff.1 hx
  refine ⟨M, cur, h1, h2, h3, h4, ?_, ?_⟩
  · rw [List.take_succ_eq_append_getElem hb, List.filter_append, h5, e]
    simp [hs]
  · rw [← List.drop_drop, ← List.drop_drop, h6]
theorem DelAt.entry {l : List EntV} {s : Int} {n cap g a b : Nat} {w : World} (h : DelAt l s n cap g a b w) {x : EntV} (hx : l[b]? = some x) : ∀ j v, (cellsE x)[j]? = some v → w.cell? ⟨g, b * 3 + j, none⟩ = some v := by
  obtain ⟨M, cur, h1, h2, h3, h4, h5, h6⟩ := h
  intro j v hv
  have hj : j < 3 := (List.getElem?_eq_some_iff.1 hv).1
  have hM : M[b]? = some x := by
    have := congrArg (fun t : List EntV => t[0]?) h6
    simp only [List.getElem?_drop, Nat.add_zero] at this
    rw [this, hx]
  have hb := (List.getElem?_eq_some_iff.1 hM).1
  rw [h1.cell, ← hv, ← flatE_get hM hj, ← h3, List.getElem?_take_of_lt (by omega)]
theorem DelAt.row {l : List EntV} {s : Int} {n cap g a b : Nat} {w : World} (h : DelAt l s n cap g a b w) : ∃ cur, RowL w g 23 cur ∧ cur.length = cap * 3 ∧ (∀ w' x, l[b]? = some x → (x.slot == s) = false → a < b → n ≤ cap → RowL w' g 23 (splice cur (a * 3) (cellsE x)) → DelAt l s n cap g (a + 1) (b + 1) w') ∧ (∀ w' Z, b = l.length → a * 3 + Z.length ≤ cur.length → RowL w' g 23 (splice cur (a * 3) Z) → a ≤ n → RdE entEn w' (Under w'.heap.size) (some ⟨g, 0, none⟩) a (l.filter (fun x => !(x.slot == s)))) := by
  obtain ⟨M, cur, h1, h2, h3, h4, h5, h6⟩ := h
  refine ⟨cur, h1, h2, fun w' x hx hs hab hnc hr => ?_, fun w' Z hb hfit hr han => ?_⟩
  · obtain ⟨hb, e⟩ := List.getElem?_eq_some_iff.1 hx
    have hMl : l.drop b ≠ [] := by intro e; rw [List.drop_eq_nil_iff] at e; omega
    have hbn : b < n := by
      rcases Nat.lt_or_ge b n with h | h
      · exact h
      · exact absurd (h6.symm.trans (List.drop_of_length_le (by omega))) hMl
    have h3' : cur.take (M.length * 3) = flatE M := by rw [h4]; exact h3
    refine ⟨M.set a x, _, hr, by rw [length_splice _ _ _ (by show a * 3 + 3 ≤ _; omega), h2], ?_, by rw [List.length_set, h4], ?_, ?_⟩
    · have := set_flat (a := a) x h3' (by omega) (by omega)
      rw [h4] at this
      exact this
    · rw [List.take_succ_eq_append_getElem hb, List.filter_append, ← h5, List.take_succ_eq_append_getElem (by rw [List.length_set]; omega), List.getElem_set_self, List.take_set_of_le (Nat.le_refl a), e]
      simp [hs]
    · rw [List.drop_set_of_lt (by omega), ← List.drop_drop, ← List.drop_drop, h6]
  · rw [List.take_of_length_le (l := l) (by omega)] at h5
    have hla : (l.filter (fun x => !(x.slot == s))).length = a := by rw [← h5, List.length_take]; omega
    have hz : (splice cur (a * 3) Z).take ((l.filter (fun x => !(x.slot == s))).length * 3) = flatE (l.filter (fun x => !(x.slot == s))) := by
      rw [hla, ← h5, ← flatE_take, ← h3, List.take_take, Nat.min_eq_left (by omega)]
      apply List.ext_getElem?
      intro i
      by_cases hi : i < a * 3
      · rw [List.getElem?_take_of_lt hi, List.getElem?_take_of_lt hi, splice_get _ _ _ _ hfit, if_pos hi]
      · rw [List.getElem?_eq_none (by rw [List.length_take]; omega), List.getElem?_eq_none (by rw [List.length_take]; omega)]
    have := rde_row (D := Under w'.heap.size) hr hr.lt hz
    rw [hla] at this
    exact this
/-- Where the search ended. -/
theorem idx_spec (s : Int) (l : List EntV) : (idxI s l = -1 ∧ l.filter (fun x => !(x.slot == s)) = l) ∨ ∃ k : Nat, k < l.length ∧ idxI s l = k ∧ (l.take (k + 1)).filter (fun x => !(x.slot == s)) = l.take k := by
  have gen : ∀ (l : List EntV) (i : Nat), (idxS s l i = none ∧ l.filter (fun x => !(x.slot == s)) = l) ∨ ∃ k : Nat, k < l.length ∧ idxS s l i = some (i + k) ∧ (l.take (k + 1)).filter (fun x => !(x.slot == s)) = l.take k := by
    intro l
    induction l with
    | nil => exact fun i => .inl ⟨rfl, rfl⟩
    | cons x r ih =>
      intro i
      unfold idxS
      cases h : (x.slot == s) with
      | true => exact .inr ⟨0, by simp, rfl, by simp [h]⟩
      | false =>
        rcases ih (i + 1) with ⟨h1, h2⟩ | ⟨k, h1, h2, h3⟩
        · exact .inl ⟨by simpa using h1, by rw [List.filter_cons_of_pos (by simp [h]), h2]⟩
        · refine .inr ⟨k + 1, by simpa using h1, by rw [if_neg (by simp), h2]; congr 1; omega, ?_⟩
          rw [List.take_succ_cons, List.filter_cons_of_pos (by simp [h]), h3, List.take_succ_cons]
  unfold idxI
  rcases gen l 0 with ⟨h1, h2⟩ | ⟨k, h1, h2, h3⟩
  · exact .inl ⟨by rw [h1]; rfl, h2⟩
  · exact .inr ⟨k, h1, by rw [h2, Nat.zero_add]; rfl, h3⟩
theorem del_start {w : World} {l : List EntV} {s : Int} {g cap k base n : Nat} (h : w.ownsRow base 23 3 (.slice (some ⟨g, 0, none⟩) n cap) n (flatE l)) (hf : (l.take (k + 1)).filter (fun x => !(x.slot == s)) = l.take k) : DelAt l s n cap g k (k + 1) w ∧ n ≤ cap ∧ l.length = n := by
  have h0 := h.1
  rw [flatE_len] at h0
  have hl : l.length = n := by omega
  rcases h.2 with ⟨e, _⟩ | ⟨g', cap', cur, e, _, hg, hnc, _, hs, ht⟩
  · cases e
  · cases e
    exact ⟨⟨l, cur.toList, by unfold RowL; simpa using hg, by simpa using hs, ht, hl, hf.symm, rfl⟩, hnc, hl⟩

set_option maxRecDepth 100000 in
set_option maxHeartbeats 1600000 in
theorem DeleteF_any {v : Value} {n base : Nat} {l r : List EntV} {g0 : Nat} {s : Int} (w : World) (h : w.ownsRow base 23 3 v n (flatE l)) (hn : n ≤ 100) (hc : w.cell? ⟨g0, 0, none⟩ = some (.int .i64 s)) (hg : v.ownBlock ≠ some g0) (hr : l.filter (fun x => !(x.slot == s)) = r) :
    Calls Try.prog 21 #[v, .func (.func 23) #[] #[.pointer (some ⟨g0, 0, none⟩)]] w (fun e w' => ∃ A m c, e = .returned (.slice A m c) ∧ m ≤ 100 ∧ RdE entEn w' (Under w'.heap.size) A m r ∧ w.grownBy w' v.ownBlock) := by
  obtain ⟨A, c, rfl⟩ := owns_slice h
  have hrd := rde_owns h
  have hll := hrd.len
  have hlt0 : g0 < w.heap.size := World.block_lt_of_cell? _ _ hc
  rcases idx_spec s l with ⟨e1, e2⟩ | ⟨k, hk, e1, e2⟩
  · have hI := IndexF_any (c := c) w hrd (by omega) hc e1
    have hrl : l = r := by rw [← hr, e2]
    subst hrl
    have HN := hide hn
    have H := hide h
    clear h hrd hc hg hr e1 e2 hll hlt0 hn
    go_enter Try.func21, Try.ntmps21
    go_wp2_with (go_at_call 55; refine hI.mono ?_; rintro e w1 ⟨rfl, hB1⟩)
    go_ret
    exact ⟨A, n, c, rfl, HN.out, rde_owns (ownsRow_below H.out hB1), grown_on (World.grownBy.refl _ _) hB1⟩
  · obtain ⟨g, cap, e⟩ := Joins.ownsRow_form h (by omega)
    cases e
    obtain ⟨hd, hnc, _⟩ := del_start h e2
    have hI := IndexF_any (c := c) w hrd (by omega) hc e1
    have hgl : g < w.heap.size := (h.lt g rfl).2
    have hgg : g0 ≠ g := fun e => hg (by rw [e]; rfl)
    have HD := hide hd
    have HL := hide hll
    have HK := hide hk
    have HR := hide hr
    have HC := hide hc
    clear h hrd hc hg hr e1 e2 hll hd hk
    go_enter Try.func21, Try.ntmps21
    have hkn : ((k : Int) == -1) = false := by rw [beq_eq_false_iff_ne]; omega
    have hkk : k < 100 := by have := HL.out; have := HK.out; omega
    go_wp2_with (go_at_call 55; refine hI.mono ?_; rintro e w1 ⟨rfl, hB1⟩)
    go_loopw [5, 6, 7] (fun iv jv _ wr => ∃ a b : Nat, a < b ∧ b ≤ n ∧ iv = .int .i64 a ∧ jv = .int .i64 b ∧ Hid (DelAt l s n c g a b wr) ∧ w.grownBy wr (some g)) (fun _ jv _ _ => n - (intOf jv).toNat)
    case atStart =>
      have := HL.out
      have := HK.out
      exact ⟨k, k + 1, by omega, by omega, rfl, by go_num, hide (HD.out.on hB1), grown_on (World.grownBy.refl _ _) hB1⟩
    case round =>
      obtain ⟨a, b, hab, hbn, rfl, rfl, HDA, hgr⟩ := hrel
      have HG := hide hgr
      have hc1 : wr.cell? ⟨g0, 0, none⟩ = some (.int .i64 s) := hgr.cell HC.out (fun e => hgg (Option.some.inj e))
      have hsz := hgr.size
      clear hgr
      by_cases hlt : b < n
      · obtain ⟨x, hx⟩ : ∃ x, l[b]? = some x := ⟨_, List.getElem?_eq_getElem (by have := HL.out; omega)⟩
        have HE : Hid (∀ j v, [Value.int .i64 x.slot, .int .i64 x.ino, .string ⟨x.name.toArray⟩][j]? = some v → wr.cell? ⟨g, b * 3 + j, none⟩ = some v) := hide (HDA.out.entry hx)
        have HX := hide hx
        obtain ⟨hr1, hb1, hs1⟩ := rows1 wr [.int .i64 x.slot, .int .i64 x.ino, .string ⟨x.name.toArray⟩] 23
        have HR1 := hide hr1
        have HB1 := hide hb1
        have hc2 : (wr.alloc (.cells #[.int .i64 x.slot, .int .i64 x.ino, .string ⟨x.name.toArray⟩] 23)).cell? ⟨g0, 0, none⟩ = some (.int .i64 s) := (hb1.cell (p := ⟨g0, 0, none⟩) (show g0 < wr.heap.size by omega)).trans hc1
        have HC2 := hide hc2
        clear hx hr1 hb1 hs1 hc1 hc2
        cases hs : (x.slot == s) with
        | true =>
          have HS := hide hs
          clear hs
          go_wp2_with (first | (with_reducible refine wpList_loadX rfl 23 (.tmp 24) rfl 3 ent_agg ent_size g (b * 3) rfl [Value.int .i64 x.slot, .int .i64 x.ino, .string ⟨x.name.toArray⟩] HE.out len3 ?_) | (with_reducible refine wpList_loadX rfl 23 (.tmp 7) rfl 3 ent_agg ent_size wr.heap.size 0 rfl [Value.int .i64 x.slot, .int .i64 x.ino, .string ⟨x.name.toArray⟩] HR1.out.at0 len3 ?_))
          refine (Del_any _ HC2.out HS.out).mono ?_
          rintro e w2 ⟨rfl, hB2⟩
          have HB2 := hide hB2
          clear hB2
          go_wp2_with fail
          go_roundw
          case rel => exact ⟨a, b + 1, by omega, by omega, rfl, by go_num, hide ((HDA.out.skip HX.out HS.out).on (below_step HB1.out HB2.out)), grown_on HG.out (below_step HB1.out HB2.out)⟩
          case measure => simp [intOf]; omega
        | false =>
          have HS := hide hs
          clear hs
          go_wp2_with (first | (with_reducible refine wpList_loadX rfl 23 (.tmp 24) rfl 3 ent_agg ent_size g (b * 3) rfl [Value.int .i64 x.slot, .int .i64 x.ino, .string ⟨x.name.toArray⟩] HE.out len3 ?_) | (with_reducible refine wpList_loadX rfl 23 (.tmp 7) rfl 3 ent_agg ent_size wr.heap.size 0 rfl [Value.int .i64 x.slot, .int .i64 x.ino, .string ⟨x.name.toArray⟩] HR1.out.at0 len3 ?_))
          refine (Del_any _ HC2.out HS.out).mono ?_
          rintro e w2 ⟨rfl, hB2⟩
          have HB2 := hide hB2
          clear hB2
          obtain ⟨cur, hrow, hcl, hkeep, _⟩ := (HDA.out.on (below_step HB1.out HB2.out)).row
          have HR2 := hide (HR1.out.on HB2.out)
          have HROW := hide hrow
          have HFIT : Hid (a * 3 + 3 ≤ cur.length) := hide (by omega)
          have HONE : Hid (∀ v ∈ [Value.int .i64 x.slot, .int .i64 x.ino, .string ⟨x.name.toArray⟩], v.oneCell' = true) := hide (by intro v hv; simp only [List.mem_cons, List.not_mem_nil, or_false] at hv; rcases hv with rfl | rfl | rfl <;> rfl)
          have HKP := hide hkeep
          clear hrow hcl hkeep
          go_wp2_with (first
            | (with_reducible refine wpList_loadX rfl 23 (.tmp 7) rfl 3 ent_agg ent_size wr.heap.size 0 rfl [Value.int .i64 x.slot, .int .i64 x.ino, .string ⟨x.name.toArray⟩] HR2.out.at0 len3 ?_)
            | ((with_reducible refine wpList_storeC rfl 23 (.tmp 33) (.tmp 32) rfl 3 ent_size g (a * 3) 23 rfl cur [Value.int .i64 x.slot, .int .i64 x.ino, .string ⟨x.name.toArray⟩] rfl HROW.out len3 HFIT.out HONE.out ?_); intro w3 hr3 hg3 _; have HR3 := hide hr3; have HG3 := hide hg3; clear hr3 hg3))
          go_roundw
          case rel => exact ⟨a + 1, b + 1, by omega, by omega, by go_num, by go_num, hide (HKP.out w3 x HX.out HS.out hab hnc HR3.out), grown_t (grown_on HG.out (below_step HB1.out HB2.out)) HG3.out⟩
          case measure => simp [intOf]; omega
      · obtain rfl : b = n := by omega
        obtain ⟨cur, hrow, hcl, _, hend⟩ := HDA.out.row
        obtain ⟨Z, hZ, hclr⟩ := run_clear_ent wr g (a * 3) (b - a) (c - a) 23 cur (by omega) hrow (by omega)
        have HW := hide (hrow.setRow_ (splice cur (a * 3) Z))
        have HEND := hide (hend (wr.setRow g (splice cur (a * 3) Z).toArray) Z (by rw [HL.out]) (by omega) HW.out (by omega))
        clear hrow hcl hend hZ
        go_wp2_with fail
        go_ret
        exact ⟨_, a, c, rfl, by omega, by rw [← HR.out]; exact HEND.out, grown_t HG.out (grownBy_setRow _ _ _)⟩
end Go.Proofs.Ythjjjeolpdekoaa

/- The law EntryBack (layer 8): its walk. -/
namespace Go.Proofs.Ythjjjeolpdekoaa
open Go.RowKit Plain

theorem rde_on {w w' : World} {A : Option Addr} {n : Nat} {l : List EntV} (h : RdE entEn w (Under w.heap.size) A n l) (hb : Below w.heap.size w w') : RdE entEn w' (Under w'.heap.size) A n l := h.mono (D' := Under _) (Kept.of_below hb fun _ h => h) (fun _ h => Nat.lt_of_lt_of_le h hb.size)
set_option maxRecDepth 100000 in
set_option maxHeartbeats 3200000 in
theorem law_EntryBack {A : Option Addr} {n c : Nat} {l : List EntV} (p q : Nat) (hp : p < 256) (hq : q < 256) (w : World) (ha : RdE entEn w (Under w.heap.size) A n l) (hsh : Short l) : Calls Try.prog 4 #[.slice A n c, .int .u8 p, .int .u8 q] w (LawOk w) := by
  have HA := hide ha
  have HSH := hide hsh
  clear ha hsh
  by_cases h1 : 40 < n
  · have hd : decide ((40 : Int) < (n : Int)) = true := by simp; omega
    go_enter Try.func4, Try.ntmps4
    go_wp2_with fail
    refine (awake8_any _).mono ?_
    rintro e w1 ⟨rfl, hbel⟩
    have HBa := hide hbel
    clear hbel
    go_wp2_with fail
    go_ret
    exact LawOk.of HBa.out
  have hd : decide ((40 : Int) < (n : Int)) = false := by simp; omega
  have hn : n ≤ 140737488355328 := by omega
  have hn' := hn
  obtain ⟨K, hK⟩ : ∃ K : Int, K = ((p % 4 : Nat) : Int) := ⟨_, rfl⟩
  obtain ⟨R, hR⟩ : ∃ R : Fin 4, R.1 = q % 4 := ⟨⟨q % 4, by omega⟩, rfl⟩
  obtain ⟨s, hs⟩ : ∃ s : Int, s = K * 4 + (R.1 : Int) := ⟨_, rfl⟩
  have hK0 : 0 ≤ K := by omega
  have hK4 : K < 4 := by omega
  have hR4 := R.2
  have hwp : IntKind.i64.wrap (p : Int) = p := IntWalk.i64_in _ (by omega)
  have hwq : IntKind.i64.wrap (q : Int) = q := IntWalk.i64_in _ (by omega)
  have htp : (p : Int).tmod 4 = K := by rw [Int.tmod_eq_emod_of_nonneg (by omega)]; omega
  have htq : (q : Int).tmod 4 = (R.1 : Int) := by rw [Int.tmod_eq_emod_of_nonneg (by omega)]; omega
  have hwK : IntKind.i64.wrap K = K := IntWalk.i64_in _ (by omega)
  have hwR : IntKind.i64.wrap (R.1 : Int) = (R.1 : Int) := IntWalk.i64_in _ (by omega)
  have hwm : IntKind.i64.wrap (4 * K) = 4 * K := IntWalk.i64_in _ (by omega)
  have hws : IntKind.i64.wrap (4 * K + (R.1 : Int)) = s := by rw [hs, Int.mul_comm 4 K]; exact IntWalk.i64_in _ (by omega)
  have HS := hide hs
  clear hK hR hs
  obtain ⟨b, hb⟩ : ∃ b, blkS l K (List.finRange 4) = b := ⟨_, rfl⟩
  obtain ⟨xs, hxs⟩ : ∃ xs, blkE l K = xs := ⟨_, rfl⟩
  have hpar := parse_blk l K
  rw [hb, hxs] at hpar
  have hclr := parse_clear l K R
  rw [hb, hxs, ← HS.out] at hclr
  have hagain := blk_again l K (List.finRange 4)
  rw [hxs, hb] at hagain
  have HP1 := hide hpar.1
  have HP2 := hide hpar.2
  have HCL := hide hclr
  have HAG := hide hagain
  have HSO : Hid (xs.Pairwise (fun x y => x.slot < y.slot)) := hide (by rw [← hxs]; exact blk_sorted l K)
  have HME : Hid (∀ x ∈ xs, x ∈ l ∧ ∃ j : Fin 4, x.slot = K * 4 + (j.1 : Int)) := hide (by rw [← hxs]; exact fun x hx => ⟨(blk_mem hx).1, (blk_mem hx).2.2⟩)
  have HLE : Hid (xs.length ≤ 4) := hide (by rw [← hxs]; exact blk_len l K)
  have HBL : Hid (blkS l K (List.finRange 4) = b) := hide hb
  clear hb hxs hpar hclr hagain
  go_enter Try.func4, Try.ntmps4
  go_wp2_with fail
  refine (Block_any _ HA.out HSH.out hK0 hK4 hn).mono ?_
  rintro e w1 ⟨A1, c1, rfl, hown, hbel⟩
  rw [HBL.out] at hown
  obtain ⟨gb, cb, rfl, _, _, _, hnc, _, _⟩ := hown.row (by omega)
  have HO1 := hide hown
  have HB1 := hide hbel
  have HA1 := hide (rde_on HA.out hbel)
  clear hown hbel
  go_wp2_with fail
  refine (Parse_c _ HO1.out.bs hnc hK0 hK4 HP1.out HP2.out).mono ?_
  rintro e w2 ⟨X, nx, cx, Y, ny, cy, rfl, hx, hy, hbel⟩
  have hny : ny = 0 := by have := hy.1; rw [intsV_len] at this; simpa using this.symm
  have hxl : xs.length = nx := by have := hx.1; rw [flatE_len] at this; omega
  have hnx : nx ≤ 4 := by rw [← hxl]; exact HLE.out
  subst hny
  have HX2 := hide hx
  have HXL := hide hxl
  have HO2 := hide (HO1.out.below hbel)
  have HB2 := hide (below_step HB1.out hbel)
  have HA2 := hide (rde_on HA1.out hbel)
  clear hx hy hbel HO1 HB1 HA1 hxl
  go_wp2_with fail
  go_loopw [35] (fun iv wr => ∃ k : Nat, k ≤ nx ∧ iv = .int .i64 k ∧ Below w2.heap.size w2 wr) (fun iv _ => nx - (intOf iv).toNat)
  case atStart => exact ⟨0, by omega, rfl, below_self _⟩
  case round =>
    obtain ⟨k, hk, rfl, hbel⟩ := hrel
    by_cases hlt : k < nx
    · obtain ⟨gx, capx, e⟩ := Joins.ownsRow_form HX2.out (by omega)
      cases e
      have hrx := rde_owns (ownsRow_below HX2.out hbel)
      obtain ⟨x, hx⟩ : ∃ x, xs[k]? = some x := ⟨_, List.getElem?_eq_getElem (by have := HXL.out; omega)⟩
      obtain ⟨b', o', e, _, hc⟩ := ent_get hrx hx
      cases e
      obtain ⟨hxl, j4, hj4⟩ := HME.out x (List.mem_of_getElem? hx)
      have hj44 := j4.2
      have hn0 : 0 < n := by rw [← HA.out.len]; exact List.length_pos_of_mem hxl
      have hdv : x.slot.tdiv 4 = K := by rw [Int.tdiv_eq_ediv_of_nonneg (by omega)]; omega
      have HCON : Hid (l.contains x = true) := hide (by simpa using hxl)
      have HC : Hid (∀ j v, ([.int .i64 x.slot, .int .i64 x.ino, .string ⟨x.name.toArray⟩] : List Value)[j]? = some v → wr.cell? ⟨gx, k * 3 + j, none⟩ = some v) := hide (fun j v hv => by have := hc j v hv; rwa [Nat.zero_add] at this)
      obtain ⟨hr1, hb1, hs1⟩ := rows1 wr [.int .i64 x.slot, .int .i64 x.ino, .string ⟨x.name.toArray⟩] 23
      have HBX0 := hide hr1
      have HB90 := hide (hbel.trans (hb1.mono hbel.size))
      have HA90 := hide (rde_on HA2.out (hbel.trans (hb1.mono hbel.size)))
      have hcx0 : (wr.alloc (.cells #[.int .i64 x.slot, .int .i64 x.ino, .string ⟨x.name.toArray⟩] 23)).cell? ⟨wr.heap.size, 0, none⟩ = some (.int .i64 x.slot) := hr1.cell 0
      by_cases h0 : 0 < k
      · obtain ⟨m, hm⟩ : ∃ m, k = m + 1 := ⟨k - 1, by omega⟩
        obtain ⟨y, hy⟩ : ∃ y, xs[m]? = some y := ⟨_, List.getElem?_eq_getElem (by have := HXL.out; omega)⟩
        obtain ⟨b'', o'', e, _, hcy⟩ := ent_get hrx hy
        cases e
        have hyx : y.slot < x.slot := by
          obtain ⟨h1', e1⟩ := List.getElem?_eq_some_iff.1 hx
          obtain ⟨h2', e2⟩ := List.getElem?_eq_some_iff.1 hy
          rw [← e1, ← e2]
          exact List.pairwise_iff_getElem.1 HSO.out m k h2' h1' (by omega)
        have hwm1 : IntKind.i64.wrap ((k : Int) - 1) = (m : Int) := by rw [hm]; rw [IntWalk.i64_in _ (by omega)]; omega
        have hm1 : ((k : Int) - 1) = (m : Int) := by omega
        have hwmm : IntKind.i64.wrap (m : Int) = (m : Int) := IntWalk.i64_in _ (by omega)
        have hmn : m < nx := by omega
        have hge : decide (x.slot ≤ y.slot) = false := by simp; omega
        have hgt : decide ((0 : Int) < (k : Int)) = true := by simp; omega
        have hcy0 : (wr.alloc (.cells #[.int .i64 x.slot, .int .i64 x.ino, .string ⟨x.name.toArray⟩] 23)).cell? ⟨gx, m * 3, none⟩ = some (.int .i64 y.slot) := Lib.cell?_alloc_some _ (by have := hcy 0 _ rfl; simpa using this)
        clear hx hy hc hcy hrx hr1 hb1 hs1 hm hbel hxl hj4
        go_wp2_with ((with_reducible refine wpList_loadX rfl 23 (.tmp 38) rfl 3 ent_agg ent_size gx (k * 3) rfl [.int .i64 x.slot, .int .i64 x.ino, .string ⟨x.name.toArray⟩] HC.out len3 ?_))
        clear HC
        have HBX := HBX0
        have HB9 := HB90
        have HA9 := HA90
        clear HBX0 HB90 HA90
        generalize (wr.alloc (.cells #[.int .i64 x.slot, .int .i64 x.ino, .string ⟨x.name.toArray⟩] 23)) = w9 at *
        generalize wr.heap.size = bx at *
        refine wp_region_G (fun w' => w'.cell? ⟨bx, 0, none⟩ = some (.int .i64 x.slot) ∧ w'.cell? ⟨gx, m * 3, none⟩ = some (.int .i64 y.slot) ∧ Below w9.heap.size w9 w') (.take 0 (.take 1 (.alt 2 (.take 3 (.take 4 (.take 5 (.take 6 (.take 7 (.take 8 (.take 9 (.take 10 (.take 11 (.take 12 (.take 13 (.take 14 (.take 15 (.take 16 (.take 17 (.take 18 (.take 19 (.take 20 (.take 21 (.take 22 (.take 23 (.take 24 (.take 25 .leaf))))))))))))))))))))))) .stop))) (by kernel_rfl) (by kernel_rfl) (by kernel_rfl) (by kernel_rfl) rfl (fun _ _ _ _ _ h => h) ⟨hcx0, hcy0, below_drew (below_self w9)⟩ (fun hHeld => ?_)
        simp only [PT.map, List.getElem?_toArray, List.getElem?_cons_succ, List.getElem?_cons_zero]
        refine wpPT_take (v := ?_) (by kernel_rfl) (fun wS hSw => ?_) ?_
        rotate_left
        · (try dsimp only at hSw); go_simp; (try with_reducible rfl)
        (try simp only [Act.put, List.setIfInBounds_toArray, List.set_cons_zero, List.set_cons_succ])
        refine wpPT_take (v := ?_) (by kernel_rfl) (fun wS hSw => ?_) ?_
        rotate_left
        · refine execOp_load (x := .tmp 12) (k := 3) (g := bx) (off := 0) (cs := [.int .i64 x.slot, .int .i64 x.ino, .string ⟨x.name.toArray⟩]) ?_ ent_agg ent_size ?_ (RowL.at0 (HBX.out.on hSw.2.2)) rfl <;> rfl
        (try simp only [Act.put, List.setIfInBounds_toArray, List.set_cons_zero, List.set_cons_succ])
        refine wpPT_alt (by kernel_rfl) (fun K hK => ?_) ?_
        rotate_left
        · exact wpPT_stop
        have hOld := hide hHeld
        clear hHeld
        go_simp
        go_at_call 19
        refine (Contains_any (r := true) _ ((HA9.out.mono (D' := Under _) (Kept.of_below hOld.out.2.2 fun _ h => h) (fun _ h => Nat.lt_of_lt_of_le h hOld.out.2.2.size))) hn' hn0 HCON.out).mono ?_
        rintro e w' ⟨rfl, hbel⟩
        refine hK.out _ _ (⟨(hbel.cell (p := ⟨bx, 0, none⟩) (World.block_lt_of_cell? _ _ hOld.out.1)).trans hOld.out.1, (hbel.cell (p := ⟨gx, m * 3, none⟩) (World.block_lt_of_cell? _ _ hOld.out.2.1)).trans hOld.out.2.1, hOld.out.2.2.trans (hbel.mono hOld.out.2.2.size)⟩) (fun hHeld => ?_)
        clear hK K
        (try simp only [Act.put, List.setIfInBounds_toArray, List.set_cons_zero, List.set_cons_succ])
        refine wpPT_take (v := ?_) (by kernel_rfl) (fun wS hSw => ?_) ?_
        rotate_left
        · (try dsimp only at hSw); go_simp; (try with_reducible rfl)
        (try simp only [Act.put, List.setIfInBounds_toArray, List.set_cons_zero, List.set_cons_succ])
        refine wpPT_take (v := ?_) (by kernel_rfl) (fun wS hSw => ?_) ?_
        rotate_left
        · (try dsimp only at hSw); go_simp; (try with_reducible rfl)
        (try simp only [Act.put, List.setIfInBounds_toArray, List.set_cons_zero, List.set_cons_succ])
        refine wpPT_take (v := ?_) (by kernel_rfl) (fun wS hSw => ?_) ?_
        rotate_left
        · (try dsimp only at hSw); go_simp; (try with_reducible rfl)
        (try simp only [Act.put, List.setIfInBounds_toArray, List.set_cons_zero, List.set_cons_succ])
        refine wpPT_take (v := ?_) (by kernel_rfl) (fun wS hSw => ?_) ?_
        rotate_left
        · (try dsimp only at hSw); go_simp; (try with_reducible rfl)
        (try simp only [Act.put, List.setIfInBounds_toArray, List.set_cons_zero, List.set_cons_succ])
        refine wpPT_take (v := ?_) (by kernel_rfl) (fun wS hSw => ?_) ?_
        rotate_left
        · (try dsimp only at hSw); go_simp; (try with_reducible rfl)
        (try simp only [Act.put, List.setIfInBounds_toArray, List.set_cons_zero, List.set_cons_succ])
        refine wpPT_take (v := ?_) (by kernel_rfl) (fun wS hSw => ?_) ?_
        rotate_left
        · (try dsimp only at hSw); go_simp; (try with_reducible rfl)
        (try simp only [Act.put, List.setIfInBounds_toArray, List.set_cons_zero, List.set_cons_succ])
        refine wpPT_take (v := ?_) (by kernel_rfl) (fun wS hSw => ?_) ?_
        rotate_left
        · (try dsimp only at hSw); go_simp; (try with_reducible rfl)
        (try simp only [Act.put, List.setIfInBounds_toArray, List.set_cons_zero, List.set_cons_succ])
        refine wpPT_take (v := ?_) (by kernel_rfl) (fun wS hSw => ?_) ?_
        rotate_left
        · (try dsimp only at hSw); go_simp; (try with_reducible rfl)
        (try simp only [Act.put, List.setIfInBounds_toArray, List.set_cons_zero, List.set_cons_succ])
        refine wpPT_take (v := ?_) (by kernel_rfl) (fun wS hSw => ?_) ?_
        rotate_left
        · (try dsimp only at hSw); go_simp; (try with_reducible rfl)
        (try simp only [Act.put, List.setIfInBounds_toArray, List.set_cons_zero, List.set_cons_succ])
        refine wpPT_take (v := ?_) (by kernel_rfl) (fun wS hSw => ?_) ?_
        rotate_left
        · (try dsimp only at hSw); go_simp; (try with_reducible rfl)
        (try simp only [Act.put, List.setIfInBounds_toArray, List.set_cons_zero, List.set_cons_succ])
        refine wpPT_take (v := ?_) (by kernel_rfl) (fun wS hSw => ?_) ?_
        rotate_left
        · (try dsimp only at hSw); go_simp; (try with_reducible rfl)
        (try simp only [Act.put, List.setIfInBounds_toArray, List.set_cons_zero, List.set_cons_succ])
        refine wpPT_take (v := ?_) (by kernel_rfl) (fun wS hSw => ?_) ?_
        rotate_left
        · (try dsimp only at hSw); go_simp; (try with_reducible rfl)
        (try simp only [Act.put, List.setIfInBounds_toArray, List.set_cons_zero, List.set_cons_succ])
        refine wpPT_take (v := ?_) (by kernel_rfl) (fun wS hSw => ?_) ?_
        rotate_left
        · (try dsimp only at hSw); go_simp; (try with_reducible rfl)
        (try simp only [Act.put, List.setIfInBounds_toArray, List.set_cons_zero, List.set_cons_succ])
        refine wpPT_take (v := ?_) (by kernel_rfl) (fun wS hSw => ?_) ?_
        rotate_left
        · (try dsimp only at hSw); go_simp; (try with_reducible rfl)
        (try simp only [Act.put, List.setIfInBounds_toArray, List.set_cons_zero, List.set_cons_succ])
        refine wpPT_take (v := ?_) (by kernel_rfl) (fun wS hSw => ?_) ?_
        rotate_left
        · (try dsimp only at hSw); go_simp; (try with_reducible rfl)
        (try simp only [Act.put, List.setIfInBounds_toArray, List.set_cons_zero, List.set_cons_succ])
        refine wpPT_take (v := ?_) (by kernel_rfl) (fun wS hSw => ?_) ?_
        rotate_left
        · (try dsimp only at hSw); go_simp; (try with_reducible rfl)
        (try simp only [Act.put, List.setIfInBounds_toArray, List.set_cons_zero, List.set_cons_succ])
        refine wpPT_take (v := ?_) (by kernel_rfl) (fun wS hSw => ?_) ?_
        rotate_left
        · (try dsimp only at hSw); go_simp; (try with_reducible rfl)
        (try simp only [Act.put, List.setIfInBounds_toArray, List.set_cons_zero, List.set_cons_succ])
        refine wpPT_take (v := ?_) (by kernel_rfl) (fun wS hSw => ?_) ?_
        rotate_left
        · (try dsimp only at hSw); go_simp; (try with_reducible rfl)
        (try simp only [Act.put, List.setIfInBounds_toArray, List.set_cons_zero, List.set_cons_succ])
        refine wpPT_take (v := ?_) (by kernel_rfl) (fun wS hSw => ?_) ?_
        rotate_left
        · (try dsimp only at hSw); go_simp; (try with_reducible rfl)
        (try simp only [Act.put, List.setIfInBounds_toArray, List.set_cons_zero, List.set_cons_succ])
        refine wpPT_take (v := ?_) (by kernel_rfl) (fun wS hSw => ?_) ?_
        rotate_left
        · (try dsimp only at hSw); go_simp; (try with_reducible rfl)
        (try simp only [Act.put, List.setIfInBounds_toArray, List.set_cons_zero, List.set_cons_succ])
        refine wpPT_take (v := ?_) (by kernel_rfl) (fun wS hSw => ?_) ?_
        rotate_left
        · (try dsimp only at hSw); go_simp; (try with_reducible rfl)
        (try simp only [Act.put, List.setIfInBounds_toArray, List.set_cons_zero, List.set_cons_succ])
        refine wpPT_take (v := ?_) (by kernel_rfl) (fun wS hSw => ?_) ?_
        rotate_left
        · (try dsimp only at hSw); go_simp; (try with_reducible rfl)
        (try simp only [Act.put, List.setIfInBounds_toArray, List.set_cons_zero, List.set_cons_succ])
        refine wpPT_take (v := ?_) (by kernel_rfl) (fun wS hSw => ?_) ?_
        rotate_left
        · (try dsimp only at hSw); go_simp; (try with_reducible rfl)
        (try simp only [Act.put, List.setIfInBounds_toArray, List.set_cons_zero, List.set_cons_succ])
        refine wpPT_leaf ?_
        skip
        have HBF := hide (HB9.out.trans (hHeld.2.2.mono HB9.out.size))
        clear hHeld
        go_wp2_with fail
        go_roundw
        case rel => exact ⟨k + 1, by omega, by go_num, HBF.out⟩
        case measure => simp [intOf]; omega
      · have hgt : decide ((0 : Int) < (k : Int)) = false := by simp; omega
        have h0' : ¬ (0 : Int) < (k : Int) := by omega
        clear hx hc hrx hr1 hb1 hs1 hbel hxl hj4
        go_wp2_with ((with_reducible refine wpList_loadX rfl 23 (.tmp 38) rfl 3 ent_agg ent_size gx (k * 3) rfl [.int .i64 x.slot, .int .i64 x.ino, .string ⟨x.name.toArray⟩] HC.out len3 ?_))
        clear HC
        have HBX := HBX0
        have HB9 := HB90
        have HA9 := HA90
        clear HBX0 HB90 HA90
        generalize (wr.alloc (.cells #[.int .i64 x.slot, .int .i64 x.ino, .string ⟨x.name.toArray⟩] 23)) = w9 at *
        generalize wr.heap.size = bx at *
        refine wp_region_G (fun w' => w'.cell? ⟨bx, 0, none⟩ = some (.int .i64 x.slot) ∧ Below w9.heap.size w9 w') (.take 0 (.take 1 (.alt 2 (.take 3 (.take 4 (.take 5 (.take 6 (.take 7 (.take 8 (.take 9 (.take 10 (.take 11 (.take 12 (.take 13 (.take 14 (.take 15 (.take 16 (.take 17 (.take 18 (.take 19 (.take 20 (.take 21 (.take 22 (.take 23 (.take 24 (.take 25 .leaf))))))))))))))))))))))) .stop))) (by kernel_rfl) (by kernel_rfl) (by kernel_rfl) (by kernel_rfl) rfl (fun _ _ _ _ _ h => h) ⟨hcx0, below_drew (below_self w9)⟩ (fun hHeld => ?_)
        simp only [PT.map, List.getElem?_toArray, List.getElem?_cons_succ, List.getElem?_cons_zero]
        refine wpPT_take (v := ?_) (by kernel_rfl) (fun wS hSw => ?_) ?_
        rotate_left
        · (try dsimp only at hSw); go_simp; (try with_reducible rfl)
        (try simp only [Act.put, List.setIfInBounds_toArray, List.set_cons_zero, List.set_cons_succ])
        refine wpPT_take (v := ?_) (by kernel_rfl) (fun wS hSw => ?_) ?_
        rotate_left
        · refine execOp_load (x := .tmp 12) (k := 3) (g := bx) (off := 0) (cs := [.int .i64 x.slot, .int .i64 x.ino, .string ⟨x.name.toArray⟩]) ?_ ent_agg ent_size ?_ (RowL.at0 (HBX.out.on hSw.2)) rfl <;> rfl
        (try simp only [Act.put, List.setIfInBounds_toArray, List.set_cons_zero, List.set_cons_succ])
        refine wpPT_alt (by kernel_rfl) (fun K hK => ?_) ?_
        rotate_left
        · exact wpPT_stop
        have hOld := hide hHeld
        clear hHeld
        go_simp
        go_at_call 19
        refine (Contains_any (r := true) _ ((HA9.out.mono (D' := Under _) (Kept.of_below hOld.out.2 fun _ h => h) (fun _ h => Nat.lt_of_lt_of_le h hOld.out.2.size))) hn' hn0 HCON.out).mono ?_
        rintro e w' ⟨rfl, hbel⟩
        refine hK.out _ _ (⟨(hbel.cell (p := ⟨bx, 0, none⟩) (World.block_lt_of_cell? _ _ hOld.out.1)).trans hOld.out.1, hOld.out.2.trans (hbel.mono hOld.out.2.size)⟩) (fun hHeld => ?_)
        clear hK K
        (try simp only [Act.put, List.setIfInBounds_toArray, List.set_cons_zero, List.set_cons_succ])
        refine wpPT_take (v := ?_) (by kernel_rfl) (fun wS hSw => ?_) ?_
        rotate_left
        · (try dsimp only at hSw); go_simp; (try with_reducible rfl)
        (try simp only [Act.put, List.setIfInBounds_toArray, List.set_cons_zero, List.set_cons_succ])
        refine wpPT_take (v := ?_) (by kernel_rfl) (fun wS hSw => ?_) ?_
        rotate_left
        · (try dsimp only at hSw); go_simp; (try with_reducible rfl)
        (try simp only [Act.put, List.setIfInBounds_toArray, List.set_cons_zero, List.set_cons_succ])
        refine wpPT_take (v := ?_) (by kernel_rfl) (fun wS hSw => ?_) ?_
        rotate_left
        · (try dsimp only at hSw); go_simp; (try with_reducible rfl)
        (try simp only [Act.put, List.setIfInBounds_toArray, List.set_cons_zero, List.set_cons_succ])
        refine wpPT_take (v := ?_) (by kernel_rfl) (fun wS hSw => ?_) ?_
        rotate_left
        · (try dsimp only at hSw); go_simp; (try with_reducible rfl)
        (try simp only [Act.put, List.setIfInBounds_toArray, List.set_cons_zero, List.set_cons_succ])
        refine wpPT_take (v := ?_) (by kernel_rfl) (fun wS hSw => ?_) ?_
        rotate_left
        · (try dsimp only at hSw); go_simp; (try with_reducible rfl)
        (try simp only [Act.put, List.setIfInBounds_toArray, List.set_cons_zero, List.set_cons_succ])
        refine wpPT_skip (by kernel_rfl) ?_
        (try simp only [Act.put, List.setIfInBounds_toArray, List.set_cons_zero, List.set_cons_succ])
        refine wpPT_skip (by kernel_rfl) ?_
        (try simp only [Act.put, List.setIfInBounds_toArray, List.set_cons_zero, List.set_cons_succ])
        refine wpPT_skip (by kernel_rfl) ?_
        (try simp only [Act.put, List.setIfInBounds_toArray, List.set_cons_zero, List.set_cons_succ])
        refine wpPT_skip (by kernel_rfl) ?_
        (try simp only [Act.put, List.setIfInBounds_toArray, List.set_cons_zero, List.set_cons_succ])
        refine wpPT_skip (by kernel_rfl) ?_
        (try simp only [Act.put, List.setIfInBounds_toArray, List.set_cons_zero, List.set_cons_succ])
        refine wpPT_skip (by kernel_rfl) ?_
        (try simp only [Act.put, List.setIfInBounds_toArray, List.set_cons_zero, List.set_cons_succ])
        refine wpPT_skip (by kernel_rfl) ?_
        (try simp only [Act.put, List.setIfInBounds_toArray, List.set_cons_zero, List.set_cons_succ])
        refine wpPT_skip (by kernel_rfl) ?_
        (try simp only [Act.put, List.setIfInBounds_toArray, List.set_cons_zero, List.set_cons_succ])
        refine wpPT_skip (by kernel_rfl) ?_
        (try simp only [Act.put, List.setIfInBounds_toArray, List.set_cons_zero, List.set_cons_succ])
        refine wpPT_take (v := ?_) (by kernel_rfl) (fun wS hSw => ?_) ?_
        rotate_left
        · (try dsimp only at hSw); go_simp; (try with_reducible rfl)
        (try simp only [Act.put, List.setIfInBounds_toArray, List.set_cons_zero, List.set_cons_succ])
        refine wpPT_take (v := ?_) (by kernel_rfl) (fun wS hSw => ?_) ?_
        rotate_left
        · (try dsimp only at hSw); go_simp; (try with_reducible rfl)
        (try simp only [Act.put, List.setIfInBounds_toArray, List.set_cons_zero, List.set_cons_succ])
        refine wpPT_take (v := ?_) (by kernel_rfl) (fun wS hSw => ?_) ?_
        rotate_left
        · (try dsimp only at hSw); go_simp; (try with_reducible rfl)
        (try simp only [Act.put, List.setIfInBounds_toArray, List.set_cons_zero, List.set_cons_succ])
        refine wpPT_take (v := ?_) (by kernel_rfl) (fun wS hSw => ?_) ?_
        rotate_left
        · (try dsimp only at hSw); go_simp; (try with_reducible rfl)
        (try simp only [Act.put, List.setIfInBounds_toArray, List.set_cons_zero, List.set_cons_succ])
        refine wpPT_take (v := ?_) (by kernel_rfl) (fun wS hSw => ?_) ?_
        rotate_left
        · (try dsimp only at hSw); go_simp; (try with_reducible rfl)
        (try simp only [Act.put, List.setIfInBounds_toArray, List.set_cons_zero, List.set_cons_succ])
        refine wpPT_take (v := ?_) (by kernel_rfl) (fun wS hSw => ?_) ?_
        rotate_left
        · (try dsimp only at hSw); go_simp; (try with_reducible rfl)
        (try simp only [Act.put, List.setIfInBounds_toArray, List.set_cons_zero, List.set_cons_succ])
        refine wpPT_take (v := ?_) (by kernel_rfl) (fun wS hSw => ?_) ?_
        rotate_left
        · (try dsimp only at hSw); go_simp; (try with_reducible rfl)
        (try simp only [Act.put, List.setIfInBounds_toArray, List.set_cons_zero, List.set_cons_succ])
        refine wpPT_take (v := ?_) (by kernel_rfl) (fun wS hSw => ?_) ?_
        rotate_left
        · (try dsimp only at hSw); go_simp; (try with_reducible rfl)
        (try simp only [Act.put, List.setIfInBounds_toArray, List.set_cons_zero, List.set_cons_succ])
        refine wpPT_take (v := ?_) (by kernel_rfl) (fun wS hSw => ?_) ?_
        rotate_left
        · (try dsimp only at hSw); go_simp; (try with_reducible rfl)
        (try simp only [Act.put, List.setIfInBounds_toArray, List.set_cons_zero, List.set_cons_succ])
        refine wpPT_leaf ?_
        skip
        have HBF := hide (HB9.out.trans (hHeld.2.mono HB9.out.size))
        clear hHeld
        go_wp2_with fail
        go_roundw
        case rel => exact ⟨k + 1, by omega, by go_num, HBF.out⟩
        case measure => simp [intOf]; omega
    · obtain rfl : k = nx := by omega
      have HX3 := hide (ownsRow_below HX2.out hbel)
      have HO3 := hide (HO2.out.below hbel)
      have HB3 := hide (below_step HB2.out hbel)
      have HA3 := hide (rde_on HA2.out hbel)
      obtain ⟨hr1, hb1, hs1⟩ := rows1 wr [.int .i64 s] 3
      have HX4 := hide (ownsRow_below HX3.out hb1)
      have HO4 := hide (HO3.out.below hb1)
      have HB4 := hide (below_step HB3.out hb1)
      have hc4 : (wr.alloc (.cells #[.int .i64 s] 3)).cell? ⟨wr.heap.size, 0, none⟩ = some (.int .i64 s) := hr1.cell 0
      have HR4 := hide hr1
      clear hr1 hb1 hs1 hbel HX2 HO2 HB2 HA2 HX3 HO3 HB3 HA3
      go_wp2_with fail
      generalize (wr.alloc (.cells #[.int .i64 s] 3)) = w4 at *
      generalize wr.heap.size = g4 at *
      refine (Clear_any (k := K) (r := R) _ HO4.out.bs hK0 hK4 HS.out).mono ?_
      rintro e w5 ⟨A5, c5, rfl, hown, hbel⟩
      obtain ⟨g5, cb5, rfl, _, _, _, hnc5, _, _⟩ := hown.row (by omega)
      have HC5 := hide hown
      have HX5 := hide (ownsRow_below HX4.out hbel)
      have HO5 := hide (HO4.out.below hbel)
      have HB5 := hide (below_step HB4.out hbel)
      have HR5 := hide (HR4.out.on hbel)
      clear hc4 hown hbel HX4 HO4 HB4 HR4
      go_wp2_with fail
      refine (Parse_c _ HC5.out.bs hnc5 hK0 hK4 HCL.out rfl).mono ?_
      rintro e w6 ⟨V, nv, cv, V2, nv2, cv2, rfl, hv, _, hbel⟩
      have hvl := hv.1
      rw [flatE_len] at hvl
      have hvle : nv ≤ 4 := by have := List.length_filter_le (fun x : EntV => !(x.slot == s)) xs; have := HXL.out; omega
      have HV6 := hide hv
      have HX6 := hide (ownsRow_below HX5.out hbel)
      have HO6 := hide (HO5.out.below hbel)
      have HB6 := hide (below_step HB5.out hbel)
      have HR6 := hide (HR5.out.on hbel)
      clear hv hvl hbel HX5 HO5 HB5 HR5 HC5
      go_wp2_with fail
      refine (CloneE_any _ HX6.out (by omega)).mono ?_
      rintro e w7 ⟨v7, rfl, hv7, hbel⟩
      obtain ⟨A7, c7, rfl⟩ := owns_slice hv7
      have hc7 : w7.cell? ⟨g4, 0, none⟩ = some (.int .i64 s) := (HR6.out.on hbel).cell 0
      have hg4 : g4 < w6.heap.size := HR6.out.lt
      have hne : (Value.slice A7 k c7).ownBlock ≠ some g4 := fun e => by have := (hv7.lt g4 e).1; omega
      have H7 := hide hv7
      have HL7 := hide hbel
      clear hv7 hbel HR6
      go_wp2_with fail
      refine (DeleteF_any _ H7.out (by omega) hc7 hne rfl).mono ?_
      rintro e w8 ⟨A8, m8, c8, rfl, hm8, hrd, hgr⟩
      have h68 : Below w6.heap.size w6 w8 := HL7.out.grown hgr HL7.out.size (fun g hg => (H7.out.lt g hg).1)
      have HV8 := hide (rde_owns (ownsRow_below HV6.out h68))
      have HR8 := hide hrd
      have HX8 := hide (ownsRow_below HX6.out h68)
      have HO8 := hide (HO6.out.below h68)
      have HB8 := hide (below_step HB6.out h68)
      have HSX : Hid (Short xs) := hide (fun x hx => HSH.out x (HME.out x hx).1)
      clear hc7 hrd hgr h68 H7 HL7 HV6 HX6 HO6 HB6
      go_wp2_with fail
      refine (EqualE_c (b := true) _ HV8.out HR8.out (by omega) (by simp)).mono ?_
      rintro e w9 ⟨rfl, hbel⟩
      have HX9 := hide (ownsRow_below HX8.out hbel)
      have HO9 := hide (HO8.out.below hbel)
      have HB9 := hide (below_step HB8.out hbel)
      clear hbel HX8 HO8 HB8 HV8 HR8
      go_wp2_with fail
      refine (Block_any _ (rde_owns HX9.out) HSX.out hK0 hK4 (by omega)).mono ?_
      rintro e wa ⟨Aa, ca, rfl, hown, hbel⟩
      rw [HAG.out] at hown
      have HNa := hide hown
      have HOa := hide (HO9.out.below hbel)
      have HBa := hide (below_step HB9.out hbel)
      clear hbel hown HX9 HO9 HB9
      go_wp2_with fail
      refine (BEqual_b (b := true) _ HNa.out.bs HOa.out.bs (by simp)).mono ?_
      rintro e wb ⟨rfl, rfl⟩
      go_wp2_with fail
      refine (awake8_any _).mono ?_
      rintro e wc ⟨rfl, hbel⟩
      have HBc := hide (below_step HBa.out hbel)
      clear hbel
      go_wp2_with fail
      go_ret
      exact LawOk.of HBc.out
end Go.Proofs.Ythjjjeolpdekoaa

