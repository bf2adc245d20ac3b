/- claim: Owner (layer 11). -/
import Derived.Test.YtnllbdigpnopoaaClaF
import Derived.BigQuiet
import Derived.Deep.QuietTactic
namespace Go.Proofs.Ytnllbdigpnopoaa
open Go.RowKit Go.Shelf Plain
attribute [local go_sem] Oper.semAt_some

/-- A place's cells. -/
def placeC (r : Option Nat) : List Value := [.int .i64 (ownI r), .int .i64 (ownK r)]
theorem noGoto_n {Q : Exit → Act → World → Prop} {a : Act} {w : World} (h : Q .normal a w) : Exit.noGoto Q .normal a w := h
theorem noGoto_r {Q : Exit → Act → World → Prop} {a : Act} {w : World} (h : Q .ret a w) : Exit.noGoto Q .ret a w := h
theorem wpIn_scope_wide {n : Nat} {P : Program} {c : Code} {Q : Exit → Act → World → Prop} {a : Act} {w : World} (h : c.wpIn Fence.wide n P (Exit.noGoto Q) a w) : (Code.scope c).wpIn Fence.wide n P Q a w :=
  wpIn_wide.2 (wp_scope_straight (wpIn_wide.1 h))
theorem inoC_one (x : InoV) : ∀ v ∈ inoC x, v.oneCell' = true := by simp [inoC, Value.oneCell']
theorem own_first {l : List InoV} {m b : Int} {j x : Nat} {y : InoV} (hy : l[j]? = some y) (hb : 0 ≤ b ∧ b < m) (HN : ∀ q, q < 5 * j → ownQ (flatP l) m b ≠ some q) (hx : x < 5) (h1 : ptr y x = b + 1) (h2 : ∀ z, z < x → ptr y z ≠ b + 1) : ownQ (flatP l) m b = some (5 * j + x) := by
  have hp := flatP_ptr hy hx
  rw [h1] at hp
  cases hq : ownQ (flatP l) m b with
  | none => exact absurd hp (ownQ_none.1 hq hb _)
  | some q =>
    obtain ⟨-, h3, h4⟩ := ownQ_some.1 hq
    have h5 : ¬ 5 * j + x < q := fun h => h4 _ h hp
    have h6 : ¬ q < 5 * j := fun h => HN q h hq
    obtain ⟨z, rfl⟩ : ∃ z, q = 5 * j + z := ⟨q - 5 * j, by omega⟩
    have hz := flatP_ptr hy (show z < 5 by omega)
    rw [h3] at hz
    have hz := Option.some.inj hz
    have : ¬ z < x := fun h => h2 z h hz.symm
    congr 1
    omega
theorem own_row {l : List InoV} {m b : Int} {j : Nat} {y : InoV} (hy : l[j]? = some y) (HN : ∀ q, q < 5 * j → ownQ (flatP l) m b ≠ some q) (h2 : ∀ z, z < 5 → ptr y z ≠ b + 1) : ∀ q, q < 5 * (j + 1) → ownQ (flatP l) m b ≠ some q := by
  intro q hq
  by_cases h : q < 5 * j
  · exact HN q h
  · obtain ⟨z, rfl⟩ : ∃ z, q = 5 * j + z := ⟨q - 5 * j, by omega⟩
    intro e
    have h3 := (ownQ_some.1 e).2.1
    have hz := flatP_ptr hy (show z < 5 by omega)
    rw [h3] at hz
    exact h2 z (by omega) (Option.some.inj hz).symm
theorem pre5 {pre : List (Fin 5)} {x : Fin 5} (h : pre ++ [x] <+: List.finRange 5) : ∀ z, z < x.1 → ∃ f : Fin 5, f ∈ pre ∧ f.1 = z := by
  obtain ⟨t, ht⟩ := h
  have hl : pre.length < 5 := by have := congrArg List.length ht; simp at this; omega
  have hg : ∀ i (hi : i < 5), (pre ++ [x] ++ t)[i]? = some (⟨i, hi⟩ : Fin 5) := by
    intro i hi
    rw [ht, List.getElem?_eq_getElem (by simpa using hi)]
    simp
  have hx : x.1 = pre.length := by
    have := hg pre.length hl
    simp at this
    rw [this]
  intro z hz
  have h1 := hg z (by omega)
  rw [List.append_assoc, List.getElem?_append_left (by omega)] at h1
  exact ⟨⟨z, by omega⟩, List.mem_of_getElem? h1, rfl⟩
theorem quietL {P : Program} {C : World → Prop} {o : Oper} {a : Act} {K : Act → Prop} (T : Nat) (x : Operand) (ho : o.op = .load T x) (p v : Value) (hx : a.eval x = p) (hl : ∀ w, C w → (Instr.loadAt T p).run P w = .ok v w) (hk : K (a.put o.dst v)) : o.quiet P a C K :=
  ⟨v, fun w hw => by
    unfold Oper.quietAt execOp
    simp only [ho, Sem.run_bind, Sem.run_pure, Result.andThen_ok, hx, hl w hw]
    exact ⟨rfl, rfl⟩, hk⟩
theorem place_agg : ∀ w, (isAgg 41).run Try.prog w = .ok true w := fun w => by kernel_rfl
theorem place_size : ∀ w, (Go.sizeOf 41).run Try.prog w = .ok 2 w := fun w => by kernel_rfl
theorem own_early {l : List InoV} {m b : Int} (h : b < 0 ∨ m ≤ b) : ownQ (flatP l) m b = none := by unfold ownQ; rw [if_neg (by omega)]
theorem neq_place (r : Option Nat) (W : World) : (binOp .neq 41 (.agg #[.int .i64 (ownI r), .int .i64 (ownK r)]) (.agg #[.int .i64 0, .int .i64 0])).run Try.prog W = .ok (.bool r.isSome) W := by
  cases r with
  | none => simp [ownI, ownK, go_sem]
  | some q =>
    have h : ¬ ((q / 5 + 1 : Nat) : Int) = 0 := by omega
    simp [ownI, ownK, go_sem]
    omega
set_option maxRecDepth 100000 in
set_option maxHeartbeats 1000000 in
theorem Owner_any {A : Option Addr} {n c : Nat} {l : List InoV} {m b : Int} (w : World) (h : RdE inoEn w (Under w.heap.size) A n l) (hn : n ≤ 100) (hm : w64 m) (hb : w64 b) : Calls Try.prog 7 #[.slice A n c, .int .i64 m, .int .i64 b] w (VRet w (ownV (ownQ (flatP l) m b))) := by
  by_cases h1 : b < 0
  · have HE := hide (own_early (l := l) (m := m) (.inl h1))
    rw [HE.out]
    refine (callsIn_wide (n := 3)).1 ?_
    refine callsIn_of_wp_marks Try.func7 rfl trivial ?_ rfl
    simp only [Try.ntmps7, List.size_toArray, List.length_cons, List.length_nil, Nat.reduceAdd, Nat.reduceSub, Array.replicate_succ, Array.replicate_zero, List.push_toArray, List.append_toArray, List.nil_append, List.cons_append]
    clear h hm hb
    gi_wp2
    refine wpIn_scope_wide ?_
    gi_wp2
    refine noGoto_r ?_
    exact ⟨.tuple #[.int .i64 0, .int .i64 0, .bool false], by simp [results, Try.results7, go_sem], VRet.of (below_new (below_self w) _)⟩
  have d1 : decide (b < 0) = false := by simpa using h1
  by_cases h2 : m ≤ b
  · have HE := hide (own_early (l := l) (m := m) (.inr h2))
    rw [HE.out]
    refine (callsIn_wide (n := 3)).1 ?_
    refine callsIn_of_wp_marks Try.func7 rfl trivial ?_ rfl
    simp only [Try.ntmps7, List.size_toArray, List.length_cons, List.length_nil, Nat.reduceAdd, Nat.reduceSub, Array.replicate_succ, Array.replicate_zero, List.push_toArray, List.append_toArray, List.nil_append, List.cons_append]
    clear h hm hb
    gi_wp2
    refine wpIn_scope_wide ?_
    gi_wp2
    refine noGoto_r ?_
    exact ⟨.tuple #[.int .i64 0, .int .i64 0, .bool false], by simp [results, Try.results7, go_sem], VRet.of (below_new (below_self w) _)⟩
  have d2 : decide (m ≤ b) = false := by simpa using h2
  have HLEN := hide h.len
  have H := hide h
  unfold w64 at hm hb
  have hb1 : b ≤ 9223372036854775806 := by omega
  have hb0 : 0 ≤ b := by omega
  have hbm : b < m := by omega
  obtain ⟨r, hr⟩ : ∃ r, ownQ (flatP l) m b = r := ⟨_, rfl⟩
  rw [hr]
  have HR := hide hr
  clear h hr hm hb
  refine (callsIn_wide (n := 5)).1 ?_
  refine callsIn_of_wp_marks Try.func7 rfl trivial ?_ rfl
  simp only [Try.ntmps7, List.size_toArray, List.length_cons, List.length_nil, Nat.reduceAdd, Nat.reduceSub, Array.replicate_succ, Array.replicate_zero, List.push_toArray, List.append_toArray, List.nil_append, List.cons_append]
  gi_wp2
  refine wpIn_scope_wide ?_
  gi_wp2
  refine wpIn_label ?_
  gi_wp2
  obtain ⟨R0, R1, HB, hs2⟩ := rows2 w [.int .i64 b] [.int .i64 0, .int .i64 0] 3 41
  obtain ⟨W2, hW2⟩ : ∃ W2, (w.alloc (.cells [Value.int .i64 b].toArray 3)).alloc (.cells [Value.int .i64 0, .int .i64 0].toArray 41) = W2 := ⟨_, rfl⟩
  rw [hW2] at R0 R1 HB hs2
  have hW2' : (w.alloc (.cells #[Value.int .i64 b] 3)).alloc (.cells #[Value.int .i64 0, .int .i64 0] 41) = W2 := hW2
  rw [hW2']
  clear hW2 hW2'
  rename_i K2 hK2
  have KEY0 : ∀ a' w', (fun a' w' => ∃ (Ds : List Nat) (u2 u3 u4 u6 u7 u8 u10 u11 u12 u13 u14 u15 u16 u17 u18 u19 u20 u23 u24 u25 u26 u27 u28 u29 u30 u31 u32 u33 u34 u35 u36 u37 u38 u39 u40 u41 u42 u43 u44 u45 u46 u47 : Value), Below w.heap.size w w' ∧ RowL w' (w.heap.size + 1) 41 (placeC r) ∧ Marks (w.heap.size + 2) Ds w' ∧ a' = { tmps := #[Value.slice A n c, Value.int .i64 m, u2, u3, u4, Value.pointer (some ⟨w.heap.size, 0, none⟩), u6, u7, u8, Value.pointer (some ⟨w.heap.size + 1, 0, none⟩), u10, u11, u12, u13, u14, u15, u16, u17, u18, u19, u20, Value.slice A n c, Value.int .i64 n, u23, u24, u25, u26, u27, u28, u29, u30, u31, u32, u33, u34, u35, u36, u37, u38, u39, u40, u41, u42, u43, u44, u45, u46, u47], defers := Ds.map markD }) a' w' → K2 a' w' := by
    rintro a' w' ⟨Ds, u2, u3, u4, u6, u7, u8, u10, u11, u12, u13, u14, u15, u16, u17, u18, u19, u20, u23, u24, u25, u26, u27, u28, u29, u30, u31, u32, u33, u34, u35, u36, u37, u38, u39, u40, u41, u42, u43, u44, u45, u46, u47, hbel, hrow, hmk, rfl⟩
    refine hK2 _ _ ?_
    have hc0 : w'.cell? ⟨w.heap.size + 1, 0, none⟩ = some (.int .i64 (ownI r)) := hrow.cell 0
    have hc1 : w'.cell? ⟨w.heap.size + 1, 1, none⟩ = some (.int .i64 (ownK r)) := hrow.cell 1
    have hne := fun W => neq_place r W
    clear hK2
    have hL : ∀ q, (Instr.loadAt 41 (.pointer (some ⟨w.heap.size + 1, 0, none⟩))).run Try.prog (w'.drewN q) = .ok (.agg #[.int .i64 (ownI r), .int .i64 (ownK r)]) (w'.drewN q) := fun q => run_loadAt_cells (w := w'.drewN q) place_agg place_size (off := 0) (cs := [.int .i64 (ownI r), .int .i64 (ownK r)]) (fun j v hv => by rw [Nat.zero_add]; exact (hrow.cell j).trans hv) rfl
    refine wpIn_wide.2 ?_
    go_wp2
    refine wp_region_quiet_lit (by kernel_rfl) (by kernel_rfl) ?_
    iterate 4 (quiet_step (fail))
    refine Go.BigFrame.wpQuiet_want rfl (fun K hK => ?_)
    refine quietL 41 (.tmp 9) rfl _ _ rfl (by rintro _ ⟨n', rfl⟩; exact hL _) (hK _ ?_)
    clear hK K
    iterate 5 (quiet_step (fail))
    refine wpQuiet_nil ?_
    rintro _ ⟨nq, rfl⟩
    go_wp2
    refine noGoto_r ?_
    refine leaves_marks Ds _ hmk ?_
    intro W' hu
    exact ⟨ownV r, by simp [results, Try.results7, go_sem, ownV], VRet.of (hu.under hmk (by omega) (below_drewN hbel _))⟩
  have KEY := hide KEY0
  clear hK2 KEY0
  refine wpIn_loop (fun a' w' => ∃ (j : Nat) (Ds : List Nat) (u2 u3 u4 u6 u7 u8 u10 u11 u12 u13 u14 u15 u16 u17 u18 u19 u20 u24 u25 u26 u27 u28 u29 u30 u31 u32 u33 u34 u35 u36 u37 u38 u39 u40 u41 u42 u43 u44 u45 u46 u47 : Value), j ≤ n ∧ Hid (∀ q, q < 5 * j → r ≠ some q) ∧ Below w.heap.size w w' ∧ w.heap.size + 2 ≤ w'.heap.size ∧ RowL w' w.heap.size 3 [.int .i64 b] ∧ RowL w' (w.heap.size + 1) 41 [.int .i64 0, .int .i64 0] ∧ Marks (w.heap.size + 2) Ds w' ∧ a' = { tmps := #[Value.slice A n c, Value.int .i64 m, u2, u3, u4, Value.pointer (some ⟨w.heap.size, 0, none⟩), u6, u7, u8, Value.pointer (some ⟨w.heap.size + 1, 0, none⟩), u10, u11, u12, u13, u14, u15, u16, u17, u18, u19, u20, Value.slice A n c, Value.int .i64 n, Value.int .i64 j, u24, u25, u26, u27, u28, u29, u30, u31, u32, u33, u34, u35, u36, u37, u38, u39, u40, u41, u42, u43, u44, u45, u46, u47], defers := Ds.map markD }) (fun a' _ => n - (intOf (a'.tmps.getD 23 undef)).toNat) ?_ ?_
  · exact ⟨0, [], _, _, _, _, _, _, _, _, _, _, _, _, _, _, _, _, _, _, _, _, _, _, _, _, _, _, _, _, _, _, _, _, _, _, _, _, _, _, _, _, _, by omega, hide (fun q hq => by omega), HB, by omega, R0, R1, Marks.none_ _ _, rfl⟩
  rintro a' wr ⟨j, Ds, u2, u3, u4, u6, u7, u8, u10, u11, u12, u13, u14, u15, u16, u17, u18, u19, u20, u24, u25, u26, u27, u28, u29, u30, u31, u32, u33, u34, u35, u36, u37, u38, u39, u40, u41, u42, u43, u44, u45, u46, u47, hj, HN, hbr, hsz, hr0, hr1, hmk, rfl⟩
  clear HB R0 R1 hs2 W2
  by_cases hlt : j < n
  · have hjl : j < l.length := by have := HLEN.out; omega
    have hy := List.getElem?_eq_getElem hjl
    generalize l[j] = y at hy
    have HY := hide hy
    obtain ⟨ba, oa, rfl, -, -, hcy⟩ := ino_at H.out hbr hy
    have HCY := hide hcy
    have hjt : ((j : Nat) : Int).toNat = j := by omega
    clear hy hcy
    obtain ⟨b1, b2, b3, b4⟩ := rows2 wr [.int .i64 j] (inoC ino0) 3 39
    have B1 := hide b1
    have B2 := hide b2
    have B3 := hide b3
    have B4 := hide b4
    clear b1 b2 b3 b4
    gi_wp2_with (first | (refine wpListIn_plain rfl fun K2 hK2 => ?_; refine wpIn_loadX 39 (.tmp 26) rfl 10 ino_agg ino_size ba (oa + j * 10) rfl (inoC y) HCY.out rfl ?_; refine hK2 _ _ ?_; clear hK2 K2) | (refine wpListIn_plain rfl fun K2 hK2 => ?_; refine wpIn_storeW 39 (.tmp 11) (.tmp 27) rfl 10 ino_size (wr.heap.size + 1) 39 rfl (inoC ino0) (inoC y) rfl B2.out rfl rfl (inoC_one y) ?_; intro w3 hr3 hg3 hs3; refine hK2 _ _ ?_; clear hK2 K2) | (refine wpListIn_plain rfl fun K2 hK2 => ?_; refine wpIn_loadW 39 (.tmp 11) rfl 10 ino_agg ino_size (wr.heap.size + 1) 39 rfl (inoC y) hr3 rfl ?_; refine hK2 _ _ ?_; clear hK2 K2))
    refine ⟨trivial, (pointers_in Fence.wide _ trivial rfl y _).mono ?_⟩
    rintro e w' ⟨rfl, rfl⟩
    gi_wp2
    have hs4 : w3.heap.size = wr.heap.size + 2 := hs3.trans B4.out
    have hb3 : Below wr.heap.size wr w3 := B3.out.grown hg3 (by rw [B4.out]; omega) (fun k hk => by have := Option.some.inj hk; omega)
    have hi3 : RowL w3 wr.heap.size 3 [.int .i64 j] := B1.out.grown hg3 (fun e => by have := Option.some.inj e; omega)
    have hb4 := below_new hb3 (.cells (inoC y).toArray 39)
    have hi4 := hi3.on (below_new (below_self w3) (.cells (inoC y).toArray 39))
    have hy4 := RowL.new w3 39 (inoC y)
    have hs5 : (w3.alloc (.cells (inoC y).toArray 39)).heap.size = wr.heap.size + 3 := by rw [World.size_alloc, hs4]
    obtain ⟨W4, hW4⟩ : ∃ W4, w3.alloc (.cells (inoC y).toArray 39) = W4 := ⟨_, rfl⟩
    rw [hW4] at hb4 hi4 hy4 hs5 ⊢
    clear hW4 hi3 hb3 hg3 hr3 B1 B2 B3 B4
    have hq0 := hr0.on hb4
    have hq1 := hr1.on hb4
    have hmk4 := hmk.on hb4
    have hmlt := hmk4.lt
    have hni : wr.heap.size ∉ Ds := hmk4.row hi4
    have hnq : w.heap.size + 1 ∉ Ds := hmk4.row hq1
    have hy5 : RowL W4 (wr.heap.size + 1 + 1) 39 (inoC y) := by rw [show wr.heap.size + 1 + 1 = w3.heap.size from by rw [hs4]]; exact hy4
    clear hy4
    rename_i K9 hK9
    refine wpIn_rangeFunc_ownF rfl (by omega) (gf := 21) (lb := #[.pointer (some ⟨wr.heap.size + 1 + 1, 0, none⟩)]) rfl trivial (enters_of Try.func21 (by kernel_rfl) rfl)
      (pointers1_stops Fence.wide 4 rfl (by omega) (wr.heap.size + 1 + 1) y W4 hy5) kpM_t
      (fun W b o o' hb hw h1 h2 => kpM_below (n := W4.heap.size) (by omega) (belowK_b (Nat.le_refl _) W b o o' hb hw h1 h2)) (Below.refl _ _) (fun _ => rfl)
      (fun pre W => Below W4.heap.size W4 W ∧ Hid (∀ z, z ∈ pre → ptr y z.1 ≠ b + 1))
      (fun c pre' W => (W4.grownBy W (some (w.heap.size + 1)) ∧ ∃ pre0 x, c = Code.exit 0 ∧ pre' = pre0 ++ [x] ∧ Hid (∀ z, z ∈ pre0 → ptr y z.1 ≠ b + 1) ∧ ptr y x.1 = b + 1 ∧ RowL W (w.heap.size + 1) 41 [.int .i64 ((j : Int) + 1), .int .i64 x.1]))
      (OwnFrom.and (ownFrom_below (Nat.le_refl _) (Nat.le_refl _)) (ownFrom_pure _ _))
      (fun c => OwnFrom.and (ownFrom_grown _) (fun s A' B' row hs hg hr => by
        obtain ⟨p0, x, h1, h2, h3, h4, h5⟩ := hs
        exact ⟨p0, x, h1, h2, h3, h4, h5.turned hg (fun r e => (hr r e).2)⟩))
      ⟨Below.refl _ _, hide (fun z hz => by cases hz)⟩
      (fun x => { tmps := #[Value.slice (some ⟨ba, oa, none⟩) n c, Value.int .i64 m, u2, u3, u4, Value.pointer (some ⟨w.heap.size, 0, none⟩), u6, u7, u8, Value.pointer (some ⟨w.heap.size + 1, 0, none⟩), Value.pointer (some ⟨wr.heap.size, 0, none⟩), Value.pointer (some ⟨wr.heap.size + 1, 0, none⟩), Value.int .i64 (x.1 : Int), Value.int .i64 (ptr y x.1), u14, u15, u16, u17, u18, u19, u20, Value.slice (some ⟨ba, oa, none⟩) n c, Value.int .i64 n, Value.int .i64 j, Value.bool true, Value.int .i64 j, Value.pointer (some ⟨ba, oa + j * 10, none⟩), Value.agg (inoC y).toArray, Value.agg (inoC y).toArray, Value.func (Fn.func 21) #[] #[Value.pointer (some ⟨wr.heap.size + 1 + 1, 0, none⟩)], Value.int .i64 (x.1 : Int), Value.int .i64 (ptr y x.1), u32, u33, u34, u35, u36, u37, u38, u39, u40, u41, u42, u43, u44, u45, u46, u47], defers := [] }) ?assign ?body ?done ?stop
    case assign =>
      intro l' x W K hK
      dsimp only [encK]
      gi_wp2
      exact hK
    case body =>
      rintro l' pre x W ⟨hbw, HNP⟩ _
      have hx5 := x.2
      have hqb := (hq0.on hbw).cell 0
      have hij := (hi4.on hbw).cell 0
      have hqo := hq1.on hbw
      by_cases heq : ptr y x.1 = b + 1
      · have hbeq : (ptr y x.1 == b + 1) = true := by simpa using heq
        have HEQ := hide heq
        clear heq
        gi_wp2_with (refine wpListIn_plain rfl fun K2 hK2 => ?_; refine wpIn_storeW 41 (.tmp 9) (.tmp 39) rfl 2 place_size (w.heap.size + 1) 41 rfl [.int .i64 0, .int .i64 0] [.int .i64 ((j : Int) + 1), .int .i64 x.1] rfl hqo rfl rfl (by simp [Value.oneCell']) ?_; intro w5 hr5 hg5 hs5; refine hK2 _ _ ?_; clear hK2 K2)
        exact ⟨kRow hqo hg5, grown_then (show W4.grownBy W (some (w.heap.size + 1)) from ⟨hbw.os, hbw.tape, hbw.output, hbw.size, fun k hk _ => hbw.block k hk⟩) hg5 (fun k hk => .inr hk), pre, x, rfl, rfl, HNP, HEQ.out, hr5⟩
      · have hbeq : (ptr y x.1 == b + 1) = false := by simpa using heq
        have HEQ := hide heq
        clear heq
        gi_wp2
        exact ⟨KeepsOthers.refl _, rfl, hbw, hide (fun z hz => by
          rcases List.mem_append.1 hz with hz | hz
          · exact HNP.out z hz
          · rw [List.mem_singleton] at hz; subst hz; exact HEQ.out)⟩
    case done =>
      rintro D ys W hD rfl ⟨hbw, HNP⟩ hK
      have hbw0 := below_step (below_step hbr hb4) hbw
      have hnx : Hid (∀ q, q < 5 * (j + 1) → r ≠ some q) := hide (by rw [← HR.out]; exact own_row HY.out (by rw [HR.out]; exact HN.out) (fun z hz => HNP.out ⟨z, hz⟩ (List.mem_finRange _)))
      have hmk5 : Marks (w.heap.size + 2) (D :: Ds) W := (hmk4.on hbw).more (fun D' h' => by have := hmlt D' h'; omega) (by omega) hK
      have hz0 := hq0.on hbw
      have hz1 := hq1.on hbw
      have hsw := hbw.size
      clear hbw hq0 hq1 hi4 hb4 hmk4 hmlt hmk hr0 hr1 hbr
      gi_wp2
      exact ⟨⟨j + 1, D :: Ds, _, _, _, _, _, _, _, _, _, _, _, _, _, _, _, _, _, _, _, _, _, _, _, _, _, _, _, _, _, _, _, _, _, _, _, _, _, _, _, _, _, by omega, hnx, hbw0, by omega, hz0, hz1, hmk5, rfl⟩, by simp [intOf]; omega⟩
    case stop =>
      rintro D c pre W hD hpre ⟨hgw, p0, x, rfl, rfl, HP0, hpx, hrw⟩ hK
      have hsw := hgw.size
      have HOK : r = some (5 * j + x.1) := by
        rw [← HR.out]
        refine own_first HY.out ⟨hb0, hbm⟩ (by rw [HR.out]; exact HN.out) x.2 hpx (fun z hz => ?_)
        obtain ⟨f, hf, rfl⟩ := pre5 hpre z hz
        exact HP0.out f hf
      have hrow : RowL W (w.heap.size + 1) 41 (placeC r) := by
        have := q_parts (i := j) x.2
        rw [HOK]
        unfold placeC ownI ownK
        simp only [this.1, this.2]
        exact hrw
      have hbw0 : Below w.heap.size w W := (below_step hbr hb4).grown hgw (below_step hbr hb4).size (fun k hk => by have := Option.some.inj hk; omega)
      have hmk5 : Marks (w.heap.size + 2) (D :: Ds) W := (hmk4.grown hgw (fun k hk => by have := Option.some.inj hk; subst this; exact hnq)).more (fun D' h' => by have := hmlt D' h'; omega) (by omega) hK
      clear hgw hq0 hq1 hi4 hb4 hmk4 hmlt hmk hr0 hr1 hbr hrw HOK hpx
      gi_wp2
      exact KEY.out _ _ ⟨D :: Ds, _, _, _, _, _, _, _, _, _, _, _, _, _, _, _, _, _, _, _, _, _, _, _, _, _, _, _, _, _, _, _, _, _, _, _, _, _, _, _, _, _, _, hbw0, hrow, hmk5, rfl⟩
  · obtain rfl : j = n := by omega
    have HE : r = none := by rw [← HR.out]; exact own_end (fun q hq => by rw [HR.out]; exact HN.out q (by have := HLEN.out; omega))
    have hrow : RowL wr (w.heap.size + 1) 41 (placeC r) := by rw [HE]; exact hr1
    clear HE hr0 hr1
    gi_wp2
    exact KEY.out _ _ ⟨Ds, _, _, _, _, _, _, _, _, _, _, _, _, _, _, _, _, _, _, _, _, _, _, _, _, _, _, _, _, _, _, _, _, _, _, _, _, _, _, _, _, _, _, hbr, hrow, hmk, rfl⟩
end Go.Proofs.Ytnllbdigpnopoaa
