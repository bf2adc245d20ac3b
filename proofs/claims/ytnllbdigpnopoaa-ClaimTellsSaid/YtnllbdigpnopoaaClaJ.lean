/- claim: owners (layer 11). -/
import Derived.Test.YtnllbdigpnopoaaClaI
import Derived.Carry
namespace Go.Proofs.Ytnllbdigpnopoaa
open Go.RowKit Go.Shelf Plain
attribute [local go_sem] Oper.semAt_some

/-- It returns a map of its own. -/
def MapRet (w : World) (c : Nat) (f : Int → Option Nat) (e : Ending) (w' : World) : Prop := ∃ b, e = .returned (.map (some b)) ∧ w.heap.size ≤ b ∧ MapW w' b c f ∧ Below w.heap.size w w'
theorem MapW.at_ {w w' : World} {b c : Nat} {f : Int → Option Nat} (h : MapW w b c f) (e : w'.heap[b]? = w.heap[b]?) : MapW w' b c f := by
  obtain ⟨D, ⟨es, clock, h1, h2⟩, h3⟩ := h
  exact ⟨D, ⟨es, clock, e.trans h1, h2⟩, h3⟩
theorem rows_map (w : World) (v : Value) (t0 t2 : Nat) : ∃ W, W = ((w.alloc (.cells #[v] t0)).alloc (.map #[] 0)).alloc (.cells #[.map (some (w.heap.size + 1))] t2) ∧ RowL W w.heap.size t0 [v] ∧ MapW W (w.heap.size + 1) 0 (fun _ => none) ∧ RowL W (w.heap.size + 1 + 1) t2 [.map (some (w.heap.size + 1))] ∧ Below w.heap.size w W ∧ W.heap.size = w.heap.size + 3 := by
  obtain ⟨h1, h2, h3⟩ := rows1 w [v] t0
  have hm := MapW.made (w.alloc (.cells [v].toArray t0))
  have hb2 := below_new (below_self (w.alloc (.cells [v].toArray t0))) (.map #[] 0)
  have hs2 : ((w.alloc (.cells [v].toArray t0)).alloc (.map #[] 0)).heap.size = w.heap.size + 2 := by simp
  obtain ⟨k1, k2, k3⟩ := rows1 ((w.alloc (.cells [v].toArray t0)).alloc (.map #[] 0)) [.map (some (w.heap.size + 1))] t2
  rw [hs2] at k1
  rw [h3] at hm
  exact ⟨_, rfl, (h1.on hb2).on k2, hm.on k2, k1, below_step (below_step h2 hb2) k2, by rw [World.size_alloc, hs2]⟩
theorem wpListIn_put {F : Fence} {nF : Nat} {w : World} {ops : Array Oper} {rest : List Oper} {o : Oper} {a : Act} {Q : Exit → Act → World → Prop} (hg : o.guard = none) (m x v : Operand) (hop : o.op = Op.mapUpdate 46 m x v)
    {b c : Nat} {f : Int → Option Nat} (hm : a.eval m = .map (some b)) (h : MapW w b c f) (hc : c ≤ 1000) (n : Int) (hn : w64 n) (q : Nat) (hx : a.eval x = .int .i64 n) (hv : a.eval v = .agg (pairC q).toArray)
    (hK : ∀ w', MapW w' b (c + 1) (putF f n q) → w.grownBy w' (some b) → wpListIn F nF Try.prog ops Q rest (a.put o.dst undef) w') : wpListIn F nF Try.prog ops Q (o :: rest) a w := by
  refine wpListIn_plain hg fun K' hK' => ?_
  obtain ⟨w', hrun, r1, r2⟩ := h.put hn q (by simp only [maxLen]; omega)
  have hv' : a.eval v = .agg #[.int .i64 (ownI (some q)), .int .i64 (ownK (some q))] := hv
  unfold Oper.wpIn
  refine ⟨by simp [Oper.about, hop], ?_⟩
  rw [Oper.semAt_plain F _ _ (by rw [hop]; intro c hc'; cases hc')]
  simp [execOp, hop, hm, hx, hv', hrun, Result.andThen]
  exact hK' _ _ (hK w' r1 r2)
set_option maxRecDepth 100000 in
set_option maxHeartbeats 1000000 in
theorem owners_any {A : Option Addr} {n c : Nat} {l : List InoV} {m : Int} (w : World) (h : RdE inoEn w (Under w.heap.size) A n l) (hn : n ≤ 100) : Calls Try.prog 20 #[.slice A n c, .int .i64 m] w (MapRet w (5 * n) (mapF (flatP l) m (5 * n))) := by
  have HLEN := hide h.len
  have H := hide h
  have hmm := @run_makeMap Try.prog
  clear h
  refine (callsIn_wide (n := 5)).1 ?_
  refine callsIn_of_wp_marks Try.func20 rfl trivial ?_ rfl
  simp only [Try.ntmps20, List.size_toArray, List.length_cons, List.length_nil, Nat.reduceAdd, Nat.reduceSub, Array.replicate_succ, Array.replicate_zero, List.push_toArray, List.append_toArray, List.nil_append, List.cons_append]
  gi_wp2
  obtain ⟨W3, hW3, R0, RM, R2, HB, hs3⟩ := rows_map w (.int .i64 m) 3 46
  rw [← hW3]
  clear hW3
  refine wpIn_loop (fun a' w' => ∃ (j : Nat) (Ds : List Nat) (u1 u2 u4 u6 u7 u8 u9 u10 u11 u12 u16 u17 u18 u19 u20 u21 u22 u23 u24 u25 u26 u27 u28 u29 u30 u31 u32 u33 u34 u35 u36 u37 u38 u39 u40 u41 u42 u43 u44 u45 u46 u47 u48 : Value), j ≤ n ∧ MapW w' (w.heap.size + 1) (5 * j) (mapF (flatP l) m (5 * j)) ∧ Below w.heap.size w w' ∧ w.heap.size + 3 ≤ w'.heap.size ∧ RowL w' w.heap.size 3 [.int .i64 m] ∧ RowL w' (w.heap.size + 1 + 1) 46 [.map (some (w.heap.size + 1))] ∧ Marks (w.heap.size + 3) Ds w' ∧ a' = { tmps := #[Value.slice A n c, u1, u2, Value.pointer (some ⟨w.heap.size, 0, none⟩), u4, Value.pointer (some ⟨w.heap.size + 1 + 1, 0, none⟩), u6, u7, u8, u9, u10, u11, u12, Value.slice A n c, Value.int .i64 n, Value.int .i64 j, u16, u17, u18, u19, u20, u21, u22, u23, u24, u25, u26, u27, u28, u29, u30, u31, u32, u33, u34, u35, u36, u37, u38, u39, u40, u41, u42, u43, u44, u45, u46, u47, u48], defers := Ds.map markD }) (fun a' _ => n - (intOf (a'.tmps.getD 15 undef)).toNat) ?_ ?_
  · exact ⟨0, [], _, _, _, _, _, _, _, _, _, _, _, _, _, _, _, _, _, _, _, _, _, _, _, _, _, _, _, _, _, _, _, _, _, _, _, _, _, _, _, _, _, _, _, by omega, RM.eq (mapF_zero _ _).symm, HB, by omega, R0, R2, Marks.none_ _ _, rfl⟩
  rintro a' wr ⟨j, Ds, u1, u2, u4, u6, u7, u8, u9, u10, u11, u12, u16, u17, u18, u19, u20, u21, u22, u23, u24, u25, u26, u27, u28, u29, u30, u31, u32, u33, u34, u35, u36, u37, u38, u39, u40, u41, u42, u43, u44, u45, u46, u47, u48, hj, hmp, hbr, hsz, hr0, hr1, hmk, rfl⟩
  clear HB R0 R2 RM hs3 W3 hmm
  by_cases hlt : j < n
  · have hjl : j < l.length := by have := HLEN.out; omega
    have hy := List.getElem?_eq_getElem hjl
    generalize l[j] = y at hy
    have HY := hide hy
    obtain ⟨ba, oa, rfl, -, hwf, hcy⟩ := ino_at H.out hbr hy
    have HWF := hide hwf
    have HCY := hide hcy
    have hjt : ((j : Nat) : Int).toNat = j := by omega
    clear hy hcy hwf
    obtain ⟨b1, b2, b3, b4⟩ := rows2 wr [.int .i64 j] (inoC ino0) 3 39
    have B1 := hide b1
    have B2 := hide b2
    have B3 := hide b3
    have B4 := hide b4
    clear b1 b2 b3 b4
    gi_wp2_with (first | (refine wpListIn_plain rfl fun K2 hK2 => ?_; refine wpIn_loadX 39 (.tmp 18) rfl 10 ino_agg ino_size ba (oa + j * 10) rfl (inoC y) HCY.out rfl ?_; refine hK2 _ _ ?_; clear hK2 K2) | (refine wpListIn_plain rfl fun K2 hK2 => ?_; refine wpIn_storeW 39 (.tmp 7) (.tmp 19) rfl 10 ino_size (wr.heap.size + 1) 39 rfl (inoC ino0) (inoC y) rfl B2.out rfl rfl (inoC_one y) ?_; intro w3 hr3 hg3 hs3; refine hK2 _ _ ?_; clear hK2 K2) | (refine wpListIn_plain rfl fun K2 hK2 => ?_; refine wpIn_loadW 39 (.tmp 7) rfl 10 ino_agg ino_size (wr.heap.size + 1) 39 rfl (inoC y) hr3 rfl ?_; refine hK2 _ _ ?_; clear hK2 K2))
    refine ⟨trivial, (pointers_in Fence.wide _ trivial rfl y _).mono ?_⟩
    rintro e w' ⟨rfl, rfl⟩
    gi_wp2
    have hs4 : w3.heap.size = wr.heap.size + 2 := hs3.trans B4.out
    have hb3 : Below wr.heap.size wr w3 := B3.out.grown hg3 (by rw [B4.out]; omega) (fun k hk => by have := Option.some.inj hk; omega)
    have hi3 : RowL w3 wr.heap.size 3 [.int .i64 j] := B1.out.grown hg3 (fun e => by have := Option.some.inj e; omega)
    have hb4 := below_new hb3 (.cells (inoC y).toArray 39)
    have hi4 := hi3.on (below_new (below_self w3) (.cells (inoC y).toArray 39))
    have hy4 := RowL.new w3 39 (inoC y)
    have hs5 : (w3.alloc (.cells (inoC y).toArray 39)).heap.size = wr.heap.size + 3 := by rw [World.size_alloc, hs4]
    obtain ⟨W4, hW4⟩ : ∃ W4, w3.alloc (.cells (inoC y).toArray 39) = W4 := ⟨_, rfl⟩
    rw [hW4] at hb4 hi4 hy4 hs5 ⊢
    have hy5 : RowL W4 (wr.heap.size + 1 + 1) 39 (inoC y) := by rw [show wr.heap.size + 1 + 1 = w3.heap.size from by rw [hs4]]; exact hy4
    clear hW4 hi3 hb3 hg3 hr3 B1 B2 B3 B4 hy4
    have hq0 := hr0.on hb4
    have hq1 := hr1.on hb4
    have hmk4 := hmk.on hb4
    have hmp4 := hmp.on hb4
    have hmlt := hmk4.lt
    refine wpIn_rangeFunc_ownG rfl (by omega) (gf := 21) (lb := #[.pointer (some ⟨wr.heap.size + 1 + 1, 0, none⟩)]) rfl trivial (enters_of Try.func21 (by kernel_rfl) rfl)
      (pointers1_stops Fence.wide 4 rfl (by omega) (wr.heap.size + 1 + 1) y W4 hy5) kpM_t
      (fun W b o o' hb hw h1 h2 => kpM_below (n := W4.heap.size) (by omega) (belowK_b (Nat.le_refl _) W b o o' hb hw h1 h2)) (Below.refl _ _) (fun _ => rfl)
      (fun pre W => W4.grownBy W (some (w.heap.size + 1)) ∧ MapW W (w.heap.size + 1) (5 * j + pre.length) (rowF y m j (mapF (flatP l) m (5 * j)) pre))
      (fun _ _ _ => False)
      (OwnFrom.and (ownFrom_grown _) (fun s A' B' row hs hg hr => hs.kept hg (fun e => by have := (hr _ e.symm).1; omega)))
      (fun _ _ _ _ _ hs _ _ => hs)
      ⟨⟨rfl, rfl, rfl, Nat.le_refl _, fun _ _ _ => rfl⟩, hmp4⟩
      (fun x => { tmps := #[Value.slice (some ⟨ba, oa, none⟩) n c, u1, u2, Value.pointer (some ⟨w.heap.size, 0, none⟩), u4, Value.pointer (some ⟨w.heap.size + 1 + 1, 0, none⟩), Value.pointer (some ⟨wr.heap.size, 0, none⟩), Value.pointer (some ⟨wr.heap.size + 1, 0, none⟩), Value.int .i64 (x.1 : Int), Value.int .i64 (ptr y x.1), u10, u11, u12, Value.slice (some ⟨ba, oa, none⟩) n c, Value.int .i64 n, Value.int .i64 j, Value.bool true, Value.int .i64 j, Value.pointer (some ⟨ba, oa + j * 10, none⟩), Value.agg (inoC y).toArray, Value.agg (inoC y).toArray, Value.func (Fn.func 21) #[] #[Value.pointer (some ⟨wr.heap.size + 1 + 1, 0, none⟩)], Value.int .i64 (x.1 : Int), Value.int .i64 (ptr y x.1), u24, u25, u26, u27, u28, u29, u30, u31, u32, u33, u34, u35, u36, u37, u38, u39, u40, u41, u42, u43, u44, u45, u46, u47, u48], defers := [] }) ?assign ?body ?done ?stop
    case assign =>
      intro l' x W K hK
      dsimp only [encK]
      gi_wp2
      exact hK
    case body =>
      rintro l' pre x W ⟨hgw, hmw⟩ hpl
      have hx5 := x.2
      have hpw := ptr_wf HWF.out hx5
      have hnb : ∀ g, g < W4.heap.size → g ≠ w.heap.size + 1 → some g ≠ some (w.heap.size + 1) := fun g _ h e => h (Option.some.inj e)
      have hsw := hgw.size
      have hmb : (w.heap.size + 1) < W4.heap.size := by omega
      have hq0' := (hq0.grown hgw (fun e => by have := Option.some.inj e; omega)).cell 0
      have hq1' := (hq1.grown hgw (fun e => by have := Option.some.inj e; omega)).cell 0
      have hij := (hi4.grown hgw (fun e => by have := Option.some.inj e; omega)).cell 0
      have HSN := hide (rowF_snoc y m j (mapF (flatP l) m (5 * j)) pre x)
      obtain ⟨f, hf⟩ : ∃ f, rowF y m j (mapF (flatP l) m (5 * j)) pre = f := ⟨_, rfl⟩
      rw [hf] at hmw HSN
      clear hf hnb
      obtain ⟨pv, hpv⟩ : ∃ pv, ptr y x.1 = pv := ⟨_, rfl⟩
      rw [hpv] at hpw HSN ⊢
      have HPC := hide (pairC_at (i := j) hx5)
      have hlk := hmw.look hpw
      have HPW := hide hpw
      have HMW := hide hmw
      clear hpv hpw hmw
      obtain ⟨oi, hoi⟩ : ∃ oi, ownI (f pv) = oi := ⟨_, rfl⟩
      obtain ⟨ok, hok⟩ : ∃ ok, ownK (f pv) = ok := ⟨_, rfl⟩
      rw [hoi, hok] at hlk
      clear hoi hok
      have hbz := below_new (below_self W) (.cells #[.int .i64 oi, .int .i64 ok] 41)
      have hmz := HMW.out.on hbz
      have hz0 : (W.alloc (.cells #[.int .i64 oi, .int .i64 ok] 41)).cell? ⟨w.heap.size, 0, none⟩ = some (.int .i64 m) := (hbz.cell (p := ⟨w.heap.size, 0, none⟩) (by show w.heap.size < _; omega)).trans hq0'
      have hz1 : (W.alloc (.cells #[.int .i64 oi, .int .i64 ok] 41)).cell? ⟨w.heap.size + 1 + 1, 0, none⟩ = some (.map (some (w.heap.size + 1))) := (hbz.cell (p := ⟨w.heap.size + 1 + 1, 0, none⟩) (by show w.heap.size + 1 + 1 < _; omega)).trans hq1'
      have hz2 : (W.alloc (.cells #[.int .i64 oi, .int .i64 ok] 41)).cell? ⟨wr.heap.size, 0, none⟩ = some (.int .i64 j) := (hbz.cell (p := ⟨wr.heap.size, 0, none⟩) (by show wr.heap.size < _; omega)).trans hij
      have HBZ := hide hbz
      have HMZ := hide hmz
      clear hbz hmz
      by_cases hcond : f pv = none ∧ 1 ≤ pv ∧ pv ≤ m
      · obtain ⟨c1, c2, c3⟩ := hcond
        have HST := hide (show stepF m pv (5 * j + x.1) f = putF f pv (5 * j + x.1) from by unfold stepF; rw [if_pos ⟨c2, c3, c1⟩])
        rw [c1] at hlk
        simp only [Option.isSome] at hlk
        clear c1
        gi_wp2_with (refine wpListIn_put rfl (.tmp 41) (.tmp 42) (.tmp 46) rfl rfl HMZ.out (by omega) pv HPW.out (5 * j + x.1) rfl (by rw [HPC.out]; rfl) ?_; intro w6 hm6 hg6; have HM6 := hide hm6; have HG6 := hide hg6; clear hm6 hg6)
        have hz := HBZ.out
        have hsz2 := hz.size
        refine ⟨((kBelow hz).from _).trans (KeepsFrom.of_grownBy HG6.out (fun k e => by have := Option.some.inj e; omega)), kpM_t (kpM_below (n := W.heap.size) (by omega) hz) (kpM_grown (by omega) (fun e => by have := Option.some.inj e; omega) HG6.out), grown_then (grown_then hgw (grown_below hz) (fun k e => by cases e)) HG6.out (fun k e => .inr e), ?_⟩
        rw [HSN.out, HST.out, List.length_append]
        exact HM6.out
      · have HST := hide (show stepF m pv (5 * j + x.1) f = f from by unfold stepF; rw [if_neg (fun h => hcond ⟨h.2.2, h.1, h.2.1⟩)])
        cases hfs : f pv with
        | some q' =>
          rw [hfs] at hlk
          simp only [Option.isSome] at hlk
          clear hfs hcond
          gi_wp2
          have hz := HBZ.out
          refine ⟨(kBelow hz).from _, kpM_below (n := W.heap.size) (by omega) hz, grown_then hgw (grown_below hz) (fun k e => by cases e), ?_⟩
          rw [HSN.out, HST.out]
          exact HMZ.out.mono (by rw [List.length_append]; omega)
        | none =>
          rw [hfs] at hlk
          simp only [Option.isSome] at hlk
          have hcc : ¬ (1 ≤ pv ∧ pv ≤ m) := fun h => hcond ⟨hfs, h⟩
          clear hfs hcond
          by_cases hp1 : 1 ≤ pv
          · have hp2 : ¬ pv ≤ m := fun h => hcc ⟨hp1, h⟩
            have hd2 : decide (pv ≤ m) = false := by simpa using hp2
            clear hcc
            gi_wp2
            have hz := HBZ.out
            refine ⟨(kBelow hz).from _, kpM_below (n := W.heap.size) (by omega) hz, grown_then hgw (grown_below hz) (fun k e => by cases e), ?_⟩
            rw [HSN.out, HST.out]
            exact HMZ.out.mono (by rw [List.length_append]; omega)
          · have hd1 : decide (1 ≤ pv) = false := by simpa using hp1
            clear hcc
            gi_wp2
            have hz := HBZ.out
            refine ⟨(kBelow hz).from _, kpM_below (n := W.heap.size) (by omega) hz, grown_then hgw (grown_below hz) (fun k e => by cases e), ?_⟩
            rw [HSN.out, HST.out]
            exact HMZ.out.mono (by rw [List.length_append]; omega)
    case done =>
      rintro D ys W hD rfl ⟨hgw, hmw⟩ hK
      have hsw := hgw.size
      have hz0 := hq0.grown hgw (fun e => by have := Option.some.inj e; omega)
      have hz1 := hq1.grown hgw (fun e => by have := Option.some.inj e; omega)
      have hbw0 : Below w.heap.size w W := (below_step hbr hb4).grown hgw (below_step hbr hb4).size (fun k hk => by have := Option.some.inj hk; omega)
      have hno : w.heap.size + 1 ∉ Ds := by obtain ⟨o, ho, hn'⟩ := hmp4.obj; exact hmk4.notin ho hn'
      have hmk5 : Marks (w.heap.size + 3) (D :: Ds) W := (hmk4.grown hgw (fun k hk => by have := Option.some.inj hk; subst this; exact hno)).more (fun D' h' => by have := hmlt D' h'; omega) (by omega) hK
      have hmz : MapW W (w.heap.size + 1) (5 * (j + 1)) (mapF (flatP l) m (5 * (j + 1))) := (hmw.eq (rowF_all HY.out m)).mono (by rw [List.length_finRange]; omega)
      clear hgw hq0 hq1 hi4 hb4 hmk4 hmlt hmk hr0 hr1 hbr hmw hmp4 hmp hno
      gi_wp2
      exact ⟨⟨j + 1, D :: Ds, _, _, _, _, _, _, _, _, _, _, _, _, _, _, _, _, _, _, _, _, _, _, _, _, _, _, _, _, _, _, _, _, _, _, _, _, _, _, _, _, _, _, _, by omega, hmz, hbw0, by omega, hz0, hz1, hmk5, rfl⟩, by simp [intOf]; omega⟩
    case stop =>
      rintro D c pre W _ _ h _
      exact h.elim
  · obtain rfl : j = n := by omega
    have hcm : wr.cell? ⟨w.heap.size + 1 + 1, 0, none⟩ = some (.map (some (w.heap.size + 1))) := hr1.cell 0
    gi_wp2
    refine leaves_marks Ds _ hmk ?_
    intro W' hu
    exact ⟨.map (some (w.heap.size + 1)), by simp [results, Try.results20, go_sem], _, rfl, by omega, hmp.at_ (hu.2.2.2.2 _ (by obtain ⟨o, ho, hno⟩ := hmp.obj; exact hmk.notin ho hno)), hu.under hmk (by omega) hbr⟩
end Go.Proofs.Ytnllbdigpnopoaa
