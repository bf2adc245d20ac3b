/- walk: comparisons of lists, path.Join (layer 13). -/
import Derived.Test.YtalhkcheglbolaaWalS
import Derived.Lib.Join
import Derived.BigQuiet
import Derived.BigRegion
import Derived.Deep.QuietTactic
import Derived.StillTailTactics
namespace Go.Proofs.Ytalhkcheglbolaa
open Go.RowKit Go.Shelf Plain

theorem prw_agg : ∀ w, (isAgg 36).run Try.prog w = .ok true w := fun w => by kernel_rfl
theorem prw_size : ∀ w, (Go.sizeOf 36).run Try.prog w = .ok 2 w := fun w => by kernel_rfl
set_option maxRecDepth 100000 in
theorem neq_prw (a b : Int) (W : World) : (binOp .neq 36 (.agg #[.int .i64 a, .int .i64 b]) (.agg #[.int .i64 a, .int .i64 b])).run Try.prog W = .ok (.bool false) W := by
  obtain ⟨i, hi⟩ : ∃ i, Try.prog.info? 3 = some i := ⟨_, rfl⟩
  have hc : Try.prog.cellsOf 3 = 1 := by kernel_rfl
  have h : (Op.equalIn 10000 36 (.agg #[.int .i64 a, .int .i64 b]) (.agg #[.int .i64 a, .int .i64 b])).run Try.prog W = .ok true W := by
    rw [run_equalIn_array W 9999 _ _ Try.underlying36 hi, hc, show List.range 2 = [0, 1] from rfl]
    simp [Op.eqItems, go_sem]
  simp [go_sem, h]
set_option maxRecDepth 100000 in
set_option maxHeartbeats 1600000 in
theorem neq_way (a : Int × Int × List UInt8) (W : World) : (binOp .neq 33 (.agg #[.int .i64 a.1, .int .i64 a.2.1, .string ⟨a.2.2.toArray⟩]) (.agg #[.int .i64 a.1, .int .i64 a.2.1, .string ⟨a.2.2.toArray⟩])).run Try.prog W = .ok (.bool false) W := by
  simp [go_sem]
theorem RdE.cellsR {α : Type} {E : Enc α} {w : World} {D : Nat → Prop} {A : Option Addr} {n : Nat} {l : List α} (h : RdE E w D A n l) (hn : 0 < n) : ∃ b o, A = some ⟨b, o, none⟩ ∧ ∀ i x, l[i]? = some x → ∃ cs, E.R w D cs x ∧ ∀ j v, cs[j]? = some v → w.cell? ⟨b, o + i * E.k + j, none⟩ = some v := by
  obtain ⟨b, o, e, -, hc⟩ := h.2 hn
  refine ⟨b, o, e, fun i x hx => ?_⟩
  obtain ⟨cs, h1, h2⟩ := hc i x hx
  exact ⟨cs, h1, fun j v hv => by rw [Nat.add_assoc]; exact h2 j v hv⟩
theorem quietL {P : Program} {C : World → Prop} {o : Oper} {a : Act} {K : Act → Prop} (T : Nat) (x : Operand) (ho : o.op = .load T x) (p v : Value) (hx : a.eval x = p) (hl : ∀ w, C w → (Instr.loadAt T p).run P w = .ok v w) (hk : K (a.put o.dst v)) : o.quiet P a C K :=
  ⟨v, fun w hw => by
    unfold Oper.quietAt execOp
    simp only [ho, Sem.run_bind, Sem.run_pure, Result.andThen_ok, hx, hl w hw]
    exact ⟨rfl, rfl⟩, hk⟩
set_option maxHeartbeats 1600000 in
theorem EqPr_same {A B : Option Addr} {n m c d : Nat} {L : List (Int × Int)} {D D' : Nat → Prop} (w : World) (ha : RdE prEn w D A n L) (hb : RdE prEn w D' B m L) (hn : n ≤ 140737488355328) :
    Calls Try.prog 12 #[.slice A n c, .slice B m d] w (BoolB w true) := by
  obtain rfl : n = m := by rw [← ha.1, ← hb.1]
  have HA := hide ha
  have HB := hide hb
  clear ha hb
  have hd : ((n : Int) != (n : Int)) = false := by simp
  go_enter Try.func12, Try.ntmps12
  go_wp2
  go_loopw [13] (fun i wr => ∃ j q : Nat, j ≤ n ∧ i = .int .i64 j ∧ wr = w.drewN q) (fun i _ => n - (intOf i).toNat)
  case atStart => exact ⟨0, 0, by omega, rfl, rfl⟩
  case round =>
    obtain ⟨j, q, hj, rfl, rfl⟩ := hrel
    by_cases hlt : j < n
    · have hl1 : j < L.length := by rw [HA.out.1]; exact hlt
      obtain ⟨b1, o1, rfl, hc1⟩ := HA.out.cellsR (by omega)
      obtain ⟨b2, o2, rfl, hc2⟩ := HB.out.cellsR (by omega)
      obtain ⟨cs1, hcs1, hc1⟩ := hc1 j _ (List.getElem?_eq_getElem hl1)
      obtain ⟨cs2, hcs2, hc2⟩ := hc2 j _ (List.getElem?_eq_getElem hl1)
      obtain rfl : cs1 = prC L[j] := hcs1
      obtain rfl : cs2 = prC L[j] := hcs2
      generalize L[j] = y at hc1 hc2
      obtain ⟨ya, yb⟩ := y
      have hL1 : ∀ q, (Instr.loadAt 36 (.pointer (some ⟨b1, o1 + j * 2, none⟩))).run Try.prog (w.drewN q) = .ok (.agg #[.int .i64 ya, .int .i64 yb]) (w.drewN q) := fun q => run_loadAt_cells (w := w.drewN q) prw_agg prw_size hc1 rfl
      have hL2 : ∀ q, (Instr.loadAt 36 (.pointer (some ⟨b2, o2 + j * 2, none⟩))).run Try.prog (w.drewN q) = .ok (.agg #[.int .i64 ya, .int .i64 yb]) (w.drewN q) := fun q => run_loadAt_cells (w := w.drewN q) prw_agg prw_size hc2 rfl
      have hne := fun W => neq_prw ya yb W
      clear hc1 hc2 hl1
      go_wp2
      refine wp_region_quiet_lit (by kernel_rfl) (by kernel_rfl) ?_
      iterate 3 (quiet_step (fail))
      refine Go.BigFrame.wpQuiet_want rfl (fun K hK => ?_)
      refine quietL 36 (.tmp 18) rfl _ _ rfl (by rintro _ ⟨n', rfl⟩; rw [World.drewN_drewN]; exact hL1 _) (hK _ ?_)
      clear hK K
      iterate 3 (quiet_step (fail))
      refine Go.BigFrame.wpQuiet_want rfl (fun K hK => ?_)
      refine quietL 36 (.tmp 22) rfl _ _ rfl (by rintro _ ⟨n', rfl⟩; rw [World.drewN_drewN]; exact hL2 _) (hK _ ?_)
      clear hK K
      iterate 1 (quiet_step (fail))
      refine wpQuiet_nil ?_
      rintro _ ⟨nq, rfl⟩
      go_wp2
      go_roundw
      case rel => exact ⟨j + 1, _, by omega, by go_num, rfl⟩
      case measure => simp [intOf]; omega
    · obtain rfl : j = n := by omega
      go_wp2
      go_ret
      exact BoolB.of (below_drewN (below_self w) _)
set_option maxHeartbeats 1600000 in
theorem EqWay_same {A B : Option Addr} {n m c d : Nat} {L : List (WayV)} {D D' : Nat → Prop} (w : World) (ha : RdE wayEn w D A n L) (hb : RdE wayEn w D' B m L) (hn : n ≤ 140737488355328) :
    Calls Try.prog 11 #[.slice A n c, .slice B m d] w (BoolB w true) := by
  obtain rfl : n = m := by rw [← ha.1, ← hb.1]
  have HA := hide ha
  have HB := hide hb
  clear ha hb
  have hd : ((n : Int) != (n : Int)) = false := by simp
  go_enter Try.func11, Try.ntmps11
  go_wp2
  go_loopw [13] (fun i wr => ∃ j q : Nat, j ≤ n ∧ i = .int .i64 j ∧ wr = w.drewN q) (fun i _ => n - (intOf i).toNat)
  case atStart => exact ⟨0, 0, by omega, rfl, rfl⟩
  case round =>
    obtain ⟨j, q, hj, rfl, rfl⟩ := hrel
    by_cases hlt : j < n
    · have hl1 : j < L.length := by rw [HA.out.1]; exact hlt
      obtain ⟨b1, o1, rfl, hc1⟩ := HA.out.cellsR (by omega)
      obtain ⟨b2, o2, rfl, hc2⟩ := HB.out.cellsR (by omega)
      obtain ⟨cs1, hcs1, hc1⟩ := hc1 j _ (List.getElem?_eq_getElem hl1)
      obtain ⟨cs2, hcs2, hc2⟩ := hc2 j _ (List.getElem?_eq_getElem hl1)
      obtain rfl : cs1 = wayC L[j] := hcs1
      obtain rfl : cs2 = wayC L[j] := hcs2
      generalize L[j] = y at hc1 hc2
      obtain ⟨yi, yu, yn⟩ := y
      have hL1 : ∀ q, (Instr.loadAt 33 (.pointer (some ⟨b1, o1 + j * 3, none⟩))).run Try.prog (w.drewN q) = .ok (.agg #[.int .i64 yi, .int .i64 yu, .string ⟨yn.toArray⟩]) (w.drewN q) := fun q => run_loadAt_cells (w := w.drewN q) way_agg way_size hc1 rfl
      have hL2 : ∀ q, (Instr.loadAt 33 (.pointer (some ⟨b2, o2 + j * 3, none⟩))).run Try.prog (w.drewN q) = .ok (.agg #[.int .i64 yi, .int .i64 yu, .string ⟨yn.toArray⟩]) (w.drewN q) := fun q => run_loadAt_cells (w := w.drewN q) way_agg way_size hc2 rfl
      have hne := fun W => neq_way (yi, yu, yn) W
      clear hc1 hc2 hl1
      go_wp2
      refine wp_region_quiet_lit (by kernel_rfl) (by kernel_rfl) ?_
      iterate 3 (quiet_step (fail))
      refine Go.BigFrame.wpQuiet_want rfl (fun K hK => ?_)
      refine quietL 33 (.tmp 18) rfl _ _ rfl (by rintro _ ⟨n', rfl⟩; rw [World.drewN_drewN]; exact hL1 _) (hK _ ?_)
      clear hK K
      iterate 3 (quiet_step (fail))
      refine Go.BigFrame.wpQuiet_want rfl (fun K hK => ?_)
      refine quietL 33 (.tmp 22) rfl _ _ rfl (by rintro _ ⟨n', rfl⟩; rw [World.drewN_drewN]; exact hL2 _) (hK _ ?_)
      clear hK K
      iterate 1 (quiet_step (fail))
      refine wpQuiet_nil ?_
      rintro _ ⟨nq, rfl⟩
      go_wp2
      go_roundw
      case rel => exact ⟨j + 1, _, by omega, by go_num, rfl⟩
      case measure => simp [intOf]; omega
    · obtain rfl : j = n := by omega
      go_wp2
      go_ret
      exact BoolB.of (below_drewN (below_self w) _)
set_option maxHeartbeats 800000 in
theorem EqualB_any {A B : Option Addr} {n m c d W1 W2 : Nat} {l k : List Bool} (w : World) (ha : Rd Value.bool w W1 A n l) (hb : Rd Value.bool w W2 B m k) (hn : n ≤ 140737488355328) :
    Calls Try.prog 15 #[.slice A n c, .slice B m d] w (BoolB w (l == k)) := by
  by_cases hnm : n = m
  case neg =>
    have hne : (l == k) = false := by
      simp only [beq_eq_false_iff_ne, ne_eq]
      intro e
      apply hnm
      rw [← ha.len, ← hb.len, e]
    have HNE := hide hne
    have hd : ((n : Int) != (m : Int)) = true := by simp; omega
    clear ha hb hne
    go_enter Try.func15, Try.ntmps15
    go_wp2
    go_ret
    exact BoolB.eq HNE.out.symm (below_self w)
  subst hnm
  obtain ⟨r, hr⟩ : ∃ r, (l == k) = r := ⟨_, rfl⟩
  rw [hr]
  have HR := hide hr
  have HA := hide ha
  have HB := hide hb
  clear hr ha hb
  have hd : ((n : Int) != (n : Int)) = false := by simp
  go_enter Try.func15, Try.ntmps15
  go_wp2
  go_loopw [13] (fun i wr => ∃ j q : Nat, j ≤ n ∧ i = .int .i64 j ∧ l.take j = k.take j ∧ wr = w.drewN q) (fun i _ => n - (intOf i).toNat)
  case atStart => exact ⟨0, 0, by omega, rfl, rfl, rfl⟩
  case round =>
    obtain ⟨j, q, hj, rfl, htake, rfl⟩ := hrel
    have HT := hide htake
    clear htake
    by_cases hlt : j < n
    · have hl1 : j < l.length := by rw [HA.out.len]; exact hlt
      have hl2 : j < k.length := by rw [HB.out.len]; exact hlt
      obtain ⟨b1, o1, rfl, _, hd1⟩ := HA.out.2 (by omega)
      obtain ⟨b2, o2, rfl, _, hd2⟩ := HB.out.2 (by omega)
      have hc1 := hd1 _ _ (List.getElem?_eq_getElem hl1)
      have hc2 := hd2 _ _ (List.getElem?_eq_getElem hl2)
      obtain ⟨x, hx⟩ : ∃ x, x = l[j] := ⟨_, rfl⟩
      obtain ⟨y, hy⟩ : ∃ y, y = k[j] := ⟨_, rfl⟩
      rw [← hx] at hc1
      rw [← hy] at hc2
      clear hd1 hd2
      by_cases hxy : x = y
      · have ht2 : l.take (j + 1) = k.take (j + 1) := by
          rw [List.take_succ_eq_append_getElem hl1, List.take_succ_eq_append_getElem hl2, HT.out, ← hx, ← hy, hxy]
        have HT2 := hide ht2
        have hne : (!x == y) = false := by simp [hxy]
        clear hx hy ht2 hxy hl1 hl2
        go_wp2
        go_quiet (fail)
        go_wp2
        go_roundw
        case rel => exact ⟨j + 1, _, by omega, by go_num, HT2.out, rfl⟩
        case measure => simp [intOf]; omega
      · have hre : r = false := by
          rw [← HR.out]
          simp only [beq_eq_false_iff_ne, ne_eq]
          intro e
          apply hxy
          subst e
          rw [hx, hy]
        have hne : (!x == y) = true := by simp [hxy]
        have HRE := hide hre
        clear hx hy hre hxy hl1 hl2
        go_wp2
        go_quiet (fail)
        go_wp2
        go_ret
        exact BoolB.eq HRE.out.symm (below_drewN (below_drewN (below_self w) _) _)
    · obtain rfl : j = n := by omega
      have hre : r = true := by
        rw [← HR.out]
        have e := HT.out
        rw [List.take_of_length_le (by rw [HA.out.len]; exact Nat.le_refl _), List.take_of_length_le (by rw [HB.out.len]; exact Nat.le_refl _)] at e
        simp [e]
      have HRE := hide hre
      clear hre
      go_wp2
      go_ret
      exact BoolB.eq HRE.out.symm (below_drewN (below_self w) _)
/-- It returns this bool, and nothing that was there has turned. -/
def BRt (w : World) (b : Bool) (x : Ending) (w' : World) : Prop := x = .returned (.bool b) ∧ Below w.heap.size w w'
theorem BRt.of {w w' : World} {b c : Bool} (h : Below w.heap.size w w') (hb : b = c) : BRt w c (.returned (.bool b)) w' := by subst hb; exact ⟨rfl, h⟩
set_option maxHeartbeats 800000 in
theorem EqualS_any {A B : Option Addr} {n m c d : Nat} {l k : List (List UInt8)} {W1 W2 : Nat} (w : World) (ha : Rd st w W1 A n l) (hb : Rd st w W2 B m k) (hn : n ≤ 140737488355328) :
    Calls Try.prog 18 #[.slice A n c, .slice B m d] w (BRt w (l == k)) := by
  by_cases hnm : n = m
  case neg =>
    have hne : (l == k) = false := by
      simp only [beq_eq_false_iff_ne, ne_eq]
      intro e
      apply hnm
      rw [← ha.len, ← hb.len, e]
    have HNE := hide hne
    have hd : ((n : Int) != (m : Int)) = true := by simp; omega
    clear ha hb hne
    go_enter Try.func18, Try.ntmps18
    go_wp2
    go_ret
    exact BRt.of (below_self w) HNE.out.symm
  subst hnm
  obtain ⟨r, hr⟩ : ∃ r, (l == k) = r := ⟨_, rfl⟩
  rw [hr]
  have HR := hide hr
  have HA := hide ha
  have HB := hide hb
  clear hr ha hb
  have hd : ((n : Int) != (n : Int)) = false := by simp
  go_enter Try.func18, Try.ntmps18
  go_wp2
  go_loopw [13] (fun i wr => ∃ j q : Nat, j ≤ n ∧ i = .int .i64 j ∧ l.take j = k.take j ∧ wr = w.drewN q) (fun i _ => n - (intOf i).toNat)
  case atStart => exact ⟨0, 0, by omega, rfl, rfl, rfl⟩
  case round =>
    obtain ⟨j, q, hj, rfl, htake, rfl⟩ := hrel
    have HT := hide htake
    clear htake
    by_cases hlt : j < n
    · obtain ⟨b1, o1, rfl, _, hc1⟩ := HA.out.2 (by omega)
      obtain ⟨b2, o2, rfl, _, hc2⟩ := HB.out.2 (by omega)
      have hl1 : j < l.length := by rw [HA.out.len]; exact hlt
      have hl2 : j < k.length := by rw [HB.out.len]; exact hlt
      have hx1 := hc1 j l[j] (List.getElem?_eq_getElem hl1)
      have hx2 := hc2 j k[j] (List.getElem?_eq_getElem hl2)
      clear hc1 hc2
      obtain ⟨x, hx⟩ : ∃ x, x = l[j] := ⟨_, rfl⟩
      obtain ⟨y, hy⟩ : ∃ y, y = k[j] := ⟨_, rfl⟩
      rw [← hx] at hx1
      rw [← hy] at hx2
      unfold st at hx1 hx2
      by_cases hxy : x = y
      · have ht2 : l.take (j + 1) = k.take (j + 1) := by
          rw [List.take_succ_eq_append_getElem hl1, List.take_succ_eq_append_getElem hl2, HT.out, ← hx, ← hy, hxy]
        have HT2 := hide ht2
        have hne : (x == y) = true := by simp [hxy]
        clear hx hy ht2 hxy hl1 hl2
        go_wp2
        go_quiet (fail)
        go_wp2
        go_roundw
        case rel => exact ⟨j + 1, _, by omega, by go_num, HT2.out, rfl⟩
        case measure => simp [intOf]; omega
      · have hre : r = false := by
          rw [← HR.out]
          simp only [beq_eq_false_iff_ne, ne_eq]
          intro e
          apply hxy
          subst e
          rw [hx, hy]
        have hne : (x == y) = false := by simp [hxy]
        have HRE := hide hre
        clear hx hy hre hxy hl1 hl2
        go_wp2
        go_quiet (fail)
        go_wp2
        go_ret
        exact BRt.of (below_drewN (below_drewN (below_self w) _) _) HRE.out.symm
    · obtain rfl : j = n := by omega
      have hre : r = true := by
        rw [← HR.out]
        have e := HT.out
        rw [List.take_of_length_le (by rw [HA.out.len]; exact Nat.le_refl _), List.take_of_length_le (by rw [HB.out.len]; exact Nat.le_refl _)] at e
        simp [e]
      have HRE := hide hre
      clear hre
      go_wp2
      go_ret
      exact BRt.of (below_drewN (below_self w) _) HRE.out.symm
set_option maxHeartbeats 400000 in
theorem PJoin_lib {A : Option Addr} {m c : Nat} {l : List (List UInt8)} (w : World) (ha : Rd st w w.heap.size A m l) (hm : m ≤ 1000000) (hmc : m ≤ c) (hjl : (Lib.join l [47]).length ≤ 140737488355327) :
    Calls Try.prog 31 #[.slice A m c] w fun e w' => e = .returned (.string ⟨(47 :: Lib.join l [47]).toArray⟩) ∧ Below w.heap.size w w' := by
  have hcon : ∀ w : World, Rd st w w.heap.size A m l → Calls Try.prog 47 #[.slice A m c, .string ⟨#[47]⟩] w fun e w' => e = .returned (.string ⟨(Lib.join l [47]).toArray⟩) ∧ Below w.heap.size w w' := by
    intro w ha
    by_cases h0 : m = 0
    · subst h0
      obtain rfl : l = [] := List.eq_nil_of_length_eq_zero ha.len
      refine (Try.strings_Join_none A c ⟨#[47]⟩ w).mono ?_
      rintro e w' ⟨rfl, rfl⟩
      exact ⟨rfl, below_self _⟩
    · obtain ⟨b, o, rfl, hb, hc⟩ := ha.2 (by omega)
      have hl := ha.len
      have e1 : (l.map fun x => (⟨x.toArray⟩ : ByteArray)).map (·.data.toList) = l := by rw [List.map_map]; exact List.map_id l
      have hlen : (l.map fun x => (⟨x.toArray⟩ : ByteArray)).length = m := by simp [hl]
      have h := Try.strings_Join b o c (l.map fun x => ⟨x.toArray⟩) ⟨#[47]⟩ w (fun j x hx => by
        rw [List.getElem?_map, Option.map_eq_some_iff] at hx
        obtain ⟨y, hy, rfl⟩ := hx
        exact hc j y hy) hb (by omega) (by omega) (by rw [e1]; show (Lib.join l [47]).length ≤ _; omega)
      rw [e1, hlen] at h
      exact h
  have HC := hide hcon
  have HA := hide ha
  have hadd := fun W => add_lists (P := Try.prog) (x := [47]) (y := Lib.join l [47]) (z := 47 :: Lib.join l [47]) (by simp; omega) rfl W
  clear hcon ha hjl
  go_enter Try.func31, Try.ntmps31
  go_wp2_with fail
  refine (HC.out _ HA.out).mono ?_
  rintro e w1 ⟨rfl, hbel⟩
  have HB := hide hbel
  clear hbel
  go_wp2_with fail
  go_ret
  exact ⟨rfl, HB.out⟩
end Go.Proofs.Ytalhkcheglbolaa
