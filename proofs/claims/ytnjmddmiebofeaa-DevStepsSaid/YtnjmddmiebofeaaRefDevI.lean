/- The contract of the reference's New (layer 5). -/
import Derived.Test.YtnjmddmiebofeaaRefDevH
namespace Go.Proofs.Ytnjmddmiebofeaa
open Go.RowKit Plain

theorem wp_append_Bs {P : Program} (w : World) {o : Oper} {a : Act} {K : Act → World → Prop} {Q : Exit → Act → World → Prop} (s x : Operand) (t : TypeId)
    (ho : o.op = .call { callee := .builtin .append, args := #[s, x], argTypes := #[t, t] })
    (base : Nat) (e : TypeId) (ht : P.underlying t = some (.slice e)) (hinfo : (P.info? e).map (fun i => (i.zero, i.size, i.bytes)) = some (some (.int .u8 0), 1, 1))
    (A0 : Option Addr) (n c0 : Nat) (l0 : List UInt8) (hs : a.eval s = .slice A0 n c0) (hown : Own w base e A0 n c0 l0) (B : Nat) (A : Option Addr) (m c : Nat) (l1 : List UInt8) (hx : a.eval x = .slice A m c) (hb : Bs w B A m l1)
    (N : Nat) (hN : n + m = N) (hbytes : N ≤ 140737488355328) (hbase : base ≤ w.heap.size)
    (h : ∀ A' c' w', Own w' base e A' N c' (l0 ++ l1) → Below base w w' → K (a.put o.dst (.slice A' N c')) w') : o.wp P a w K Q := by
  subst hN
  obtain ⟨v', w', hr, h2, h3⟩ := run_append_Bs (P := P) w base t o.type e ht hinfo _ n l0 hown B A m c l1 hb hbytes hbase
  unfold Oper.wp execOp
  simp only [ho, resolve, invoke, builtin, Sem.run_bind, Sem.run_pure, Result.andThen_ok, List.map_toArray, List.map_cons, List.map_nil, hs, hx, hr]
  obtain ⟨A', c', rfl, h4⟩ := Own.of h2
  exact h A' c' w' h4 h3
theorem OwE.lt {α : Type} {E : Enc α} {w : World} {base e n c : Nat} {A : Option Addr} {l : List α} (h : OwE E w base e A n c l) : ∀ a, A = some a → a.block < w.heap.size := by
  intro a ha
  subst ha
  obtain ⟨css, hown, _, _⟩ := h
  rcases hown.2 with ⟨h0, _⟩ | ⟨g, cap, cur, h1, h2, h3, h4⟩
  · cases h0
  · cases h1
    rcases Nat.lt_or_ge g w.heap.size with hlt | hge
    · exact hlt
    · rw [Array.getElem?_eq_none hge] at h3; cases h3
/-- A row of byte slices, and a store into a block that holds no byte. -/
theorem OwE.past {w : World} {base e n c g i : Nat} {A : Option Addr} {l : List (List UInt8)} {u : Value} (h : OwE Enc.bytes w base e A n c l) (hg : g < base) (hno : NoByte w g) : OwE Enc.bytes (w.setCell ⟨g, i, none⟩ u) base e A n c l := by
  obtain ⟨css, hown, hc, hl⟩ := h
  have hsz : (w.setCell ⟨g, i, none⟩ u).heap.size = w.heap.size := by simp
  refine ⟨css, ⟨hown.1, ?_⟩, ⟨hc.1, fun j cs x h1 h2 => ?_⟩, hl⟩
  · rcases hown.2 with h0 | ⟨g', cap, cur, h1, h2, h3, h4⟩
    · exact .inl h0
    · exact .inr ⟨g', cap, cur, h1, h2, (Below.heap_setCell w ⟨g, i, none⟩ u g' (by show g' ≠ g; omega)).trans h3, h4⟩
  · obtain ⟨A1, n1, c1, hcs, hle, hr⟩ := hc.2 j cs x h1 h2
    exact ⟨A1, n1, c1, hcs, hle, (hr.notin_byte hno).mono ((Kept.refl _ w).set_ (fun _ h => h.2) _ _) (fun b hb => ⟨hb.1.1.set hb.2 _ _, hb.1.2⟩)⟩
/-- Whole sectors of bytes. -/
def cutS (b : List UInt8) (k : Nat) : List (List UInt8) := (List.range k).map fun i => (b.drop (64 * i)).take 64
theorem cutS_succ (b : List UInt8) (k : Nat) : cutS b (k + 1) = cutS b k ++ [(b.drop (64 * k)).take 64] := by simp [cutS, List.range_succ]

set_option maxRecDepth 100000 in
set_option maxHeartbeats 3200000 in
theorem RDNew_any {w : World} {A : Option Addr} {m c n : Nat} {b : List UInt8} (hb : Bs w w.heap.size A m b) (hmc : m ≤ c) (hm : m ≤ 1000000) (hn : n = m / 64) :
    Calls Try.prog 9 #[.slice A m c] w (DRet w 0 n (cutS b n) (-1) 0 0) := by
  have hbl := hb.len
  have HBB := hide hb
  clear hb
  go_enter Try.func9, Try.ntmps9
  go_wp2_with fail
  go_loopw [4] (fun iv wr => ∃ (k : Nat) (A1 : Option Addr) (c1 : Nat), k ≤ n ∧ iv = .int .i64 k ∧ OwE Enc.bytes wr (w.heap.size + 2) 22 A1 k c1 (cutS b k) ∧ RowL wr (w.heap.size + 1) 31 [.slice A1 k c1, .slice none 0 0, .int .i64 (-1), .int .i64 0, .int .i64 0, .bool false] ∧ RowL wr w.heap.size 31 d0 ∧ Below w.heap.size w wr ∧ w.heap.size + 1 < wr.heap.size) (fun iv _ => n - (intOf iv).toNat)
  case atStart =>
    refine ⟨0, none, 0, by omega, rfl, OwE.nil_ _ _ _ _, ?_, ?_, below_new (below_new (below_self w) _) _, by simp⟩
    · have := RowL.new (w.alloc (.cells d0.toArray 31)) 31 [.slice none 0 0, .slice none 0 0, .int .i64 (-1), .int .i64 0, .int .i64 0, .bool false]
      simpa [d0, RowL] using this
    · have := (RowL.new w 31 d0).grown (World.grownBy_alloc _ (.cells ([.slice none 0 0, .slice none 0 0, .int .i64 (-1), .int .i64 0, .int .i64 0, .bool false] : List Value).toArray 31) none) (by simp)
      simpa [d0, RowL] using this
  case round =>
    obtain ⟨k, A1, c1, hkn, rfl, hown, hbx, hrow, hbel, hsz⟩ := hrel
    have j0 : wr.cell? ⟨w.heap.size + 1, 0, none⟩ = some (.slice A1 k c1) := hbx.cell 0
    have HO := hide hown
    have HB := hide hbel
    have HBX := hide hbx
    have HRW := hide hrow
    clear hown hbel hbx hrow
    by_cases hlt : k < n
    · have hk1 : IntKind.i64.wrap (64 * (k : Int)) = 64 * (k : Int) := IntWalk.i64_in _ (by omega)
      have hk2 : IntKind.i64.wrap (64 * (k : Int) + 64) = 64 * (k : Int) + 64 := IntWalk.i64_in _ (by omega)
      have hk3 : (64 * (k : Int)).toNat = 64 * k := by omega
      have hk4 : (64 * (k : Int) + 64).toNat = 64 * k + 64 := by omega
      have hk5 : (0 : Int) ≤ 64 * (k : Int) := by omega
      have hk6 : 64 * (k : Int) ≤ 64 * (k : Int) + 64 := by omega
      have hk7 : 64 * (k : Int) + 64 ≤ (c : Int) := by omega
      have hcut : Bs w w.heap.size (if c = 64 * k then A else A.map (fun x => x.add (64 * k))) 64 ((b.drop (64 * k)).take 64) := by
        have := HBB.out.cut (lo := 64 * k) (hi := 64 * k + 64) (m := c) (by omega) (by omega) (by omega)
        simpa using this
      have HC := hide hcut
      clear hcut
      go_wp2_with fail
      refine wp_region_planL (fun w' => Below w.heap.size w w' ∧ w.heap.size + 1 < w'.heap.size ∧ w'.cell? ⟨w.heap.size + 1, 0, none⟩ = some (.slice A1 k c1)) [(0, true), (1, true), (3, true), (4, true), (5, true), (6, true), (7, true), (8, true), (9, true), (2, false), (10, false), (11, false), (12, false), (13, true)] 14 (by kernel_rfl) (by kernel_rfl) (by kernel_rfl) (by kernel_rfl) (by kernel_rfl) rfl (fun _ _ _ _ _ h => h) ⟨HB.out.drew, hsz, j0⟩ (fun hHeld => ?_)
      simp only [planOps, List.filterMap_cons, List.filterMap_nil, List.getElem?_toArray, List.getElem?_cons_succ, List.getElem?_cons_zero, Option.map_some]
      refine wpPlan_take (v := ?_) (by kernel_rfl) (fun wS hSw => ?_) ?_
      rotate_left
      · (try dsimp only at hSw); go_simp; (try with_reducible rfl)
      (try simp only [Act.put, List.setIfInBounds_toArray, List.set_cons_zero, List.set_cons_succ])
      refine wpPlan_take (v := ?_) (by kernel_rfl) (fun wS hSw => ?_) ?_
      rotate_left
      · (try dsimp only at hSw); go_simp; (try with_reducible rfl)
      (try simp only [Act.put, List.setIfInBounds_toArray, List.set_cons_zero, List.set_cons_succ])
      refine wpPlan_take (v := ?_) (by kernel_rfl) (fun wS hSw => ?_) ?_
      rotate_left
      · (try dsimp only at hSw); go_simp; (try with_reducible rfl)
      (try simp only [Act.put, List.setIfInBounds_toArray, List.set_cons_zero, List.set_cons_succ])
      refine wpPlan_take (v := ?_) (by kernel_rfl) (fun wS hSw => ?_) ?_
      rotate_left
      · (try dsimp only at hSw); go_simp; (try with_reducible rfl)
      (try simp only [Act.put, List.setIfInBounds_toArray, List.set_cons_zero, List.set_cons_succ])
      refine wpPlan_take (v := ?_) (by kernel_rfl) (fun wS hSw => ?_) ?_
      rotate_left
      · (try dsimp only at hSw); go_simp; (try with_reducible rfl)
      (try simp only [Act.put, List.setIfInBounds_toArray, List.set_cons_zero, List.set_cons_succ])
      refine wpPlan_take (v := ?_) (by kernel_rfl) (fun wS hSw => ?_) ?_
      rotate_left
      · (try dsimp only at hSw); go_simp; (try with_reducible rfl)
      (try simp only [Act.put, List.setIfInBounds_toArray, List.set_cons_zero, List.set_cons_succ])
      refine wpPlan_take (v := ?_) (by kernel_rfl) (fun wS hSw => ?_) ?_
      rotate_left
      · (try dsimp only at hSw); go_simp; (try with_reducible rfl)
      (try simp only [Act.put, List.setIfInBounds_toArray, List.set_cons_zero, List.set_cons_succ])
      refine wpPlan_take (v := ?_) (by kernel_rfl) (fun wS hSw => ?_) ?_
      rotate_left
      · (try dsimp only at hSw); go_simp; (try with_reducible rfl)
      (try simp only [Act.put, List.setIfInBounds_toArray, List.set_cons_zero, List.set_cons_succ])
      refine wpPlan_take (v := ?_) (by kernel_rfl) (fun wS hSw => ?_) ?_
      rotate_left
      · (try dsimp only at hSw); go_simp; (try with_reducible rfl)
      (try simp only [Act.put, List.setIfInBounds_toArray, List.set_cons_zero, List.set_cons_succ])
      refine wpPlan_call (by kernel_rfl) (fun K hK => ?_)
      have hOld := hide hHeld
      clear hHeld
      unfold Oper.wp execOp
      go_simp
      have ha2 : Below wr.heap.size wr ((wr.alloc (.cells #[] 5)).drew) := ((Below.refl wr.heap.size wr).alloc (Nat.le_refl _) _).drew
      refine hK.out _ _ (⟨HB.out.trans (ha2.mono (by omega)), Nat.lt_of_lt_of_le hsz ha2.size, cell_on j0 ha2 (by omega)⟩) (fun hHeld => ?_)
      clear hK K
      (try simp only [Act.put, List.setIfInBounds_toArray, List.set_cons_zero, List.set_cons_succ])
      refine wpPlan_call (by kernel_rfl) (fun K hK => ?_)
      have hOld := hide hHeld
      clear hHeld
      refine wp_append_Bs ((wr.alloc (.cells #[] 5)).drew) (.tmp 15) (.tmp 22) 22 rfl wr.heap.size 5 Try.underlying22 info8d _ 0 _ _ rfl ((own_empty_up wr 5 wr.heap.size wr.heap.size rfl (Nat.le_refl _)).below (Below.refl _ _).drew) w.heap.size _ 64 _ _ rfl (HC.out.below (HB.out.trans (ha2.mono (by omega)))) 64 (by omega) (by omega) (by simp) ?_
      intro A5 c5 w3 hown3 hbel3
      rw [List.nil_append] at hown3
      have ha3 := ha2.trans hbel3
      have HO3 := hide hown3
      clear hown3 hbel3 ha2
      refine hK.out _ _ (⟨HB.out.trans (ha3.mono (by omega)), Nat.lt_of_lt_of_le hsz ha3.size, cell_on j0 ha3 (by omega)⟩) (fun hHeld => ?_)
      clear hK K
      (try simp only [Act.put, List.setIfInBounds_toArray, List.set_cons_zero, List.set_cons_succ])
      refine wpPlan_call (by kernel_rfl) (fun K hK => ?_)
      have hOld := hide hHeld
      clear hHeld
      unfold Oper.wp execOp
      go_simp
      have ha4 : Below wr.heap.size wr (w3.alloc (.cells #[.slice A5 64 c5] 22)) := ha3.alloc ha3.size _
      refine hK.out _ _ (⟨HB.out.trans (ha4.mono (by omega)), Nat.lt_of_lt_of_le hsz ha4.size, cell_on j0 ha4 (by omega)⟩) (fun hHeld => ?_)
      clear hK K
      (try simp only [Act.put, List.setIfInBounds_toArray, List.set_cons_zero, List.set_cons_succ])
      refine wpPlan_call (by kernel_rfl) (fun K hK => ?_)
      have hOld := hide hHeld
      clear hHeld
      have HO4 := hide (HO.out.below ha4)
      have hlit : RdE Enc.bytes (w3.alloc (.cells #[.slice A5 64 c5] 22)) (fun b => (wr.heap.size ≤ b ∧ Und w3 b) ∨ b = w3.heap.size) (some ⟨w3.heap.size, 0, none⟩) 1 [((b.drop (64 * k)).take 64)] := by
        obtain ⟨g, cs, hA5, hg, hrg, _⟩ := HO3.out.row (by omega)
        exact RdE.one _ (cs := [.slice A5 64 c5]) ⟨A5, 64, c5, rfl, HO3.out.cap, RdE.of_bs HO3.out.bs (fun _ a ha => by rw [hA5] at ha; cases ha; exact ⟨hg, Und.row hrg (by decide)⟩)⟩ (fun b hb => hb.2.1)
      have HL := hide hlit
      have hs3 := ha3.size
      clear hlit
      refine wp_append_OwE (w3.alloc (.cells #[.slice A5 64 c5] 22)) (.tmp 14) (.tmp 24) 28 rfl (w.heap.size + 2) 22 _ 24 Try.underlying28 info_bytes rfl (by decide) _ k _ _ rfl HO4.out _ _ 1 1 _ rfl HL.out (fun b hb => ⟨hb.elim (fun h => h.2.on (below_new (below_self w3) _)) (fun h => by subst h; exact Und.row (heap_alloc_new w3 _) (by decide)), fun a ha => by have := HO.out.lt a ha; have hb2 : wr.heap.size ≤ b := hb.elim (fun h => h.1) (fun h => by omega); omega⟩) (k + 1) rfl (by omega) (by omega) (by simp; omega) ?_
      intro A6 c6 w5 hown5 hbel5
      have ha5 := (ha4.mono (B' := w.heap.size + 2) (by omega)).trans hbel5
      have HO5 := hide hown5
      clear hown5 hbel5 ha4 ha3
      refine hK.out _ _ (⟨HB.out.trans (ha5.mono (by omega)), Nat.lt_of_lt_of_le hsz ha5.size, cell_on j0 ha5 (by omega)⟩) (fun hHeld => ?_)
      clear hK K
      (try simp only [Act.put, List.setIfInBounds_toArray, List.set_cons_zero, List.set_cons_succ])
      refine wpPlan_take (v := ?_) (by kernel_rfl) (fun wS hSw => ?_) ?_
      rotate_left
      · (try dsimp only at hSw); go_simp; (try with_reducible rfl)
      (try simp only [Act.put, List.setIfInBounds_toArray, List.set_cons_zero, List.set_cons_succ])
      refine wpPlan_end ?_
      have j5 := hHeld.2.2
      have HBX5 := hide ((ha5.block (w.heap.size + 1) (by omega)).trans HBX.out)
      have HRW5 := hide ((ha5.block w.heap.size (by omega)).trans HRW.out)
      have hf0 : w5.frozen? ⟨w.heap.size + 1, 0, none⟩ = false := RowL.frozen (t := 31) HBX5.out 0
      have hno : NoByte w5 (w.heap.size + 1) := RowL.noByte (t := 31) HBX5.out (by intro v hv x e; subst e; simp at hv)
      have ho6 : OwE Enc.bytes (w5.setCell ⟨w.heap.size + 1, 0, none⟩ (.slice A6 (k + 1) c6)) (w.heap.size + 2) 22 A6 (k + 1) c6 (cutS b (k + 1)) := by
        rw [cutS_succ]
        exact HO5.out.past (by omega) hno
      have hbx6 : RowL (w5.setCell ⟨w.heap.size + 1, 0, none⟩ (.slice A6 (k + 1) c6)) (w.heap.size + 1) 31 [.slice A6 (k + 1) c6, .slice none 0 0, .int .i64 (-1), .int .i64 0, .int .i64 0, .bool false] := RowL.set_ (t := 31) HBX5.out 0 _
      have hrw6 : RowL (w5.setCell ⟨w.heap.size + 1, 0, none⟩ (.slice A6 (k + 1) c6)) w.heap.size 31 d0 := RowL.keep (D := fun b => b ≠ w.heap.size + 1) HRW5.out ((Kept.refl _ w5).set_ (fun _ h => h) _ _) (by omega)
      have HO6 := hide ho6
      have HX6 := hide hbx6
      have HR6 := hide hrw6
      have HB6 := hide ((HB.out.trans (ha5.mono (by omega))).setCell (p := ⟨w.heap.size + 1, 0, none⟩) (by simp) (.slice A6 (k + 1) c6))
      have hsz5 := hHeld.2.1
      clear hHeld ho6 hbx6 hrw6 hno
      refine postL_go rfl (by kernel_rfl) ?_
      unfold Oper.wp execOp
      go_simp
      go_wp2_with fail
      go_roundw
      case rel => exact ⟨k + 1, _, _, by omega, by go_num, HO6.out, HX6.out, HR6.out, HB6.out, by simpa using hsz5⟩
      case measure => simp [intOf]; omega
    · obtain rfl : k = n := by omega
      have hbx := HBX.out
      have hrow := HRW.out
      have r0 : wr.cell? ⟨w.heap.size, 0, none⟩ = some (.slice none 0 0) := hrow.cell 0
      have r1 : wr.cell? ⟨w.heap.size, 1, none⟩ = some (.slice none 0 0) := hrow.cell 1
      have r2 : wr.cell? ⟨w.heap.size, 2, none⟩ = some (.int .i64 0) := hrow.cell 2
      have r3 : wr.cell? ⟨w.heap.size, 3, none⟩ = some (.int .i64 0) := hrow.cell 3
      have r4 : wr.cell? ⟨w.heap.size, 4, none⟩ = some (.int .i64 0) := hrow.cell 4
      have r5 : wr.cell? ⟨w.heap.size, 5, none⟩ = some (.bool false) := hrow.cell 5
      have f0 := hrow.frozen 0
      have f1 := hrow.frozen 1
      have f2 := hrow.frozen 2
      have f3 := hrow.frozen 3
      have f4 := hrow.frozen 4
      have f5 := hrow.frozen 5
      have x0 : wr.cell? ⟨w.heap.size + 1, 0, none⟩ = some (.slice A1 k c1) := hbx.cell 0
      have x1 : wr.cell? ⟨w.heap.size + 1, 1, none⟩ = some (.slice none 0 0) := hbx.cell 1
      have x2 : wr.cell? ⟨w.heap.size + 1, 2, none⟩ = some (.int .i64 (-1)) := hbx.cell 2
      have x3 : wr.cell? ⟨w.heap.size + 1, 3, none⟩ = some (.int .i64 0) := hbx.cell 3
      have x4 : wr.cell? ⟨w.heap.size + 1, 4, none⟩ = some (.int .i64 0) := hbx.cell 4
      have x5 : wr.cell? ⟨w.heap.size + 1, 5, none⟩ = some (.bool false) := hbx.cell 5
      have hr3 : RdE Enc.bytes ((((((wr.setCell ⟨w.heap.size, 0, none⟩ (.slice A1 k c1)).setCell ⟨w.heap.size, 1, none⟩ (.slice none 0 0)).setCell ⟨w.heap.size, 2, none⟩ (.int .i64 (-1))).setCell ⟨w.heap.size, 3, none⟩ (.int .i64 0)).setCell ⟨w.heap.size, 4, none⟩ (.int .i64 0)).setCell ⟨w.heap.size, 5, none⟩ (.bool false)) (Und ((((((wr.setCell ⟨w.heap.size, 0, none⟩ (.slice A1 k c1)).setCell ⟨w.heap.size, 1, none⟩ (.slice none 0 0)).setCell ⟨w.heap.size, 2, none⟩ (.int .i64 (-1))).setCell ⟨w.heap.size, 3, none⟩ (.int .i64 0)).setCell ⟨w.heap.size, 4, none⟩ (.int .i64 0)).setCell ⟨w.heap.size, 5, none⟩ (.bool false))) A1 k (cutS b k) := ((HO.out.rd (by decide)).notin_bytes (g := w.heap.size) (HO.out.off (by omega)) (d0_byte hrow)).mono (((((((Kept.refl _ wr).set_ (fun _ h => h.2) _ _).set_ (fun _ h => h.2) _ _).set_ (fun _ h => h.2) _ _).set_ (fun _ h => h.2) _ _).set_ (fun _ h => h.2) _ _).set_ (fun _ h => h.2) _ _) (fun _ h => ((((((h.1.set h.2 _ _).set h.2 _ _).set h.2 _ _).set h.2 _ _).set h.2 _ _).set h.2 _ _))
      have hbE : Below w.heap.size w ((((((wr.setCell ⟨w.heap.size, 0, none⟩ (.slice A1 k c1)).setCell ⟨w.heap.size, 1, none⟩ (.slice none 0 0)).setCell ⟨w.heap.size, 2, none⟩ (.int .i64 (-1))).setCell ⟨w.heap.size, 3, none⟩ (.int .i64 0)).setCell ⟨w.heap.size, 4, none⟩ (.int .i64 0)).setCell ⟨w.heap.size, 5, none⟩ (.bool false)) := ((((((HB.out.setCell (by simp) _).setCell (by simp) _).setCell (by simp) _).setCell (by simp) _).setCell (by simp) _).setCell (by simp) _)
      have HR3 := hide hr3
      have HBE := hide hbE
      have hcap := HO.out.cap
      have hfar := HO.out.far (g := w.heap.size + 1) (B := 0) (by omega)
      have hof : 0 < k → ∀ a, A1 = some a → a.block < 0 ∨ w.heap.size ≤ a.block := fun hn a ha => by have := hfar hn a ha; omega
      have HOF := hide hof
      clear hr3 hbE hbx hrow hfar hof
      subst hn
      go_wp2_with fail
      exact bodyPost_ret (v := dV (.slice A1 (m / 64) c1) (.slice none 0 0) (-1) 0 0 false) (by simp [results, Try.results9, go_sem, dV, r0, r1, r2, r3, r4, r5]) rfl ⟨_, _, rfl, hcap, HR3.out, HOF.out, HBE.out⟩
end Go.Proofs.Ytnjmddmiebofeaa
