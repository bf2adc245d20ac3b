/- The reference's Bytes, Put, Fresh (layer 7). -/
import Derived.Test.YtnjmddmiebofeaaDoorInoF
import Derived.Test.YtnjmddmiebofeaaDoorPlanG
import Derived.Deep.Cut
import Derived.Deep.CutRange
namespace Go.Proofs.YtnjmddmiebofeaaDoor
open Go.RowKit Plain

/-- A right inode's numbers, in bounds. -/
def okN (x : InoV) : Prop := (1 ≤ x.k ∧ x.k ≤ 4) ∧ (0 ≤ x.i ∧ x.i ≤ 255) ∧ (0 ≤ x.n ∧ x.n ≤ 65535) ∧ (0 ≤ x.g ∧ x.g ≤ 268435455) ∧ (0 ≤ x.s ∧ x.s ≤ 256) ∧ (0 ≤ x.p ∧ x.p ≤ 65535) ∧ (0 ≤ x.q ∧ x.q ≤ 65535) ∧ (0 ≤ x.r ∧ x.r ≤ 65535) ∧ (0 ≤ x.t ∧ x.t ≤ 65535) ∧ (0 ≤ x.a ∧ x.a ≤ 65535)
theorem right_okN {x : InoV} (h : rightI x = true) (h0 : ¬ x = ino0) : okN x := by
  simp only [rightI, h0, decide_false, Bool.false_or, Bool.and_eq_true, decide_eq_true_eq, fitsI, List.all_eq_true, List.mem_range, fitsN] at h
  obtain ⟨⟨h1, h4⟩, hf⟩ := h
  have f0 := hf 0 (by omega)
  have f1 := hf 1 (by omega)
  have f2 := hf 2 (by omega)
  have f3 := hf 3 (by omega)
  have f4 := hf 4 (by omega)
  have f5 := hf 5 (by omega)
  have f6 := hf 6 (by omega)
  have f7 := hf 7 (by omega)
  have f8 := hf 8 (by omega)
  have f9 := hf 9 (by omega)
  simp only [InoV.num, mostI] at f0 f1 f2 f3 f4 f5 f6 f7 f8 f9
  clear hf
  unfold okN
  refine ⟨⟨h1, h4⟩, ⟨f1.1, f1.2⟩, ⟨f2.1, f2.2⟩, ⟨f3.1, f3.2⟩, ?_⟩
  split at f4 <;> split at f5 <;> omega
theorem putS_fit {l : List UInt8} {n : Int} (s : Nat) (hs : s = 1 ∨ s = 2 ∨ s = 4) (h0 : 0 ≤ n) (h1 : n < 256 ^ s) : putS l n s = l ++ nb s n.toNat := by
  have hf : fits n s = true := by
    simp only [fits, Bool.and_eq_true, decide_eq_true_eq]
    refine ⟨by rcases hs with rfl | rfl | rfl <;> rfl, h0, ?_⟩
    simpa using h1
  rw [putS_yes hf]
  simp
/-- The bytes of a right one, written out. -/
theorem bodyI_okN {x : InoV} (h : okN x) : bodyI x 10 = [UInt8.ofNat x.k.toNat, UInt8.ofNat x.i.toNat] ++ nb 2 x.n.toNat ++ nb 4 x.g.toNat ++ nb 2 x.s.toNat ++ nb 2 x.p.toNat ++ nb 2 x.q.toNat ++ nb 2 x.r.toNat ++ nb 2 x.t.toNat ++ nb 2 x.a.toNat := by
  obtain ⟨hk, hi, hn, hg, hs, hp, hq, hr, ht, ha⟩ := h
  have one : ∀ z : Int, 0 ≤ z → z ≤ 255 → nb 1 z.toNat = [UInt8.ofNat z.toNat] := fun z h0 h1 => by
    have e : z.toNat % 256 = z.toNat := Nat.mod_eq_of_lt (by omega)
    simp [nb, e]
  show putS (putS (putS (putS (putS (putS (putS (putS (putS (putS [] x.k (1 : Nat)) x.i (1 : Nat)) x.n (2 : Nat)) x.g (4 : Nat)) x.s (2 : Nat)) x.p (2 : Nat)) x.q (2 : Nat)) x.r (2 : Nat)) x.t (2 : Nat)) x.a (2 : Nat) = _
  rw [putS_fit 1 (by omega) (by omega) (by omega), putS_fit 1 (by omega) (by omega) (by omega), putS_fit 2 (by omega) (by omega) (by omega), putS_fit 4 (by omega) (by omega) (by omega), putS_fit 2 (by omega) (by omega) (by omega), putS_fit 2 (by omega) (by omega) (by omega), putS_fit 2 (by omega) (by omega) (by omega), putS_fit 2 (by omega) (by omega) (by omega), putS_fit 2 (by omega) (by omega) (by omega), putS_fit 2 (by omega) (by omega) (by omega)]
  rw [one x.k (by omega) (by omega), one x.i (by omega) (by omega)]
  simp only [List.nil_append, List.append_assoc, List.cons_append]
theorem byte_of {z : Int} (h0 : 0 ≤ z) (h1 : z ≤ 255) : Value.int .u8 z = bv (UInt8.ofNat z.toNat) := by
  simp only [bv]
  congr 1
  simp
  omega

/-- The bytes of the first j pointers. -/
def pbS (x : InoV) : Nat → List UInt8
  | 0 => []
  | j + 1 => pbS x j ++ nb 2 (x.num (5 + j)).toNat
theorem pbS_len (x : InoV) (j : Nat) : (pbS x j).length = 2 * j := by
  induction j with
  | zero => rfl
  | succ j ih => show (pbS x j ++ _).length = _; rw [List.length_append, nb_length, ih]; omega
theorem ptr_ok {x : InoV} (h : okN x) {j : Nat} (hj : j < 4) : 0 ≤ x.num (5 + j) ∧ x.num (5 + j) < 4294967296 := by
  unfold okN at h
  obtain rfl | rfl | rfl | rfl : j = 0 ∨ j = 1 ∨ j = 2 ∨ j = 3 := by omega
  all_goals (simp only [InoV.num]; omega)
theorem bodyI_pbS {x : InoV} (h : okN x) : [UInt8.ofNat x.k.toNat, UInt8.ofNat x.i.toNat] ++ nb 2 x.n.toNat ++ nb 4 x.g.toNat ++ nb 2 x.s.toNat ++ pbS x 4 ++ nb 2 x.a.toNat = bodyI x 10 := by
  rw [bodyI_okN h]
  simp only [pbS, InoV.num, List.nil_append, List.append_assoc]

set_option maxRecDepth 100000 in
set_option maxHeartbeats 1600000 in
theorem RIBytes_yes {x : InoV} (w : World) (hz : decide (x = ino0) = false) (ho : okN x) : Calls Tryd.prog 18 #[.agg #[.int .i64 x.k, .int .i64 x.i, .int .i64 x.n, .int .i64 x.g, .int .i64 x.s, .int .i64 x.p, .int .i64 x.q, .int .i64 x.r, .int .i64 x.t, .int .i64 x.a]] w (BRet w 5 64 (sealS (bodyI x 10))) := by
  obtain ⟨hr1, hb, hsz⟩ := rows1 w [.int .i64 x.k, .int .i64 x.i, .int .i64 x.n, .int .i64 x.g, .int .i64 x.s, .int .i64 x.p, .int .i64 x.q, .int .i64 x.r, .int .i64 x.t, .int .i64 x.a] 24
  have hE := eq_zero hz
  have HR1 := hide hr1
  have HB := hide hb
  have HO := hide ho
  have hk0 : 0 ≤ x.k := by have := ho.1; omega
  have hk1 : x.k ≤ 255 := by have := ho.1; omega
  have hi0 : 0 ≤ x.i := by have := ho.2.1; omega
  have hi1 : x.i ≤ 255 := by have := ho.2.1; omega
  have hn0 : 0 ≤ x.n := by have := ho.2.2.1; omega
  have hn1 : x.n < 4294967296 := by have := ho.2.2.1; omega
  have hwk : IntKind.u8.wrap x.k = x.k := by simp [IntKind.wrap, IntKind.bits, IntKind.signed]; omega
  have hwi : IntKind.u8.wrap x.i = x.i := by simp [IntKind.wrap, IntKind.bits, IntKind.signed]; omega
  have hlit : [Value.int .u8 x.k, .int .u8 x.i] = bvs [UInt8.ofNat x.k.toNat, UInt8.ofNat x.i.toNat] := by rw [byte_of hk0 hk1, byte_of hi0 hi1]; rfl
  have HLIT := hide hlit
  clear hr1 hb hz ho hlit
  go_enter Tryd.func18, Tryd.ntmps18
  go_upto_region 3 with fail
  have hg0 : w.heap.size < (w.alloc (.cells #[.int .i64 x.k, .int .i64 x.i, .int .i64 x.n, .int .i64 x.g, .int .i64 x.s, .int .i64 x.p, .int .i64 x.q, .int .i64 x.r, .int .i64 x.t, .int .i64 x.a] 24)).heap.size := by simp
  have c0 : (w.alloc (.cells #[.int .i64 x.k, .int .i64 x.i, .int .i64 x.n, .int .i64 x.g, .int .i64 x.s, .int .i64 x.p, .int .i64 x.q, .int .i64 x.r, .int .i64 x.t, .int .i64 x.a] 24)).cell? ⟨w.heap.size, 0, none⟩ = some (.int .i64 x.k) := HR1.out.cell 0
  have c1 : (w.alloc (.cells #[.int .i64 x.k, .int .i64 x.i, .int .i64 x.n, .int .i64 x.g, .int .i64 x.s, .int .i64 x.p, .int .i64 x.q, .int .i64 x.r, .int .i64 x.t, .int .i64 x.a] 24)).cell? ⟨w.heap.size, 1, none⟩ = some (.int .i64 x.i) := HR1.out.cell 1
  have c2 : (w.alloc (.cells #[.int .i64 x.k, .int .i64 x.i, .int .i64 x.n, .int .i64 x.g, .int .i64 x.s, .int .i64 x.p, .int .i64 x.q, .int .i64 x.r, .int .i64 x.t, .int .i64 x.a] 24)).cell? ⟨w.heap.size, 2, none⟩ = some (.int .i64 x.n) := HR1.out.cell 2
  have hs1 : w.heap.size + 1 ≤ (w.alloc (.cells #[.int .i64 x.k, .int .i64 x.i, .int .i64 x.n, .int .i64 x.g, .int .i64 x.s, .int .i64 x.p, .int .i64 x.q, .int .i64 x.r, .int .i64 x.t, .int .i64 x.a] 24)).heap.size := by simp
  clear hsz
  generalize (w.alloc (.cells #[.int .i64 x.k, .int .i64 x.i, .int .i64 x.n, .int .i64 x.g, .int .i64 x.s, .int .i64 x.p, .int .i64 x.q, .int .i64 x.r, .int .i64 x.t, .int .i64 x.a] 24)) = w1 at *
  go_cut [3] from 9 to 19 (fun v wx => ∃ A c, v = .slice A 4 c ∧ Own wx (w.heap.size + 1) 5 A 4 c ([UInt8.ofNat x.k.toNat, UInt8.ofNat x.i.toNat] ++ nb 2 x.n.toNat) ∧ RowL wx w.heap.size 24 [.int .i64 x.k, .int .i64 x.i, .int .i64 x.n, .int .i64 x.g, .int .i64 x.s, .int .i64 x.p, .int .i64 x.q, .int .i64 x.r, .int .i64 x.t, .int .i64 x.a] ∧ Below w.heap.size w wx)
  case first =>
    refine wp_region_G (fun w' => Below w1.heap.size w1 w' ∧ w'.cell? ⟨w.heap.size, 0, none⟩ = some (.int .i64 x.k) ∧ w'.cell? ⟨w.heap.size, 1, none⟩ = some (.int .i64 x.i) ∧ w'.cell? ⟨w.heap.size, 2, none⟩ = some (.int .i64 x.n)) (.take 0 (.take 1 (.take 2 (.take 3 (.take 4 (.take 5 (.take 7 (.take 8 (.alt 6 (.alt 9 (.alt 10 (.take 11 .leaf) .stop) .stop) (.alt 9 (.alt 6 (.alt 10 (.take 11 .leaf) .stop) .stop) .stop)))))))))) (by kernel_rfl) (by kernel_rfl) (by kernel_rfl) (by kernel_rfl) rfl (fun _ _ _ _ _ h => h) ⟨below_drew (below_self w1), c0, c1, c2⟩ (fun hHeld => ?_)
    simp only [PT.map, List.getElem?_toArray, List.getElem?_cons_succ, List.getElem?_cons_zero]
    refine wpPT_take (v := ?_) (by kernel_rfl) (fun wS hSw => ?_) ?_
    rotate_left
    · (try dsimp only at hSw); go_simp; (try with_reducible rfl)
    (try simp only [Act.put, List.setIfInBounds_toArray, List.set_cons_zero, List.set_cons_succ])
    refine wpPT_take (v := ?_) (by kernel_rfl) (fun wS hSw => ?_) ?_
    rotate_left
    · (try dsimp only at hSw); go_simp; (try with_reducible rfl)
    (try simp only [Act.put, List.setIfInBounds_toArray, List.set_cons_zero, List.set_cons_succ])
    refine wpPT_take (v := ?_) (by kernel_rfl) (fun wS hSw => ?_) ?_
    rotate_left
    · (try dsimp only at hSw); go_simp; (try with_reducible rfl)
    (try simp only [Act.put, List.setIfInBounds_toArray, List.set_cons_zero, List.set_cons_succ])
    refine wpPT_take (v := ?_) (by kernel_rfl) (fun wS hSw => ?_) ?_
    rotate_left
    · (try dsimp only at hSw); go_simp; (try with_reducible rfl)
    (try simp only [Act.put, List.setIfInBounds_toArray, List.set_cons_zero, List.set_cons_succ])
    refine wpPT_take (v := ?_) (by kernel_rfl) (fun wS hSw => ?_) ?_
    rotate_left
    · (try dsimp only at hSw); go_simp; (try with_reducible rfl)
    (try simp only [Act.put, List.setIfInBounds_toArray, List.set_cons_zero, List.set_cons_succ])
    refine wpPT_take (v := ?_) (by kernel_rfl) (fun wS hSw => ?_) ?_
    rotate_left
    · (try dsimp only at hSw); go_simp; (try with_reducible rfl)
    (try simp only [Act.put, List.setIfInBounds_toArray, List.set_cons_zero, List.set_cons_succ])
    refine wpPT_take (v := ?_) (by kernel_rfl) (fun wS hSw => ?_) ?_
    rotate_left
    · (try dsimp only at hSw); go_simp; (try with_reducible rfl)
    (try simp only [Act.put, List.setIfInBounds_toArray, List.set_cons_zero, List.set_cons_succ])
    refine wpPT_take (v := ?_) (by kernel_rfl) (fun wS hSw => ?_) ?_
    rotate_left
    · (try dsimp only at hSw); go_simp; (try with_reducible rfl)
    (try simp only [Act.put, List.setIfInBounds_toArray, List.set_cons_zero, List.set_cons_succ])
    refine wpPT_alt (by kernel_rfl) (fun K hK => ?_) ?_
    · skip
      have hOld := hide hHeld
      clear hHeld
      unfold Oper.wp execOp
      go_simp
      have hal := below_new (below_self w1.drew) (.cells #[.int .u8 x.k, .int .u8 x.i] 5)
      have hb' := hal.mono (B' := w1.heap.size) hOld.out.1.size
      have HL := hide ((Own.lit w1.drew 5 (cs := [.int .u8 x.k, .int .u8 x.i]) (n := 2) HLIT.out rfl (by omega)).rebase (b' := w1.heap.size) hOld.out.1.size)
      clear hal
      refine hK.out _ _ (⟨hOld.out.1.trans hb', (hb'.cell (p := ⟨w.heap.size, 0, none⟩) hg0).trans hOld.out.2.1, (hb'.cell (p := ⟨w.heap.size, 1, none⟩) hg0).trans hOld.out.2.2.1, (hb'.cell (p := ⟨w.heap.size, 2, none⟩) hg0).trans hOld.out.2.2.2⟩) (fun hHeld => ?_)
      clear hK K
      (try simp only [Act.put, List.setIfInBounds_toArray, List.set_cons_zero, List.set_cons_succ])
      refine wpPT_alt (by kernel_rfl) (fun K hK => ?_) ?_
      rotate_left
      · exact wpPT_stop
      have hOld := hide hHeld
      clear hHeld
      go_simp
      go_at_call 29
      refine (RBytes_any (s := 2) _ hn0 hn1 (by omega)).mono ?_
      rintro e w' ⟨A2, c2, rfl, hown, hbel⟩
      have hb' := hbel.mono (B' := w1.heap.size) hOld.out.1.size
      have HL2 := hide (HL.out.below hbel)
      have HA2 := hide (hown.bs)
      clear HL
      have HL := HL2
      clear HL2 hown hbel
      refine hK.out _ _ (⟨hOld.out.1.trans hb', (hb'.cell (p := ⟨w.heap.size, 0, none⟩) hg0).trans hOld.out.2.1, (hb'.cell (p := ⟨w.heap.size, 1, none⟩) hg0).trans hOld.out.2.2.1, (hb'.cell (p := ⟨w.heap.size, 2, none⟩) hg0).trans hOld.out.2.2.2⟩) (fun hHeld => ?_)
      clear hK K
      (try simp only [Act.put, List.setIfInBounds_toArray, List.set_cons_zero, List.set_cons_succ])
      refine wpPT_alt (by kernel_rfl) (fun K hK => ?_) ?_
      rotate_left
      · exact wpPT_stop
      have hOld := hide hHeld
      clear hHeld
      refine wp_append_bytes w' (.tmp 15) (.tmp 18) 25 rfl w1.heap.size 5 Tryd.underlying25 info_u8 (some ⟨w1.heap.size, 0, none⟩) 2 2 [UInt8.ofNat x.k.toNat, UInt8.ofNat x.i.toNat] rfl HL.out _ A2 2 c2 _ rfl HA2.out 4 rfl (by omega) hOld.out.1.size ?_
      intro A3 c3 w3 hown3 hb'
      have HO3 := hide hown3
      clear hown3
      refine hK.out _ _ (⟨hOld.out.1.trans hb', (hb'.cell (p := ⟨w.heap.size, 0, none⟩) hg0).trans hOld.out.2.1, (hb'.cell (p := ⟨w.heap.size, 1, none⟩) hg0).trans hOld.out.2.2.1, (hb'.cell (p := ⟨w.heap.size, 2, none⟩) hg0).trans hOld.out.2.2.2⟩) (fun hHeld => ?_)
      clear hK K
      (try simp only [Act.put, List.setIfInBounds_toArray, List.set_cons_zero, List.set_cons_succ])
      refine wpPT_take (v := ?_) (by kernel_rfl) (fun wS hSw => ?_) ?_
      rotate_left
      · (try dsimp only at hSw); go_simp; (try with_reducible rfl)
      (try simp only [Act.put, List.setIfInBounds_toArray, List.set_cons_zero, List.set_cons_succ])
      refine wpPT_leaf ?_
      have HB3 := hide (HB.out.trans (hHeld.1.mono HB.out.size))
      have HRR := hide (HR1.out.on hHeld.1)
      clear hHeld
      go_wp2_with fail
      go_meet
      case rel => exact ⟨A3, c3, rfl, HO3.out.rebase hs1, HRR.out, HB3.out⟩
    refine wpPT_alt (by kernel_rfl) (fun K hK => ?_) ?_
    · skip
      have hOld := hide hHeld
      clear hHeld
      go_simp
      go_at_call 29
      refine (RBytes_any (s := 2) _ hn0 hn1 (by omega)).mono ?_
      rintro e w' ⟨A2, c2, rfl, hown, hbel⟩
      have hb' := hbel.mono (B' := w1.heap.size) hOld.out.1.size
      have HA2 := hide (hown.bs)
      clear hown hbel
      refine hK.out _ _ (⟨hOld.out.1.trans hb', (hb'.cell (p := ⟨w.heap.size, 0, none⟩) hg0).trans hOld.out.2.1, (hb'.cell (p := ⟨w.heap.size, 1, none⟩) hg0).trans hOld.out.2.2.1, (hb'.cell (p := ⟨w.heap.size, 2, none⟩) hg0).trans hOld.out.2.2.2⟩) (fun hHeld => ?_)
      clear hK K
      (try simp only [Act.put, List.setIfInBounds_toArray, List.set_cons_zero, List.set_cons_succ])
      refine wpPT_alt (by kernel_rfl) (fun K hK => ?_) ?_
      rotate_left
      · exact wpPT_stop
      have hOld := hide hHeld
      clear hHeld
      unfold Oper.wp execOp
      go_simp
      have hal := below_new (below_self w') (.cells #[.int .u8 x.k, .int .u8 x.i] 5)
      have hb' := hal.mono (B' := w1.heap.size) hOld.out.1.size
      have HL := hide ((Own.lit w' 5 (cs := [.int .u8 x.k, .int .u8 x.i]) (n := 2) HLIT.out rfl (by omega)).rebase (b' := w1.heap.size) hOld.out.1.size)
      have HA3 := hide ((HA2.out.below hal).more hal.size)
      clear HA2 hal
      have HA2 := HA3
      clear HA3
      refine hK.out _ _ (⟨hOld.out.1.trans hb', (hb'.cell (p := ⟨w.heap.size, 0, none⟩) hg0).trans hOld.out.2.1, (hb'.cell (p := ⟨w.heap.size, 1, none⟩) hg0).trans hOld.out.2.2.1, (hb'.cell (p := ⟨w.heap.size, 2, none⟩) hg0).trans hOld.out.2.2.2⟩) (fun hHeld => ?_)
      clear hK K
      (try simp only [Act.put, List.setIfInBounds_toArray, List.set_cons_zero, List.set_cons_succ])
      refine wpPT_alt (by kernel_rfl) (fun K hK => ?_) ?_
      rotate_left
      · exact wpPT_stop
      have hOld := hide hHeld
      clear hHeld
      refine wp_append_bytes (w'.alloc (.cells #[.int .u8 x.k, .int .u8 x.i] 5)) (.tmp 15) (.tmp 18) 25 rfl w1.heap.size 5 Tryd.underlying25 info_u8 (some ⟨w'.heap.size, 0, none⟩) 2 2 [UInt8.ofNat x.k.toNat, UInt8.ofNat x.i.toNat] rfl HL.out _ A2 2 c2 _ rfl HA2.out 4 rfl (by omega) hOld.out.1.size ?_
      intro A3 c3 w3 hown3 hb'
      have HO3 := hide hown3
      clear hown3
      refine hK.out _ _ (⟨hOld.out.1.trans hb', (hb'.cell (p := ⟨w.heap.size, 0, none⟩) hg0).trans hOld.out.2.1, (hb'.cell (p := ⟨w.heap.size, 1, none⟩) hg0).trans hOld.out.2.2.1, (hb'.cell (p := ⟨w.heap.size, 2, none⟩) hg0).trans hOld.out.2.2.2⟩) (fun hHeld => ?_)
      clear hK K
      (try simp only [Act.put, List.setIfInBounds_toArray, List.set_cons_zero, List.set_cons_succ])
      refine wpPT_take (v := ?_) (by kernel_rfl) (fun wS hSw => ?_) ?_
      rotate_left
      · (try dsimp only at hSw); go_simp; (try with_reducible rfl)
      (try simp only [Act.put, List.setIfInBounds_toArray, List.set_cons_zero, List.set_cons_succ])
      refine wpPT_leaf ?_
      have HB3 := hide (HB.out.trans (hHeld.1.mono HB.out.size))
      have HRR := hide (HR1.out.on hHeld.1)
      clear hHeld
      go_wp2_with fail
      go_meet
      case rel => exact ⟨A3, c3, rfl, HO3.out.rebase hs1, HRR.out, HB3.out⟩
    exact wpPT_stop
  case rest =>
    obtain ⟨A, c, rfl, hown, hrow, hbel⟩ := hcut
    have HO0 := hide hown
    have HR0 := hide hrow
    have HB0 := hide hbel
    clear hown hrow hbel HR1 HB c0 c1 c2 hg0
    have hg0 : w.heap.size < wc.heap.size := HR0.out.lt
    have c3 : wc.cell? ⟨w.heap.size, 3, none⟩ = some (.int .i64 x.g) := HR0.out.cell 3
    have hgg : 0 ≤ x.g ∧ x.g < 4294967296 := by have := HO.out; unfold okN at this; omega
    have hss : 0 ≤ x.s ∧ x.s < 4294967296 := by have := HO.out; unfold okN at this; omega
    have haa : 0 ≤ x.a ∧ x.a < 4294967296 := by have := HO.out; unfold okN at this; omega
    go_wp2_with fail
    refine (RBytes_any (s := 4) _ hgg.1 hgg.2 (by omega)).mono ?_
    rintro e w4 ⟨A4, c4, rfl, hown, hbel⟩
    have HA4 := hide hown
    have HO4 := hide (HO0.out.below hbel)
    have HB4 := hide (below_step HB0.out hbel)
    have HR4 := hide (HR0.out.on hbel)
    clear hown hbel HO0 HR0 HB0 c3
    go_wp2_with (at_builtin; refine wpList_append_Bs _ rfl (.tmp 20) (.tmp 23) 25 rfl (w.heap.size + 1) 5 Tryd.underlying25 info_u8 _ 4 _ _ rfl HO4.out _ _ 4 _ _ rfl HA4.out.bs 8 rfl (by omega) (by have := HB4.out.size; have := HR4.out.lt; omega) ?_; intro A5 c5 w5 hown5 hbel5; have HO5 := hide hown5; have HB5 := hide (HB4.out.trans (hbel5.mono (Nat.le_succ _))); have HR5 := hide (show RowL w5 w.heap.size 24 [.int .i64 x.k, .int .i64 x.i, .int .i64 x.n, .int .i64 x.g, .int .i64 x.s, .int .i64 x.p, .int .i64 x.q, .int .i64 x.r, .int .i64 x.t, .int .i64 x.a] from (hbel5.block w.heap.size (Nat.lt_succ_self _)).trans HR4.out); have hg5 : w.heap.size < w5.heap.size := HR5.out.lt; have k5 : w5.cell? ⟨w.heap.size, 4, none⟩ = some (.int .i64 x.s) := HR5.out.cell 4; clear hown5 hbel5 HO4 HB4 HR4 HA4)
    refine (RBytes_any (s := 2) _ hss.1 hss.2 (by omega)).mono ?_
    rintro e w6 ⟨A4, c4, rfl, hown, hbel⟩
    have HA4 := hide hown
    have HO4 := hide (HO5.out.below hbel)
    have HB4 := hide (below_step HB5.out hbel)
    have HR4 := hide (HR5.out.on hbel)
    clear hown hbel HO5 HR5 HB5 k5 hg5
    go_wp2_with (at_builtin; refine wpList_append_Bs _ rfl (.tmp 25) (.tmp 28) 25 rfl (w.heap.size + 1) 5 Tryd.underlying25 info_u8 _ 8 _ _ rfl HO4.out _ _ 2 _ _ rfl HA4.out.bs 10 rfl (by omega) (by have := HB4.out.size; have := HR4.out.lt; omega) ?_; intro A5 c5 w5 hown5 hbel5; have HO5 := hide hown5; have HB5 := hide (HB4.out.trans (hbel5.mono (Nat.le_succ _))); have HR5 := hide (show RowL w5 w.heap.size 24 [.int .i64 x.k, .int .i64 x.i, .int .i64 x.n, .int .i64 x.g, .int .i64 x.s, .int .i64 x.p, .int .i64 x.q, .int .i64 x.r, .int .i64 x.t, .int .i64 x.a] from (hbel5.block w.heap.size (Nat.lt_succ_self _)).trans HR4.out); have hg5 : w.heap.size < w5.heap.size := HR5.out.lt; skip; clear hown5 hbel5 HO4 HB4 HR4 HA4)
    go_loopw [3, 4] (fun v iv wr => ∃ (j : Nat) (A : Option Addr) (m c : Nat), j ≤ 4 ∧ iv = .int .i64 j ∧ v = .slice A m c ∧ Own wr (w.heap.size + 1) 5 A m c ([UInt8.ofNat x.k.toNat, UInt8.ofNat x.i.toNat] ++ nb 2 x.n.toNat ++ nb 4 x.g.toNat ++ nb 2 x.s.toNat ++ pbS x j) ∧ RowL wr w.heap.size 24 [.int .i64 x.k, .int .i64 x.i, .int .i64 x.n, .int .i64 x.g, .int .i64 x.s, .int .i64 x.p, .int .i64 x.q, .int .i64 x.r, .int .i64 x.t, .int .i64 x.a] ∧ Below w.heap.size w wr) (fun _ iv _ => 4 - (intOf iv).toNat)
    case atStart => exact ⟨0, _, _, _, by omega, rfl, rfl, by show Own _ _ _ _ _ _ (_ ++ []); rw [List.append_nil]; exact HO5.out, HR5.out, HB5.out⟩
    case round =>
      obtain ⟨j, A, m, c, hj, rfl, rfl, hown, hrow, hbel⟩ := hrel
      have hm : m = 10 + 2 * j := by rw [← hown.len]; simp only [List.length_append, nb_length, pbS_len, List.length_cons, List.length_nil]
      have HO6 := hide hown
      have HR6 := hide hrow
      have HB6 := hide hbel
      have hg6 : w.heap.size < wr.heap.size := HR6.out.lt
      have HM := hide hm
      have hm18 : m ≤ 18 := by omega
      clear hown hrow hbel HO5 HR5 HB5 hm
      by_cases hlt : j < 4
      · have hc : wr.cell? ⟨w.heap.size, 5 + j, none⟩ = some (.int .i64 (x.num (5 + j))) := by rw [HR6.out.cell, num_cell x (by omega)]
        have hp := ptr_ok HO.out hlt
        obtain ⟨u, hu⟩ : ∃ u, x.num (5 + j) = u := ⟨_, rfl⟩
        rw [hu] at hc hp
        have hp0 := hp.1
        have hp1 := hp.2
        have HU := hide hu
        clear hu hp
        go_wp2_with fail
        refine (RBytes_any (s := 2) _ hp0 hp1 (by omega)).mono ?_
        rintro e w7 ⟨A4, c4, rfl, hown, hbel⟩
        have HA7 := hide hown
        have HO7 := hide (HO6.out.below hbel)
        have HB7 := hide (below_step HB6.out hbel)
        have HR7 := hide (HR6.out.on hbel)
        clear hown hbel hc
        go_wp2_with (at_builtin; refine wpList_append_Bs _ rfl (.tmp 34) (.tmp 39) 25 rfl (w.heap.size + 1) 5 Tryd.underlying25 info_u8 _ m _ _ rfl HO7.out _ _ 2 _ _ rfl HA7.out.bs (m + 2) rfl (by omega) (by have := HR7.out.lt; omega) ?_; intro A8 c8 w8 hown8 hbel8; have HO8 := hide hown8; have HB8 := hide (HB7.out.trans (hbel8.mono (Nat.le_succ _))); have HR8 := hide (show RowL w8 w.heap.size 24 [.int .i64 x.k, .int .i64 x.i, .int .i64 x.n, .int .i64 x.g, .int .i64 x.s, .int .i64 x.p, .int .i64 x.q, .int .i64 x.r, .int .i64 x.t, .int .i64 x.a] from (hbel8.block w.heap.size (Nat.lt_succ_self _)).trans HR7.out); clear hown8 hbel8)
        go_roundw
        case rel => exact ⟨j + 1, _, _, _, by omega, by go_num, rfl, by show Own _ _ _ _ _ _ (_ ++ (pbS x j ++ nb 2 (x.num (5 + j)).toNat)); rw [HU.out, ← List.append_assoc]; exact HO8.out, HR8.out, HB8.out⟩
        case measure => simp [intOf]; omega
      · obtain rfl : j = 4 := by omega
        have k6 : wr.cell? ⟨w.heap.size, 9, none⟩ = some (.int .i64 x.a) := HR6.out.cell 9
        go_wp2_with fail
        refine (RBytes_any (s := 2) _ haa.1 haa.2 (by omega)).mono ?_
        rintro e w7 ⟨A4, c4, rfl, hown, hbel⟩
        have HA7 := hide hown
        have HO7 := hide (HO6.out.below hbel)
        have HB7 := hide (below_step HB6.out hbel)
        have HR7 := hide (HR6.out.on hbel)
        clear hown hbel k6
        go_wp2_with (at_builtin; refine wpList_append_Bs _ rfl (.tmp 41) (.tmp 44) 25 rfl (w.heap.size + 1) 5 Tryd.underlying25 info_u8 _ m _ _ rfl HO7.out _ _ 2 _ _ rfl HA7.out.bs (m + 2) rfl (by omega) (by have := HR7.out.lt; omega) ?_; intro A8 c8 w8 hown8 hbel8; have HO8 := hide hown8; have HB8 := hide (HB7.out.trans (hbel8.mono (Nat.le_succ _))); clear hown8 hbel8)
        refine (RSeal_any _ HO8.out.bs (by omega)).mono ?_
        rintro e w9 ⟨A9, c9, rfl, hown, hbel⟩
        rw [bodyI_pbS HO.out] at hown
        have HO9 := hide (hown.rebase HB8.out.size)
        have HB9 := hide (below_step HB8.out hbel)
        clear hown hbel
        go_wp2_with fail
        go_ret
        exact HO9.out.ret HB9.out
end Go.Proofs.YtnjmddmiebofeaaDoor
