/- The contract of the reference's Get (layer 6). -/
import Derived.Test.YtpflpampogngiaaRefGeoD
import Derived.Test.YtpflpampogngiaaSumE
import Derived.Test.YtpflpampogngiaaPlan
import Derived.BigRegion
import Derived.Deep.RegionWith
namespace Go.Proofs.Ytpflpampogngiaa
open Go.RowKit Plain

/-- The numbers of a layout's bytes. -/
def gN (b : List UInt8) (i : Nat) : Int := ((b.getD i 0).toNat : Int)
/-- Are they the bytes of an image of a layout? -/
def getB (b : List UInt8) : Bool := decide (64 ≤ b.length) && (geoB (gN b 5) (gN b 6) (gN b 7) (gN b 8) && ((b.take 64 == sealS (hdS (gN b 5) (gN b 6) (gN b 7) (gN b 8))) && decide ((b.length : Int) = 64 * totZ (gN b 5) (gN b 6) (gN b 7) (gN b 8))))
/-- What Get answers. -/
def getV (b : List UInt8) : Value := if getB b = true then .tuple #[geoV (gN b 5) (gN b 6) (gN b 7) (gN b 8), .int .i64 0] else .tuple #[geoV 0 0 0 0, .int .i64 2]
theorem get_byte {w : World} {B bb o m : Nat} {b : List UInt8} (hl : b.length = m) (hm : 64 ≤ m) (hcell : ∀ i x, b[i]? = some x → w.cell? ⟨bb, o + i, none⟩ = some (bv x)) (i : Nat) (hi : i < 64) (_ : B = B) :
    ∃ x : Nat, x < 256 ∧ gN b i = (x : Int) ∧ w.cell? ⟨bb, o + i, none⟩ = some (.int .u8 (x : Int)) := by
  have hib : i < b.length := by omega
  refine ⟨b[i].toNat, b[i].toNat_lt, ?_, hcell i b[i] (List.getElem?_eq_getElem hib)⟩
  unfold gN
  simp [List.getD, hib]

theorem Same_b {A B : Option Addr} {n c d : Nat} {l k : List UInt8} {W1 W2 : Nat} {b : Bool} (h : (l == k) = b) (w : World) (ha : Bs w W1 A n l) (hb : Bs w W2 B n k) (hn : n ≤ 140737488355328) :
    Calls Try.prog 68 #[.slice A n c, .slice B n d] w (BoolRet w b) := by
  have := Same_any (c := c) (d := d) w ha hb hn; rw [h] at this; exact this

set_option maxHeartbeats 800000 in
theorem RGGet_short {A : Option Addr} {m c B : Nat} {b : List UInt8} (w : World) (ha : Bs w B A m b) (hm : m < 64) :
    Calls Try.prog 36 #[.slice A m c] w (VRet w (getV b)) := by
  have hd : decide ((m : Int) < 64) = true := by simp; omega
  have he : getV b = .tuple #[geoV 0 0 0 0, .int .i64 2] := by
    have : getB b = false := by
      unfold getB
      have : decide (64 ≤ b.length) = false := by have := ha.len; simp; omega
      rw [this]
      rfl
    simp [getV, this]
  rw [he]
  clear ha he
  go_enter Try.func36, Try.ntmps36
  go_wp2_with fail
  exact bodyPost_ret (v := .tuple #[geoV 0 0 0 0, .int .i64 2]) (by simp [results, Try.results36, go_sem, geoV]) rfl (VRet.of (below_new (below_self w) _))

set_option maxHeartbeats 1600000 in
theorem RGGet_long {A : Option Addr} {m c : Nat} {b : List UInt8} (w : World) (ha : Bs w w.heap.size A m b) (hm : 64 ≤ m) (hmc : m ≤ c) (hm2 : m ≤ 100000) :
    Calls Try.prog 36 #[.slice A m c] w (VRet w (getV b)) := by
  obtain ⟨bb, o, rfl, hbb, hcell⟩ := ha.2 (by omega)
  have hl := ha.len
  obtain ⟨p, hp, ep, kp⟩ := get_byte (B := 0) hl hm hcell 5 (by omega) rfl
  obtain ⟨q, hq, eq, kq⟩ := get_byte (B := 0) hl hm hcell 6 (by omega) rfl
  obtain ⟨r, hr, er, kr⟩ := get_byte (B := 0) hl hm hcell 7 (by omega) rfl
  obtain ⟨s, hs, es, ks⟩ := get_byte (B := 0) hl hm hcell 8 (by omega) rfl
  have hbe : getB b = (geoB p q r s && ((b.take 64 == sealS (hdS p q r s)) && decide ((m : Int) = 64 * totZ p q r s))) := by
    unfold getB
    have : decide (64 ≤ b.length) = true := by simp; omega
    rw [this, ep, eq, er, es, hl, Bool.true_and]
  have hve : getV b = if getB b = true then .tuple #[geoV p q r s, .int .i64 0] else .tuple #[geoV 0 0 0 0, .int .i64 2] := by unfold getV; rw [ep, eq, er, es]
  rw [hve, hbe]
  have hd : decide ((m : Int) < 64) = false := by simp; omega
  have b5 : (5 : Int) < (m : Int) := by omega
  have b6 : (6 : Int) < (m : Int) := by omega
  have b7 : (7 : Int) < (m : Int) := by omega
  have b8 : (8 : Int) < (m : Int) := by omega
  have m64 : (64 : Int) ≤ (c : Int) := by omega
  have HA := hide (ha.pre (i := 64) hm)
  have HM := hide hm2
  clear hcell hl ha ep eq er es hve hbe hm2
  cases hg : geoB p q r s with
  | false =>
    have HE := hide (geoE_no hg)
    simp only [Bool.false_and, Bool.false_eq_true, if_false]
    clear hg
    go_enter Try.func36, Try.ntmps36
    go_wp2_with fail
    go_region
    clear kp kq kr ks
    have hB : Below w.heap.size w (((w.alloc (.cells #[.int .i64 0, .int .i64 0, .int .i64 0, .int .i64 0] 58)).alloc (.cells #[.int .i64 p, .int .i64 q, .int .i64 r, .int .i64 s] 58)).drew) := below_drewN (below_new (below_new (below_self w) _) _) 1
    have hz : (((w.alloc (.cells #[.int .i64 0, .int .i64 0, .int .i64 0, .int .i64 0] 58)).alloc (.cells #[.int .i64 p, .int .i64 q, .int .i64 r, .int .i64 s] 58)).drew).heap.size = w.heap.size + 2 := by simp
    have c0 : (((w.alloc (.cells #[.int .i64 0, .int .i64 0, .int .i64 0, .int .i64 0] 58)).alloc (.cells #[.int .i64 p, .int .i64 q, .int .i64 r, .int .i64 s] 58)).drew).cell? ⟨w.heap.size + 1, 0, none⟩ = some (.int .i64 p) := by simp
    have c1 : (((w.alloc (.cells #[.int .i64 0, .int .i64 0, .int .i64 0, .int .i64 0] 58)).alloc (.cells #[.int .i64 p, .int .i64 q, .int .i64 r, .int .i64 s] 58)).drew).cell? ⟨w.heap.size + 1, 1, none⟩ = some (.int .i64 q) := by simp
    have c2 : (((w.alloc (.cells #[.int .i64 0, .int .i64 0, .int .i64 0, .int .i64 0] 58)).alloc (.cells #[.int .i64 p, .int .i64 q, .int .i64 r, .int .i64 s] 58)).drew).cell? ⟨w.heap.size + 1, 2, none⟩ = some (.int .i64 r) := by simp
    have c3 : (((w.alloc (.cells #[.int .i64 0, .int .i64 0, .int .i64 0, .int .i64 0] 58)).alloc (.cells #[.int .i64 p, .int .i64 q, .int .i64 r, .int .i64 s] 58)).drew).cell? ⟨w.heap.size + 1, 3, none⟩ = some (.int .i64 s) := by simp
    have z0 : RowL (((w.alloc (.cells #[.int .i64 0, .int .i64 0, .int .i64 0, .int .i64 0] 58)).alloc (.cells #[.int .i64 p, .int .i64 q, .int .i64 r, .int .i64 s] 58)).drew) w.heap.size 58 [.int .i64 0, .int .i64 0, .int .i64 0, .int .i64 0] := by
      have := RowL.grown (row := none) (RowL.new w 58 [.int .i64 0, .int .i64 0, .int .i64 0, .int .i64 0]) (World.grownBy_alloc _ (.cells #[.int .i64 p, .int .i64 q, .int .i64 r, .int .i64 s] 58) none) (by simp)
      exact this
    generalize (((w.alloc (.cells #[.int .i64 0, .int .i64 0, .int .i64 0, .int .i64 0] 58)).alloc (.cells #[.int .i64 p, .int .i64 q, .int .i64 r, .int .i64 s] 58)).drew) = w1 at *
    have HB1 := hide hB
    have hlt : w.heap.size + 1 < w1.heap.size := by omega
    have HA1 := hide ((HA.out.below HB1.out).more HB1.out.size)
    have HZ := hide z0
    clear hB hz z0
    go_wp2_with fail
    refine wp_region_plan (fun w' => Below w1.heap.size w1 w' ∧ w'.cell? ⟨w.heap.size + 1, 0, none⟩ = some (.int .i64 p) ∧ w'.cell? ⟨w.heap.size + 1, 1, none⟩ = some (.int .i64 q) ∧ w'.cell? ⟨w.heap.size + 1, 2, none⟩ = some (.int .i64 r) ∧ w'.cell? ⟨w.heap.size + 1, 3, none⟩ = some (.int .i64 s)) [(0, true), (1, false), (2, true), (3, true), (4, true), (5, true), (6, true), (7, false), (8, false), (9, true), (10, true), (11, true), (12, true), (13, true), (14, true), (15, false), (16, true), (17, true), (18, true)] (by kernel_rfl) (by kernel_rfl) (by kernel_rfl) (by kernel_rfl) rfl (fun _ _ _ _ _ h => h) ⟨below_drewN (below_self w1) 1, c0, c1, c2, c3⟩ (fun hHeld => ?_)
    simp only [planOps, List.filterMap_cons, List.filterMap_nil, List.getElem?_toArray, List.getElem?_cons_succ, List.getElem?_cons_zero, Option.map_some]
    refine wpPlan_take (v := ?_) (by kernel_rfl) (fun wS hSw => ?_) ?_
    rotate_left
    · (try dsimp only at hSw); go_simp; (try with_reducible rfl)
    (try simp only [Act.put, List.setIfInBounds_toArray, List.set_cons_zero, List.set_cons_succ])
    refine wpPlan_call (by kernel_rfl) (fun K hK => ?_)
    have hOld := hide hHeld
    clear hHeld
    go_simp
    go_at_call 38
    refine (RGCheck_e HE.out _).mono ?_
    rintro e w' ⟨rfl, hbel⟩
    refine hK.out _ _ (held4 hbel hlt hOld.out) (fun hHeld => ?_)
    clear hK K
    (try simp only [Act.put, List.setIfInBounds_toArray, List.set_cons_zero, List.set_cons_succ])
    refine wpPlan_take (v := ?_) (by kernel_rfl) (fun wS hSw => ?_) ?_
    rotate_left
    · (try dsimp only at hSw); go_simp; (try with_reducible rfl)
    (try simp only [Act.put, List.setIfInBounds_toArray, List.set_cons_zero, List.set_cons_succ])
    refine wpPlan_take (v := ?_) (by kernel_rfl) (fun wS hSw => ?_) ?_
    rotate_left
    · (try dsimp only at hSw); go_simp; (try with_reducible rfl)
    (try simp only [Act.put, List.setIfInBounds_toArray, List.set_cons_zero, List.set_cons_succ])
    refine wpPlan_skip (by kernel_rfl) ?_
    (try simp only [Act.put, List.setIfInBounds_toArray, List.set_cons_zero, List.set_cons_succ])
    refine wpPlan_skip (by kernel_rfl) ?_
    (try simp only [Act.put, List.setIfInBounds_toArray, List.set_cons_zero, List.set_cons_succ])
    refine wpPlan_skip (by kernel_rfl) ?_
    (try simp only [Act.put, List.setIfInBounds_toArray, List.set_cons_zero, List.set_cons_succ])
    refine wpPlan_skip (by kernel_rfl) ?_
    (try simp only [Act.put, List.setIfInBounds_toArray, List.set_cons_zero, List.set_cons_succ])
    refine wpPlan_skip (by kernel_rfl) ?_
    (try simp only [Act.put, List.setIfInBounds_toArray, List.set_cons_zero, List.set_cons_succ])
    refine wpPlan_skip (by kernel_rfl) ?_
    (try simp only [Act.put, List.setIfInBounds_toArray, List.set_cons_zero, List.set_cons_succ])
    refine wpPlan_take (v := ?_) (by kernel_rfl) (fun wS hSw => ?_) ?_
    rotate_left
    · (try dsimp only at hSw); go_simp; (try with_reducible rfl)
    (try simp only [Act.put, List.setIfInBounds_toArray, List.set_cons_zero, List.set_cons_succ])
    refine wpPlan_take (v := ?_) (by kernel_rfl) (fun wS hSw => ?_) ?_
    rotate_left
    · (try dsimp only at hSw); go_simp; (try with_reducible rfl)
    (try simp only [Act.put, List.setIfInBounds_toArray, List.set_cons_zero, List.set_cons_succ])
    refine wpPlan_skip (by kernel_rfl) ?_
    (try simp only [Act.put, List.setIfInBounds_toArray, List.set_cons_zero, List.set_cons_succ])
    refine wpPlan_skip (by kernel_rfl) ?_
    (try simp only [Act.put, List.setIfInBounds_toArray, List.set_cons_zero, List.set_cons_succ])
    refine wpPlan_skip (by kernel_rfl) ?_
    (try simp only [Act.put, List.setIfInBounds_toArray, List.set_cons_zero, List.set_cons_succ])
    refine wpPlan_skip (by kernel_rfl) ?_
    (try simp only [Act.put, List.setIfInBounds_toArray, List.set_cons_zero, List.set_cons_succ])
    refine wpPlan_skip (by kernel_rfl) ?_
    (try simp only [Act.put, List.setIfInBounds_toArray, List.set_cons_zero, List.set_cons_succ])
    refine wpPlan_skip (by kernel_rfl) ?_
    (try simp only [Act.put, List.setIfInBounds_toArray, List.set_cons_zero, List.set_cons_succ])
    refine wpPlan_take (v := ?_) (by kernel_rfl) (fun wS hSw => ?_) ?_
    rotate_left
    · (try dsimp only at hSw); go_simp; (try with_reducible rfl)
    (try simp only [Act.put, List.setIfInBounds_toArray, List.set_cons_zero, List.set_cons_succ])
    refine wpPlan_end ?_
    have HH := hide hHeld.1
    have hr : RowL w' w.heap.size 58 [.int .i64 0, .int .i64 0, .int .i64 0, .int .i64 0] := (HH.out.block _ (by omega)).trans HZ.out
    have r0 : w'.cell? ⟨w.heap.size, 0, none⟩ = some (.int .i64 0) := hr.cell 0
    have r1 : w'.cell? ⟨w.heap.size, 1, none⟩ = some (.int .i64 0) := hr.cell 1
    have r2 : w'.cell? ⟨w.heap.size, 2, none⟩ = some (.int .i64 0) := hr.cell 2
    have r3 : w'.cell? ⟨w.heap.size, 3, none⟩ = some (.int .i64 0) := hr.cell 3
    have f0 := hr.frozen 0
    have f1 := hr.frozen 1
    have f2 := hr.frozen 2
    have f3 := hr.frozen 3
    clear hHeld c0 c1 c2 c3 hr
    go_wp2_with fail
    exact bodyPost_ret (v := .tuple #[geoV 0 0 0 0, .int .i64 2]) (by simp [results, Try.results36, go_sem, geoV, r0, r1, r2, r3]) rfl (VRet.of ((((((below_step HB1.out HH.out).setCell (by simp) _).setCell (by simp) _).setCell (by simp) _).setCell (by simp) _)))
  | true =>
    have HE := hide (geoE_yes hg)
    have htb := tot_bound hg
    have HG := hide hg
    clear hg
    rw [Bool.true_and]
    obtain ⟨z, hz⟩ : ∃ z, (b.take 64 == sealS (hdS p q r s)) = z := ⟨_, rfl⟩
    rw [hz]
    have HZZ := hide hz
    clear hz
    cases z with
    | false =>
    simp only [Bool.false_and, Bool.false_eq_true, if_false]
    clear htb
    go_enter Try.func36, Try.ntmps36
    go_wp2_with fail
    go_region
    clear kp kq kr ks
    have hB : Below w.heap.size w (((w.alloc (.cells #[.int .i64 0, .int .i64 0, .int .i64 0, .int .i64 0] 58)).alloc (.cells #[.int .i64 p, .int .i64 q, .int .i64 r, .int .i64 s] 58)).drew) := below_drewN (below_new (below_new (below_self w) _) _) 1
    have hz : (((w.alloc (.cells #[.int .i64 0, .int .i64 0, .int .i64 0, .int .i64 0] 58)).alloc (.cells #[.int .i64 p, .int .i64 q, .int .i64 r, .int .i64 s] 58)).drew).heap.size = w.heap.size + 2 := by simp
    have c0 : (((w.alloc (.cells #[.int .i64 0, .int .i64 0, .int .i64 0, .int .i64 0] 58)).alloc (.cells #[.int .i64 p, .int .i64 q, .int .i64 r, .int .i64 s] 58)).drew).cell? ⟨w.heap.size + 1, 0, none⟩ = some (.int .i64 p) := by simp
    have c1 : (((w.alloc (.cells #[.int .i64 0, .int .i64 0, .int .i64 0, .int .i64 0] 58)).alloc (.cells #[.int .i64 p, .int .i64 q, .int .i64 r, .int .i64 s] 58)).drew).cell? ⟨w.heap.size + 1, 1, none⟩ = some (.int .i64 q) := by simp
    have c2 : (((w.alloc (.cells #[.int .i64 0, .int .i64 0, .int .i64 0, .int .i64 0] 58)).alloc (.cells #[.int .i64 p, .int .i64 q, .int .i64 r, .int .i64 s] 58)).drew).cell? ⟨w.heap.size + 1, 2, none⟩ = some (.int .i64 r) := by simp
    have c3 : (((w.alloc (.cells #[.int .i64 0, .int .i64 0, .int .i64 0, .int .i64 0] 58)).alloc (.cells #[.int .i64 p, .int .i64 q, .int .i64 r, .int .i64 s] 58)).drew).cell? ⟨w.heap.size + 1, 3, none⟩ = some (.int .i64 s) := by simp
    have z0 : RowL (((w.alloc (.cells #[.int .i64 0, .int .i64 0, .int .i64 0, .int .i64 0] 58)).alloc (.cells #[.int .i64 p, .int .i64 q, .int .i64 r, .int .i64 s] 58)).drew) w.heap.size 58 [.int .i64 0, .int .i64 0, .int .i64 0, .int .i64 0] := by
      have := RowL.grown (row := none) (RowL.new w 58 [.int .i64 0, .int .i64 0, .int .i64 0, .int .i64 0]) (World.grownBy_alloc _ (.cells #[.int .i64 p, .int .i64 q, .int .i64 r, .int .i64 s] 58) none) (by simp)
      exact this
    generalize (((w.alloc (.cells #[.int .i64 0, .int .i64 0, .int .i64 0, .int .i64 0] 58)).alloc (.cells #[.int .i64 p, .int .i64 q, .int .i64 r, .int .i64 s] 58)).drew) = w1 at *
    have HB1 := hide hB
    have hlt : w.heap.size + 1 < w1.heap.size := by omega
    have HA1 := hide ((HA.out.below HB1.out).more HB1.out.size)
    have HZ := hide z0
    clear hB hz z0
    go_wp2_with fail
    refine wp_region_plan (fun w' => Below w1.heap.size w1 w' ∧ w'.cell? ⟨w.heap.size + 1, 0, none⟩ = some (.int .i64 p) ∧ w'.cell? ⟨w.heap.size + 1, 1, none⟩ = some (.int .i64 q) ∧ w'.cell? ⟨w.heap.size + 1, 2, none⟩ = some (.int .i64 r) ∧ w'.cell? ⟨w.heap.size + 1, 3, none⟩ = some (.int .i64 s)) [(0, true), (1, false), (2, true), (3, true), (4, true), (5, true), (6, true), (7, false), (8, false), (9, true), (10, true), (11, true), (12, true), (13, true), (14, true), (15, false), (16, true), (17, true), (18, true)] (by kernel_rfl) (by kernel_rfl) (by kernel_rfl) (by kernel_rfl) rfl (fun _ _ _ _ _ h => h) ⟨below_drewN (below_self w1) 1, c0, c1, c2, c3⟩ (fun hHeld => ?_)
    simp only [planOps, List.filterMap_cons, List.filterMap_nil, List.getElem?_toArray, List.getElem?_cons_succ, List.getElem?_cons_zero, Option.map_some]
    refine wpPlan_take (v := ?_) (by kernel_rfl) (fun wS hSw => ?_) ?_
    rotate_left
    · (try dsimp only at hSw); go_simp; (try with_reducible rfl)
    (try simp only [Act.put, List.setIfInBounds_toArray, List.set_cons_zero, List.set_cons_succ])
    refine wpPlan_call (by kernel_rfl) (fun K hK => ?_)
    have hOld := hide hHeld
    clear hHeld
    go_simp
    go_at_call 38
    refine (RGCheck_e HE.out _).mono ?_
    rintro e w' ⟨rfl, hbel⟩
    refine hK.out _ _ (held4 hbel hlt hOld.out) (fun hHeld => ?_)
    clear hK K
    (try simp only [Act.put, List.setIfInBounds_toArray, List.set_cons_zero, List.set_cons_succ])
    refine wpPlan_take (v := ?_) (by kernel_rfl) (fun wS hSw => ?_) ?_
    rotate_left
    · (try dsimp only at hSw); go_simp; (try with_reducible rfl)
    (try simp only [Act.put, List.setIfInBounds_toArray, List.set_cons_zero, List.set_cons_succ])
    refine wpPlan_take (v := ?_) (by kernel_rfl) (fun wS hSw => ?_) ?_
    rotate_left
    · (try dsimp only at hSw); go_simp; (try with_reducible rfl)
    (try simp only [Act.put, List.setIfInBounds_toArray, List.set_cons_zero, List.set_cons_succ])
    refine wpPlan_take (v := ?_) (by kernel_rfl) (fun wS hSw => ?_) ?_
    rotate_left
    · (try dsimp only at hSw); go_simp; (try with_reducible rfl)
    (try simp only [Act.put, List.setIfInBounds_toArray, List.set_cons_zero, List.set_cons_succ])
    refine wpPlan_take (v := ?_) (by kernel_rfl) (fun wS hSw => ?_) ?_
    rotate_left
    · (try dsimp only at hSw); go_simp; (try with_reducible rfl)
    (try simp only [Act.put, List.setIfInBounds_toArray, List.set_cons_zero, List.set_cons_succ])
    refine wpPlan_take (v := ?_) (by kernel_rfl) (fun wS hSw => ?_) ?_
    rotate_left
    · (try dsimp only at hSw); go_simp; (try with_reducible rfl)
    (try simp only [Act.put, List.setIfInBounds_toArray, List.set_cons_zero, List.set_cons_succ])
    refine wpPlan_call (by kernel_rfl) (fun K hK => ?_)
    have hOld := hide hHeld
    clear hHeld
    go_simp
    go_at_call 65
    refine (RGBytes_yes HG.out _).mono ?_
    rintro e w' ⟨A2, cc2, rfl, hown, hbel⟩
    have HO2 := hide hown
    clear hown
    refine hK.out _ _ (held4 hbel hlt hOld.out) (fun hHeld => ?_)
    clear hK K
    (try simp only [Act.put, List.setIfInBounds_toArray, List.set_cons_zero, List.set_cons_succ])
    refine wpPlan_call (by kernel_rfl) (fun K hK => ?_)
    have hOld := hide hHeld
    clear hHeld
    go_simp
    go_at_call 68
    refine (Same_b HZZ.out _ (HA1.out.below hOld.out.1) HO2.out.bs (by decide)).mono ?_
    rintro e w' ⟨rfl, hbel⟩
    refine hK.out _ _ (held4 hbel hlt hOld.out) (fun hHeld => ?_)
    clear hK K
    (try simp only [Act.put, List.setIfInBounds_toArray, List.set_cons_zero, List.set_cons_succ])
    refine wpPlan_take (v := ?_) (by kernel_rfl) (fun wS hSw => ?_) ?_
    rotate_left
    · (try dsimp only at hSw); go_simp; (try with_reducible rfl)
    (try simp only [Act.put, List.setIfInBounds_toArray, List.set_cons_zero, List.set_cons_succ])
    refine wpPlan_take (v := ?_) (by kernel_rfl) (fun wS hSw => ?_) ?_
    rotate_left
    · (try dsimp only at hSw); go_simp; (try with_reducible rfl)
    (try simp only [Act.put, List.setIfInBounds_toArray, List.set_cons_zero, List.set_cons_succ])
    refine wpPlan_take (v := ?_) (by kernel_rfl) (fun wS hSw => ?_) ?_
    rotate_left
    · (try dsimp only at hSw); go_simp; (try with_reducible rfl)
    (try simp only [Act.put, List.setIfInBounds_toArray, List.set_cons_zero, List.set_cons_succ])
    refine wpPlan_skip (by kernel_rfl) ?_
    (try simp only [Act.put, List.setIfInBounds_toArray, List.set_cons_zero, List.set_cons_succ])
    refine wpPlan_skip (by kernel_rfl) ?_
    (try simp only [Act.put, List.setIfInBounds_toArray, List.set_cons_zero, List.set_cons_succ])
    refine wpPlan_skip (by kernel_rfl) ?_
    (try simp only [Act.put, List.setIfInBounds_toArray, List.set_cons_zero, List.set_cons_succ])
    refine wpPlan_skip (by kernel_rfl) ?_
    (try simp only [Act.put, List.setIfInBounds_toArray, List.set_cons_zero, List.set_cons_succ])
    refine wpPlan_skip (by kernel_rfl) ?_
    (try simp only [Act.put, List.setIfInBounds_toArray, List.set_cons_zero, List.set_cons_succ])
    refine wpPlan_skip (by kernel_rfl) ?_
    (try simp only [Act.put, List.setIfInBounds_toArray, List.set_cons_zero, List.set_cons_succ])
    refine wpPlan_take (v := ?_) (by kernel_rfl) (fun wS hSw => ?_) ?_
    rotate_left
    · (try dsimp only at hSw); go_simp; (try with_reducible rfl)
    (try simp only [Act.put, List.setIfInBounds_toArray, List.set_cons_zero, List.set_cons_succ])
    refine wpPlan_end ?_
    have HH := hide hHeld.1
    have hr : RowL w' w.heap.size 58 [.int .i64 0, .int .i64 0, .int .i64 0, .int .i64 0] := (HH.out.block _ (by omega)).trans HZ.out
    have r0 : w'.cell? ⟨w.heap.size, 0, none⟩ = some (.int .i64 0) := hr.cell 0
    have r1 : w'.cell? ⟨w.heap.size, 1, none⟩ = some (.int .i64 0) := hr.cell 1
    have r2 : w'.cell? ⟨w.heap.size, 2, none⟩ = some (.int .i64 0) := hr.cell 2
    have r3 : w'.cell? ⟨w.heap.size, 3, none⟩ = some (.int .i64 0) := hr.cell 3
    have f0 := hr.frozen 0
    have f1 := hr.frozen 1
    have f2 := hr.frozen 2
    have f3 := hr.frozen 3
    clear hHeld c0 c1 c2 c3 hr
    go_wp2_with fail
    exact bodyPost_ret (v := .tuple #[geoV 0 0 0 0, .int .i64 2]) (by simp [results, Try.results36, go_sem, geoV, r0, r1, r2, r3]) rfl (VRet.of ((((((below_step HB1.out HH.out).setCell (by simp) _).setCell (by simp) _).setCell (by simp) _).setCell (by simp) _)))
    | true =>
    obtain ⟨y, hy⟩ : ∃ y, totZ p q r s = y := ⟨_, rfl⟩
    have HT := hide hy
    rw [hy] at htb ⊢
    have hw : IntKind.i64.wrap (64 * y) = 64 * y := IntWalk.i64_in _ (by omega)
    rw [Bool.true_and]
    clear hy
    by_cases hly : (m : Int) = 64 * y
    · have d1 : ((m : Int) != 64 * y) = false := by simp [hly]
      have d2 : decide ((m : Int) = 64 * y) = true := by simp [hly]
      rw [d2]
      simp only [if_true]
      clear hly d2 htb
      go_enter Try.func36, Try.ntmps36
      go_wp2_with fail
      go_region
      clear kp kq kr ks
      have hB : Below w.heap.size w (((w.alloc (.cells #[.int .i64 0, .int .i64 0, .int .i64 0, .int .i64 0] 58)).alloc (.cells #[.int .i64 p, .int .i64 q, .int .i64 r, .int .i64 s] 58)).drew) := below_drewN (below_new (below_new (below_self w) _) _) 1
      have hz : (((w.alloc (.cells #[.int .i64 0, .int .i64 0, .int .i64 0, .int .i64 0] 58)).alloc (.cells #[.int .i64 p, .int .i64 q, .int .i64 r, .int .i64 s] 58)).drew).heap.size = w.heap.size + 2 := by simp
      have c0 : (((w.alloc (.cells #[.int .i64 0, .int .i64 0, .int .i64 0, .int .i64 0] 58)).alloc (.cells #[.int .i64 p, .int .i64 q, .int .i64 r, .int .i64 s] 58)).drew).cell? ⟨w.heap.size + 1, 0, none⟩ = some (.int .i64 p) := by simp
      have c1 : (((w.alloc (.cells #[.int .i64 0, .int .i64 0, .int .i64 0, .int .i64 0] 58)).alloc (.cells #[.int .i64 p, .int .i64 q, .int .i64 r, .int .i64 s] 58)).drew).cell? ⟨w.heap.size + 1, 1, none⟩ = some (.int .i64 q) := by simp
      have c2 : (((w.alloc (.cells #[.int .i64 0, .int .i64 0, .int .i64 0, .int .i64 0] 58)).alloc (.cells #[.int .i64 p, .int .i64 q, .int .i64 r, .int .i64 s] 58)).drew).cell? ⟨w.heap.size + 1, 2, none⟩ = some (.int .i64 r) := by simp
      have c3 : (((w.alloc (.cells #[.int .i64 0, .int .i64 0, .int .i64 0, .int .i64 0] 58)).alloc (.cells #[.int .i64 p, .int .i64 q, .int .i64 r, .int .i64 s] 58)).drew).cell? ⟨w.heap.size + 1, 3, none⟩ = some (.int .i64 s) := by simp
      have z0 : RowL (((w.alloc (.cells #[.int .i64 0, .int .i64 0, .int .i64 0, .int .i64 0] 58)).alloc (.cells #[.int .i64 p, .int .i64 q, .int .i64 r, .int .i64 s] 58)).drew) w.heap.size 58 [.int .i64 0, .int .i64 0, .int .i64 0, .int .i64 0] := by
        have := RowL.grown (row := none) (RowL.new w 58 [.int .i64 0, .int .i64 0, .int .i64 0, .int .i64 0]) (World.grownBy_alloc _ (.cells #[.int .i64 p, .int .i64 q, .int .i64 r, .int .i64 s] 58) none) (by simp)
        exact this
      generalize (((w.alloc (.cells #[.int .i64 0, .int .i64 0, .int .i64 0, .int .i64 0] 58)).alloc (.cells #[.int .i64 p, .int .i64 q, .int .i64 r, .int .i64 s] 58)).drew) = w1 at *
      have HB1 := hide hB
      have hlt : w.heap.size + 1 < w1.heap.size := by omega
      have HA1 := hide ((HA.out.below HB1.out).more HB1.out.size)
      have HZ := hide z0
      clear hB hz z0
      go_wp2_with fail
      refine wp_region_plan (fun w' => Below w1.heap.size w1 w' ∧ w'.cell? ⟨w.heap.size + 1, 0, none⟩ = some (.int .i64 p) ∧ w'.cell? ⟨w.heap.size + 1, 1, none⟩ = some (.int .i64 q) ∧ w'.cell? ⟨w.heap.size + 1, 2, none⟩ = some (.int .i64 r) ∧ w'.cell? ⟨w.heap.size + 1, 3, none⟩ = some (.int .i64 s)) [(0, true), (1, false), (2, true), (3, true), (4, true), (5, true), (6, true), (7, false), (8, false), (9, true), (10, true), (11, true), (12, true), (13, true), (14, true), (15, false), (16, true), (17, true), (18, true)] (by kernel_rfl) (by kernel_rfl) (by kernel_rfl) (by kernel_rfl) rfl (fun _ _ _ _ _ h => h) ⟨below_drewN (below_self w1) 1, c0, c1, c2, c3⟩ (fun hHeld => ?_)
      simp only [planOps, List.filterMap_cons, List.filterMap_nil, List.getElem?_toArray, List.getElem?_cons_succ, List.getElem?_cons_zero, Option.map_some]
      refine wpPlan_take (v := ?_) (by kernel_rfl) (fun wS hSw => ?_) ?_
      rotate_left
      · (try dsimp only at hSw); go_simp; (try with_reducible rfl)
      (try simp only [Act.put, List.setIfInBounds_toArray, List.set_cons_zero, List.set_cons_succ])
      refine wpPlan_call (by kernel_rfl) (fun K hK => ?_)
      have hOld := hide hHeld
      clear hHeld
      go_simp
      go_at_call 38
      refine (RGCheck_e HE.out _).mono ?_
      rintro e w' ⟨rfl, hbel⟩
      refine hK.out _ _ (held4 hbel hlt hOld.out) (fun hHeld => ?_)
      clear hK K
      (try simp only [Act.put, List.setIfInBounds_toArray, List.set_cons_zero, List.set_cons_succ])
      refine wpPlan_take (v := ?_) (by kernel_rfl) (fun wS hSw => ?_) ?_
      rotate_left
      · (try dsimp only at hSw); go_simp; (try with_reducible rfl)
      (try simp only [Act.put, List.setIfInBounds_toArray, List.set_cons_zero, List.set_cons_succ])
      refine wpPlan_take (v := ?_) (by kernel_rfl) (fun wS hSw => ?_) ?_
      rotate_left
      · (try dsimp only at hSw); go_simp; (try with_reducible rfl)
      (try simp only [Act.put, List.setIfInBounds_toArray, List.set_cons_zero, List.set_cons_succ])
      refine wpPlan_take (v := ?_) (by kernel_rfl) (fun wS hSw => ?_) ?_
      rotate_left
      · (try dsimp only at hSw); go_simp; (try with_reducible rfl)
      (try simp only [Act.put, List.setIfInBounds_toArray, List.set_cons_zero, List.set_cons_succ])
      refine wpPlan_take (v := ?_) (by kernel_rfl) (fun wS hSw => ?_) ?_
      rotate_left
      · (try dsimp only at hSw); go_simp; (try with_reducible rfl)
      (try simp only [Act.put, List.setIfInBounds_toArray, List.set_cons_zero, List.set_cons_succ])
      refine wpPlan_take (v := ?_) (by kernel_rfl) (fun wS hSw => ?_) ?_
      rotate_left
      · (try dsimp only at hSw); go_simp; (try with_reducible rfl)
      (try simp only [Act.put, List.setIfInBounds_toArray, List.set_cons_zero, List.set_cons_succ])
      refine wpPlan_call (by kernel_rfl) (fun K hK => ?_)
      have hOld := hide hHeld
      clear hHeld
      go_simp
      go_at_call 65
      refine (RGBytes_yes HG.out _).mono ?_
      rintro e w' ⟨A2, cc2, rfl, hown, hbel⟩
      have HO2 := hide hown
      clear hown
      refine hK.out _ _ (held4 hbel hlt hOld.out) (fun hHeld => ?_)
      clear hK K
      (try simp only [Act.put, List.setIfInBounds_toArray, List.set_cons_zero, List.set_cons_succ])
      refine wpPlan_call (by kernel_rfl) (fun K hK => ?_)
      have hOld := hide hHeld
      clear hHeld
      go_simp
      go_at_call 68
      refine (Same_b HZZ.out _ (HA1.out.below hOld.out.1) HO2.out.bs (by decide)).mono ?_
      rintro e w' ⟨rfl, hbel⟩
      refine hK.out _ _ (held4 hbel hlt hOld.out) (fun hHeld => ?_)
      clear hK K
      (try simp only [Act.put, List.setIfInBounds_toArray, List.set_cons_zero, List.set_cons_succ])
      refine wpPlan_take (v := ?_) (by kernel_rfl) (fun wS hSw => ?_) ?_
      rotate_left
      · (try dsimp only at hSw); go_simp; (try with_reducible rfl)
      (try simp only [Act.put, List.setIfInBounds_toArray, List.set_cons_zero, List.set_cons_succ])
      refine wpPlan_take (v := ?_) (by kernel_rfl) (fun wS hSw => ?_) ?_
      rotate_left
      · (try dsimp only at hSw); go_simp; (try with_reducible rfl)
      (try simp only [Act.put, List.setIfInBounds_toArray, List.set_cons_zero, List.set_cons_succ])
      refine wpPlan_take (v := ?_) (by kernel_rfl) (fun wS hSw => ?_) ?_
      rotate_left
      · (try dsimp only at hSw); go_simp; (try with_reducible rfl)
      (try simp only [Act.put, List.setIfInBounds_toArray, List.set_cons_zero, List.set_cons_succ])
      refine wpPlan_take (v := ?_) (by kernel_rfl) (fun wS hSw => ?_) ?_
      rotate_left
      · (try dsimp only at hSw); go_simp; (try with_reducible rfl)
      (try simp only [Act.put, List.setIfInBounds_toArray, List.set_cons_zero, List.set_cons_succ])
      refine wpPlan_take (v := ?_) (by kernel_rfl) (fun wS hSw => ?_) ?_
      rotate_left
      · (try dsimp only at hSw); go_simp; (try with_reducible rfl)
      (try simp only [Act.put, List.setIfInBounds_toArray, List.set_cons_zero, List.set_cons_succ])
      refine wpPlan_take (v := ?_) (by kernel_rfl) (fun wS hSw => ?_) ?_
      rotate_left
      · (try dsimp only at hSw); go_simp; (try with_reducible rfl)
      (try simp only [Act.put, List.setIfInBounds_toArray, List.set_cons_zero, List.set_cons_succ])
      refine wpPlan_call (by kernel_rfl) (fun K hK => ?_)
      have hOld := hide hHeld
      clear hHeld
      go_simp
      go_at_call 40
      refine (RGTotal_e HT.out _).mono ?_
      rintro e w' ⟨rfl, hbel⟩
      refine hK.out _ _ (held4 hbel hlt hOld.out) (fun hHeld => ?_)
      clear hK K
      (try simp only [Act.put, List.setIfInBounds_toArray, List.set_cons_zero, List.set_cons_succ])
      refine wpPlan_take (v := ?_) (by kernel_rfl) (fun wS hSw => ?_) ?_
      rotate_left
      · (try dsimp only at hSw); go_simp; (try with_reducible rfl)
      (try simp only [Act.put, List.setIfInBounds_toArray, List.set_cons_zero, List.set_cons_succ])
      refine wpPlan_take (v := ?_) (by kernel_rfl) (fun wS hSw => ?_) ?_
      rotate_left
      · (try dsimp only at hSw); go_simp; (try with_reducible rfl)
      (try simp only [Act.put, List.setIfInBounds_toArray, List.set_cons_zero, List.set_cons_succ])
      refine wpPlan_take (v := ?_) (by kernel_rfl) (fun wS hSw => ?_) ?_
      rotate_left
      · (try dsimp only at hSw); go_simp; (try with_reducible rfl)
      (try simp only [Act.put, List.setIfInBounds_toArray, List.set_cons_zero, List.set_cons_succ])
      refine wpPlan_end ?_
      have k0 := hHeld.2.1
      have k1 := hHeld.2.2.1
      have k2 := hHeld.2.2.2.1
      have k3 := hHeld.2.2.2.2
      have HH := hide hHeld.1
      have hr : RowL w' w.heap.size 58 [.int .i64 0, .int .i64 0, .int .i64 0, .int .i64 0] := (HH.out.block _ (by omega)).trans HZ.out
      have r0 : w'.cell? ⟨w.heap.size, 0, none⟩ = some (.int .i64 0) := hr.cell 0
      have r1 : w'.cell? ⟨w.heap.size, 1, none⟩ = some (.int .i64 0) := hr.cell 1
      have r2 : w'.cell? ⟨w.heap.size, 2, none⟩ = some (.int .i64 0) := hr.cell 2
      have r3 : w'.cell? ⟨w.heap.size, 3, none⟩ = some (.int .i64 0) := hr.cell 3
      have f0 := hr.frozen 0
      have f1 := hr.frozen 1
      have f2 := hr.frozen 2
      have f3 := hr.frozen 3
      clear hHeld c0 c1 c2 c3 hr
      go_wp2_with fail
      exact bodyPost_ret (v := .tuple #[geoV p q r s, .int .i64 0]) (by simp [results, Try.results36, go_sem, geoV, r0, r1, r2, r3]) rfl (VRet.of ((((((below_step HB1.out HH.out).setCell (by simp) _).setCell (by simp) _).setCell (by simp) _).setCell (by simp) _)))
    · have d1 : ((m : Int) != 64 * y) = true := by simpa using hly
      have d2 : decide ((m : Int) = 64 * y) = false := by simpa using hly
      rw [d2]
      simp only [Bool.false_eq_true, if_false]
      clear hly d2 htb
      go_enter Try.func36, Try.ntmps36
      go_wp2_with fail
      go_region
      clear kp kq kr ks
      have hB : Below w.heap.size w (((w.alloc (.cells #[.int .i64 0, .int .i64 0, .int .i64 0, .int .i64 0] 58)).alloc (.cells #[.int .i64 p, .int .i64 q, .int .i64 r, .int .i64 s] 58)).drew) := below_drewN (below_new (below_new (below_self w) _) _) 1
      have hz : (((w.alloc (.cells #[.int .i64 0, .int .i64 0, .int .i64 0, .int .i64 0] 58)).alloc (.cells #[.int .i64 p, .int .i64 q, .int .i64 r, .int .i64 s] 58)).drew).heap.size = w.heap.size + 2 := by simp
      have c0 : (((w.alloc (.cells #[.int .i64 0, .int .i64 0, .int .i64 0, .int .i64 0] 58)).alloc (.cells #[.int .i64 p, .int .i64 q, .int .i64 r, .int .i64 s] 58)).drew).cell? ⟨w.heap.size + 1, 0, none⟩ = some (.int .i64 p) := by simp
      have c1 : (((w.alloc (.cells #[.int .i64 0, .int .i64 0, .int .i64 0, .int .i64 0] 58)).alloc (.cells #[.int .i64 p, .int .i64 q, .int .i64 r, .int .i64 s] 58)).drew).cell? ⟨w.heap.size + 1, 1, none⟩ = some (.int .i64 q) := by simp
      have c2 : (((w.alloc (.cells #[.int .i64 0, .int .i64 0, .int .i64 0, .int .i64 0] 58)).alloc (.cells #[.int .i64 p, .int .i64 q, .int .i64 r, .int .i64 s] 58)).drew).cell? ⟨w.heap.size + 1, 2, none⟩ = some (.int .i64 r) := by simp
      have c3 : (((w.alloc (.cells #[.int .i64 0, .int .i64 0, .int .i64 0, .int .i64 0] 58)).alloc (.cells #[.int .i64 p, .int .i64 q, .int .i64 r, .int .i64 s] 58)).drew).cell? ⟨w.heap.size + 1, 3, none⟩ = some (.int .i64 s) := by simp
      have z0 : RowL (((w.alloc (.cells #[.int .i64 0, .int .i64 0, .int .i64 0, .int .i64 0] 58)).alloc (.cells #[.int .i64 p, .int .i64 q, .int .i64 r, .int .i64 s] 58)).drew) w.heap.size 58 [.int .i64 0, .int .i64 0, .int .i64 0, .int .i64 0] := by
        have := RowL.grown (row := none) (RowL.new w 58 [.int .i64 0, .int .i64 0, .int .i64 0, .int .i64 0]) (World.grownBy_alloc _ (.cells #[.int .i64 p, .int .i64 q, .int .i64 r, .int .i64 s] 58) none) (by simp)
        exact this
      generalize (((w.alloc (.cells #[.int .i64 0, .int .i64 0, .int .i64 0, .int .i64 0] 58)).alloc (.cells #[.int .i64 p, .int .i64 q, .int .i64 r, .int .i64 s] 58)).drew) = w1 at *
      have HB1 := hide hB
      have hlt : w.heap.size + 1 < w1.heap.size := by omega
      have HA1 := hide ((HA.out.below HB1.out).more HB1.out.size)
      have HZ := hide z0
      clear hB hz z0
      go_wp2_with fail
      refine wp_region_plan (fun w' => Below w1.heap.size w1 w' ∧ w'.cell? ⟨w.heap.size + 1, 0, none⟩ = some (.int .i64 p) ∧ w'.cell? ⟨w.heap.size + 1, 1, none⟩ = some (.int .i64 q) ∧ w'.cell? ⟨w.heap.size + 1, 2, none⟩ = some (.int .i64 r) ∧ w'.cell? ⟨w.heap.size + 1, 3, none⟩ = some (.int .i64 s)) [(0, true), (1, false), (2, true), (3, true), (4, true), (5, true), (6, true), (7, false), (8, false), (9, true), (10, true), (11, true), (12, true), (13, true), (14, true), (15, false), (16, true), (17, true), (18, true)] (by kernel_rfl) (by kernel_rfl) (by kernel_rfl) (by kernel_rfl) rfl (fun _ _ _ _ _ h => h) ⟨below_drewN (below_self w1) 1, c0, c1, c2, c3⟩ (fun hHeld => ?_)
      simp only [planOps, List.filterMap_cons, List.filterMap_nil, List.getElem?_toArray, List.getElem?_cons_succ, List.getElem?_cons_zero, Option.map_some]
      refine wpPlan_take (v := ?_) (by kernel_rfl) (fun wS hSw => ?_) ?_
      rotate_left
      · (try dsimp only at hSw); go_simp; (try with_reducible rfl)
      (try simp only [Act.put, List.setIfInBounds_toArray, List.set_cons_zero, List.set_cons_succ])
      refine wpPlan_call (by kernel_rfl) (fun K hK => ?_)
      have hOld := hide hHeld
      clear hHeld
      go_simp
      go_at_call 38
      refine (RGCheck_e HE.out _).mono ?_
      rintro e w' ⟨rfl, hbel⟩
      refine hK.out _ _ (held4 hbel hlt hOld.out) (fun hHeld => ?_)
      clear hK K
      (try simp only [Act.put, List.setIfInBounds_toArray, List.set_cons_zero, List.set_cons_succ])
      refine wpPlan_take (v := ?_) (by kernel_rfl) (fun wS hSw => ?_) ?_
      rotate_left
      · (try dsimp only at hSw); go_simp; (try with_reducible rfl)
      (try simp only [Act.put, List.setIfInBounds_toArray, List.set_cons_zero, List.set_cons_succ])
      refine wpPlan_take (v := ?_) (by kernel_rfl) (fun wS hSw => ?_) ?_
      rotate_left
      · (try dsimp only at hSw); go_simp; (try with_reducible rfl)
      (try simp only [Act.put, List.setIfInBounds_toArray, List.set_cons_zero, List.set_cons_succ])
      refine wpPlan_take (v := ?_) (by kernel_rfl) (fun wS hSw => ?_) ?_
      rotate_left
      · (try dsimp only at hSw); go_simp; (try with_reducible rfl)
      (try simp only [Act.put, List.setIfInBounds_toArray, List.set_cons_zero, List.set_cons_succ])
      refine wpPlan_take (v := ?_) (by kernel_rfl) (fun wS hSw => ?_) ?_
      rotate_left
      · (try dsimp only at hSw); go_simp; (try with_reducible rfl)
      (try simp only [Act.put, List.setIfInBounds_toArray, List.set_cons_zero, List.set_cons_succ])
      refine wpPlan_take (v := ?_) (by kernel_rfl) (fun wS hSw => ?_) ?_
      rotate_left
      · (try dsimp only at hSw); go_simp; (try with_reducible rfl)
      (try simp only [Act.put, List.setIfInBounds_toArray, List.set_cons_zero, List.set_cons_succ])
      refine wpPlan_call (by kernel_rfl) (fun K hK => ?_)
      have hOld := hide hHeld
      clear hHeld
      go_simp
      go_at_call 65
      refine (RGBytes_yes HG.out _).mono ?_
      rintro e w' ⟨A2, cc2, rfl, hown, hbel⟩
      have HO2 := hide hown
      clear hown
      refine hK.out _ _ (held4 hbel hlt hOld.out) (fun hHeld => ?_)
      clear hK K
      (try simp only [Act.put, List.setIfInBounds_toArray, List.set_cons_zero, List.set_cons_succ])
      refine wpPlan_call (by kernel_rfl) (fun K hK => ?_)
      have hOld := hide hHeld
      clear hHeld
      go_simp
      go_at_call 68
      refine (Same_b HZZ.out _ (HA1.out.below hOld.out.1) HO2.out.bs (by decide)).mono ?_
      rintro e w' ⟨rfl, hbel⟩
      refine hK.out _ _ (held4 hbel hlt hOld.out) (fun hHeld => ?_)
      clear hK K
      (try simp only [Act.put, List.setIfInBounds_toArray, List.set_cons_zero, List.set_cons_succ])
      refine wpPlan_take (v := ?_) (by kernel_rfl) (fun wS hSw => ?_) ?_
      rotate_left
      · (try dsimp only at hSw); go_simp; (try with_reducible rfl)
      (try simp only [Act.put, List.setIfInBounds_toArray, List.set_cons_zero, List.set_cons_succ])
      refine wpPlan_take (v := ?_) (by kernel_rfl) (fun wS hSw => ?_) ?_
      rotate_left
      · (try dsimp only at hSw); go_simp; (try with_reducible rfl)
      (try simp only [Act.put, List.setIfInBounds_toArray, List.set_cons_zero, List.set_cons_succ])
      refine wpPlan_take (v := ?_) (by kernel_rfl) (fun wS hSw => ?_) ?_
      rotate_left
      · (try dsimp only at hSw); go_simp; (try with_reducible rfl)
      (try simp only [Act.put, List.setIfInBounds_toArray, List.set_cons_zero, List.set_cons_succ])
      refine wpPlan_take (v := ?_) (by kernel_rfl) (fun wS hSw => ?_) ?_
      rotate_left
      · (try dsimp only at hSw); go_simp; (try with_reducible rfl)
      (try simp only [Act.put, List.setIfInBounds_toArray, List.set_cons_zero, List.set_cons_succ])
      refine wpPlan_take (v := ?_) (by kernel_rfl) (fun wS hSw => ?_) ?_
      rotate_left
      · (try dsimp only at hSw); go_simp; (try with_reducible rfl)
      (try simp only [Act.put, List.setIfInBounds_toArray, List.set_cons_zero, List.set_cons_succ])
      refine wpPlan_take (v := ?_) (by kernel_rfl) (fun wS hSw => ?_) ?_
      rotate_left
      · (try dsimp only at hSw); go_simp; (try with_reducible rfl)
      (try simp only [Act.put, List.setIfInBounds_toArray, List.set_cons_zero, List.set_cons_succ])
      refine wpPlan_call (by kernel_rfl) (fun K hK => ?_)
      have hOld := hide hHeld
      clear hHeld
      go_simp
      go_at_call 40
      refine (RGTotal_e HT.out _).mono ?_
      rintro e w' ⟨rfl, hbel⟩
      refine hK.out _ _ (held4 hbel hlt hOld.out) (fun hHeld => ?_)
      clear hK K
      (try simp only [Act.put, List.setIfInBounds_toArray, List.set_cons_zero, List.set_cons_succ])
      refine wpPlan_take (v := ?_) (by kernel_rfl) (fun wS hSw => ?_) ?_
      rotate_left
      · (try dsimp only at hSw); go_simp; (try with_reducible rfl)
      (try simp only [Act.put, List.setIfInBounds_toArray, List.set_cons_zero, List.set_cons_succ])
      refine wpPlan_take (v := ?_) (by kernel_rfl) (fun wS hSw => ?_) ?_
      rotate_left
      · (try dsimp only at hSw); go_simp; (try with_reducible rfl)
      (try simp only [Act.put, List.setIfInBounds_toArray, List.set_cons_zero, List.set_cons_succ])
      refine wpPlan_take (v := ?_) (by kernel_rfl) (fun wS hSw => ?_) ?_
      rotate_left
      · (try dsimp only at hSw); go_simp; (try with_reducible rfl)
      (try simp only [Act.put, List.setIfInBounds_toArray, List.set_cons_zero, List.set_cons_succ])
      refine wpPlan_end ?_
      have HH := hide hHeld.1
      have hr : RowL w' w.heap.size 58 [.int .i64 0, .int .i64 0, .int .i64 0, .int .i64 0] := (HH.out.block _ (by omega)).trans HZ.out
      have r0 : w'.cell? ⟨w.heap.size, 0, none⟩ = some (.int .i64 0) := hr.cell 0
      have r1 : w'.cell? ⟨w.heap.size, 1, none⟩ = some (.int .i64 0) := hr.cell 1
      have r2 : w'.cell? ⟨w.heap.size, 2, none⟩ = some (.int .i64 0) := hr.cell 2
      have r3 : w'.cell? ⟨w.heap.size, 3, none⟩ = some (.int .i64 0) := hr.cell 3
      have f0 := hr.frozen 0
      have f1 := hr.frozen 1
      have f2 := hr.frozen 2
      have f3 := hr.frozen 3
      clear hHeld c0 c1 c2 c3 hr
      go_wp2_with fail
      exact bodyPost_ret (v := .tuple #[geoV 0 0 0 0, .int .i64 2]) (by simp [results, Try.results36, go_sem, geoV, r0, r1, r2, r3]) rfl (VRet.of ((((((below_step HB1.out HH.out).setCell (by simp) _).setCell (by simp) _).setCell (by simp) _).setCell (by simp) _)))
theorem RGGet_any {A : Option Addr} {m c : Nat} {b : List UInt8} (w : World) (ha : Bs w w.heap.size A m b) (hmc : m ≤ c) (hm2 : m ≤ 100000) :
    Calls Try.prog 36 #[.slice A m c] w (VRet w (getV b)) := by
  by_cases hm : m < 64
  · exact RGGet_short w ha hm
  · exact RGGet_long w ha (by omega) hmc hm2
end Go.Proofs.Ytpflpampogngiaa
