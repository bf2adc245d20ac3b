/- The contract of the program's dev.cut. -/
import Derived.Test.YtnjmddmiebofeaaDevA
import Derived.Test.YtnjmddmiebofeaaPlanL
import Derived.Test.YtnjmddmiebofeaaRefDevI
namespace Go.Proofs.Ytnjmddmiebofeaa
open Go.RowKit Plain

theorem sec_agg : ∀ w, (isAgg 76).run Try.prog w = .ok true w := fun w => by simp [go_sem]
theorem sec_size : ∀ w, (Go.sizeOf 76).run Try.prog w = .ok 64 w := fun w => by simp [go_sem]
def zsec : Value := .agg (bvs (zeros 64)).toArray
theorem sec_zero : ∀ w, (zeroValue 76).run Try.prog w = .ok zsec w := fun w => by simp [go_sem, zsec, bvs, zeros, bv, List.replicate]
theorem sec_info : (Try.prog.info? 76).map (fun i => (i.zero, i.size, i.bytes)) = some (some zsec, 64, 64) := by kernel_rfl
theorem u8_isize : (Try.prog.info? 5).map (·.size) = some 1 := by kernel_rfl
theorem sec_isize : (Try.prog.info? 76).map (·.size) = some 64 := by kernel_rfl
theorem RowL.of_own {w : World} {base g e n k : Nat} {xs : List Value} (h : w.ownsRow base e k (.slice (some ⟨g, 0, none⟩) n n) n xs) : RowL w g e xs := by
  rcases h.2 with ⟨h0, _⟩ | ⟨g', cap, cur, h1, h2, h3, h4, h5, h6, h7⟩
  · cases h0
  · cases h1
    rw [← h6, List.take_of_length_le (by simp)] at h7
    rw [← h7]
    simpa [RowL] using h3
theorem made_zero (n : Nat) : (madeCells zsec.cells (n * 64)).toList = bvs (zeros (64 * n)) := by
  apply List.ext_getElem?
  intro j
  have e : ∀ k, bvs (zeros k) = List.replicate k (Value.int .u8 0) := fun k => by unfold bvs zeros; rw [List.map_replicate]; rfl
  rw [e]
  by_cases hj : j < n * 64
  · have h64 : j % 64 < 64 := Nat.mod_lt _ (by omega)
    simp [-List.reduceReplicate, madeCells, hj, zsec, Value.cells, e, show j < 64 * n from by omega, h64]
  · simp [madeCells, hj, show ¬ j < 64 * n from by omega]
theorem wpList_make_secs {w : World} {ops : Array Oper} {rest : List Oper} {o : Oper} {a : Act} {Q : Exit → Act → World → Prop}
    (hg : o.guard = none) (l c : Operand) (hop : o.op = Op.makeSlice 72 l c)
    (kl kc : IntKind) (L C : Int) (n : Nat) (hl : a.eval l = .int kl L) (hc : a.eval c = .int kc C) (hL : L = (n : Int)) (hC : C = (n : Int)) (hn : n ≤ 1000000)
    (hK : ∀ w', RowL w' w.heap.size 76 (bvs (zeros (64 * n))) → Below w.heap.size w w' → wpList Try.prog ops Q rest (a.put o.dst (.slice (some ⟨w.heap.size, 0, none⟩) n n)) w') :
    wpList Try.prog ops Q (o :: rest) a w := by
  obtain ⟨i, hi, hz, hsz, hby⟩ := info_parts sec_info
  refine wpList_make_full w hg l c _ hop w.heap.size 76 i zsec 64 Try.underlying72 hi hz hsz kl kc L C n hl hc hL hC (by rw [hby]; omega) (by simp only [maxLen]; omega) (Nat.le_refl _) ?_
  intro w' hown hgr
  refine hK w' ?_ ((Below.refl _ _).grown hgr (Nat.le_refl _) (by simp))
  rw [made_zero] at hown
  exact RowL.of_own hown
/-- What cut has laid of its sectors. -/
def cutB (b : List UInt8) (n k : Nat) : List UInt8 := b.take (64 * k) ++ zeros (64 * (n - k))
theorem cutB_zero (b : List UInt8) (n : Nat) : cutB b n 0 = zeros (64 * n) := by simp [cutB]
theorem cutB_length {b : List UInt8} {n k : Nat} (h : 64 * n ≤ b.length) (hk : k ≤ n) : (cutB b n k).length = 64 * n := by simp [cutB, zeros]; omega
theorem cutB_succ {b : List UInt8} {n k : Nat} (h : 64 * n ≤ b.length) (hk : k < n) : splice (bvs (cutB b n k)) (64 * k) (bvs ((b.drop (64 * k)).take 64)) = bvs (cutB b n (k + 1)) := by
  rw [← bvs_splice]
  congr 1
  have h1 : (b.take (64 * k)).length = 64 * k := by simp; omega
  have h2 : ((b.drop (64 * k)).take 64).length = 64 := by simp; omega
  unfold splice cutB
  rw [h2, List.take_left' h1, show b.take (64 * (k + 1)) = b.take (64 * k) ++ (b.drop (64 * k)).take 64 from by rw [show 64 * (k + 1) = 64 * k + 64 from by omega, List.take_add], List.append_assoc]
  congr 2
  rw [List.drop_append, h1]
  have : (b.take (64 * k)).drop (64 * k + 64) = [] := List.drop_eq_nil_of_le (by rw [h1]; omega)
  rw [this, List.nil_append]
  unfold zeros
  rw [List.drop_replicate]
  congr 1
  omega
theorem cutS_flatten {b : List UInt8} {n : Nat} (h : 64 * n ≤ b.length) : (cutS b n).flatten = b.take (64 * n) := by
  induction n with
  | zero => simp [cutS]
  | succ n ih =>
    rw [cutS_succ, List.flatten_append, ih (by omega), show 64 * (n + 1) = 64 * n + 64 from by omega, List.take_add]
    simp
theorem cutS_length (b : List UInt8) (n : Nat) : (cutS b n).length = n := by simp [cutS]
theorem cutS_64 {b : List UInt8} {n : Nat} (h : 64 * n ≤ b.length) : ∀ s ∈ cutS b n, s.length = 64 := by
  intro s hs
  obtain ⟨i, hi, rfl⟩ := List.mem_map.1 hs
  rw [List.mem_range] at hi
  simp
  omega
/-- It returns sectors of its own, and nothing that was there has turned. -/
def SRet (w : World) (n : Nat) (l : List (List UInt8)) (x : Ending) (w' : World) : Prop := ∃ g c, x = .returned (.slice (some ⟨g, 0, none⟩) n c) ∧ SecR w' w.heap.size g n c l ∧ Below w.heap.size w w'

set_option maxRecDepth 100000 in
set_option maxHeartbeats 1600000 in
theorem DCut_any {A : Option Addr} {m c n : Nat} {b : List UInt8} (w : World) (hb : Bs w w.heap.size A m b) (hmc : m ≤ c) (hm : m ≤ 1000000) (hn : n = m / 64) :
    Calls Try.prog 45 #[.slice A m c] w (SRet w n (cutS b n)) := by
  have hq : (m : Int) / 64 = (n : Int) := by omega
  have hn0 : n ≤ 1000000 := by omega
  have hbl := hb.len
  have hn64 : 64 * n ≤ m := by omega
  have HBB := hide hb
  have HBL := hide hbl
  clear hb hn hbl
  go_enter Try.func45, Try.ntmps45
  go_wp2_with (at_make; refine wpList_make_secs rfl (.tmp 7) (.tmp 7) rfl .i64 .i64 _ _ n rfl rfl rfl rfl (by omega) ?_; intro w1 hr1 hb1; have HR1 := hide hr1; have HB1 := hide hb1; clear hr1 hb1)
  go_loopw [11] (fun iv wr => ∃ k : Nat, k ≤ n ∧ iv = .int .i64 k ∧ RowL wr w.heap.size 76 (bvs (cutB b n k)) ∧ Below w.heap.size w wr) (fun iv _ => n - (intOf iv).toNat)
  case atStart => exact ⟨0, by omega, rfl, by rw [cutB_zero]; exact HR1.out, HB1.out⟩
  case round =>
    obtain ⟨k, hk, rfl, hr, hbel⟩ := hrel
    have HR := hide hr
    have HB := hide hbel
    clear hr hbel
    by_cases hlt : k < n
    · obtain ⟨bb, oo, rfl, hbb, hcell⟩ := HBB.out.2 (by omega)
      have HCE := hide hcell
      have HBBB := hide hbb
      clear hcell hbb
      have hk1 : IntKind.i64.wrap ((k : Int) * 64) = (k : Int) * 64 := IntWalk.i64_in _ (by omega)
      have hk3 : ((k : Int) * 64).toNat = k * 64 := by omega
      have hk5 : (0 : Int) ≤ (k : Int) * 64 := by omega
      have hk6 : (k : Int) * 64 ≤ (m : Int) := by omega
      have hk7 : (c = k * 64) = False := by simp; omega
      go_wp2_with fail
      refine wp_region_plan (fun w' => True) [(0, true), (1, true), (2, true), (3, true), (4, true), (5, true), (6, true), (7, true), (8, false)] (by kernel_rfl) (by kernel_rfl) (by kernel_rfl) (by kernel_rfl) rfl (fun _ _ _ _ _ h => h) trivial (fun hHeld => ?_)
      simp only [planOps, List.filterMap_cons, List.filterMap_nil, List.getElem?_toArray, List.getElem?_cons_succ, List.getElem?_cons_zero, Option.map_some]
      refine wpPlan_take (v := ?_) (by kernel_rfl) (fun wS hSw => ?_) ?_
      rotate_left
      · (try dsimp only at hSw); go_simp; (try with_reducible rfl)
      (try simp only [Act.put, List.setIfInBounds_toArray, List.set_cons_zero, List.set_cons_succ])
      refine wpPlan_take (v := ?_) (by kernel_rfl) (fun wS hSw => ?_) ?_
      rotate_left
      · (try dsimp only at hSw); go_simp; (try with_reducible rfl)
      (try simp only [Act.put, List.setIfInBounds_toArray, List.set_cons_zero, List.set_cons_succ])
      refine wpPlan_take (v := ?_) (by kernel_rfl) (fun wS hSw => ?_) ?_
      rotate_left
      · (try dsimp only at hSw); go_simp; (try with_reducible rfl)
      (try simp only [Act.put, List.setIfInBounds_toArray, List.set_cons_zero, List.set_cons_succ])
      refine wpPlan_take (v := ?_) (by kernel_rfl) (fun wS hSw => ?_) ?_
      rotate_left
      · (try dsimp only at hSw); go_simp; (try with_reducible rfl)
      (try simp only [Act.put, List.setIfInBounds_toArray, List.set_cons_zero, List.set_cons_succ])
      refine wpPlan_take (v := ?_) (by kernel_rfl) (fun wS hSw => ?_) ?_
      rotate_left
      · (try dsimp only at hSw); go_simp; (try with_reducible rfl)
      (try simp only [Act.put, List.setIfInBounds_toArray, List.set_cons_zero, List.set_cons_succ])
      refine wpPlan_take (v := ?_) (by kernel_rfl) (fun wS hSw => ?_) ?_
      rotate_left
      · (try dsimp only at hSw); go_simp; (try with_reducible rfl)
      (try simp only [Act.put, List.setIfInBounds_toArray, List.set_cons_zero, List.set_cons_succ])
      refine wpPlan_take (v := ?_) (by kernel_rfl) (fun wS hSw => ?_) ?_
      rotate_left
      · (try dsimp only at hSw); go_simp; (try with_reducible rfl)
      (try simp only [Act.put, List.setIfInBounds_toArray, List.set_cons_zero, List.set_cons_succ])
      refine wpPlan_take (v := ?_) (by kernel_rfl) (fun wS hSw => ?_) ?_
      rotate_left
      · (try dsimp only at hSw); go_simp; (try with_reducible rfl)
      (try simp only [Act.put, List.setIfInBounds_toArray, List.set_cons_zero, List.set_cons_succ])
      refine wpPlan_call (by kernel_rfl) (fun K hK => ?_)
      have hOld := hide hHeld
      clear hHeld
      refine wp_copyC (.tmp 17) (.tmp 21) _ _ rfl 5 1 Try.underlying22 u8_isize w.heap.size (k * 64) 64 64 rfl (bvs (cutB b n k)) 76 HR.out ⟨bb, oo + k * 64, none⟩ (m - k * 64) (c - k * 64) rfl 64 (by omega) (bvs ((b.drop (64 * k)).take 64)) ?_ ?_ ?_ (bvs_one _) ?_
      · rw [bvs_length]; have := HBL.out; simp; omega
      · intro j v hv
        obtain ⟨x, hx, rfl⟩ := bvs_of_get hv
        rw [List.getElem?_take] at hx
        split at hx
        · rw [List.getElem?_drop] at hx
          rw [Addr.add_lit, Nat.add_assoc]
          refine (HB.out.cell (p := ⟨bb, oo + (k * 64 + j), none⟩) HBBB.out).trans (HCE.out _ _ ?_)
          rw [Nat.mul_comm k 64]
          exact hx
        · cases hx
      · have h0 := HBL.out
        have h1 := cutB_length (b := b) (n := n) (k := k) (by omega) hk
        have h2 : ((b.drop (64 * k)).take 64).length = 64 := by simp; omega
        rw [bvs_length, bvs_length]
        omega
      intro w2 hr2 hg2 hs2
      have HR2 : Hid (RowL w2 w.heap.size 76 (bvs (cutB b n (k + 1)))) := hide (by
        have h0 := HBL.out
        have := cutB_succ (b := b) (n := n) (k := k) (by omega) hlt
        rw [Nat.mul_comm 64 k] at this
        rw [← this]
        rw [Nat.mul_comm 64 k] at hr2
        exact hr2)
      have HB2 : Hid (Below w.heap.size w w2) := hide (HB.out.drew.grown hg2 HB.out.size (by simp))
      clear hr2 hg2 hs2
      refine hK.out _ _ (trivial) (fun hHeld => ?_)
      clear hK K
      (try simp only [Act.put, List.setIfInBounds_toArray, List.set_cons_zero, List.set_cons_succ])
      refine wpPlan_end ?_
      go_wp2_with fail
      go_roundw
      case rel => exact ⟨k + 1, by omega, by go_num, HR2.out, HB2.out⟩
      case measure => simp [intOf]; omega
    · obtain rfl : k = n := by omega
      have HS : Hid (SecR wr w.heap.size w.heap.size k k (cutS b k)) := hide (by
        have h0 := HBL.out
        refine ⟨Nat.le_refl _, Nat.le_refl _, by unfold maxLen; omega, cutS_length b k, cutS_64 (by omega), _, HR.out, ?_, ?_⟩
        · rw [bvs_length, cutB_length (by omega) hk]
        · rw [List.take_of_length_le (by rw [bvs_length, cutB_length (by omega) hk]; omega), cutS_flatten (by omega)]
          simp [cutB, zeros])
      go_wp2_with fail
      go_ret
      exact ⟨_, _, rfl, HS.out, HB.out⟩
end Go.Proofs.Ytnjmddmiebofeaa
