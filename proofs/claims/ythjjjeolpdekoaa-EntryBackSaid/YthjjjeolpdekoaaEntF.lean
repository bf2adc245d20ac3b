/- entry.parts: the slots of a block, one behind the other (layer 8). -/
import Derived.Test.YthjjjeolpdekoaaEntE
import Derived.RangeFuncNested
import Derived.RangeFuncBound
import Derived.RangeFuncCalls
import Derived.RangeFuncLeaves
import Derived.Shelf.Abstract
import Derived.Shelf.RegionOpen
import Derived.WalkKit
import Derived.OwnWalkIn
import Derived.TacticsInMore
import Derived.LoopNIn
import Derived.LoopIn
namespace Go.Proofs.Ythjjjeolpdekoaa
open Go.RowKit Go.Shelf Plain
attribute [local go_sem] Oper.semAt_some

/-- What a round must keep: the two boxes of the iterator. -/
def KpB (m1 m2 : Nat) (W W' : World) : Prop := W'.cell? ⟨m1, 0, none⟩ = W.cell? ⟨m1, 0, none⟩ ∧ W'.cell? ⟨m2, 0, none⟩ = W.cell? ⟨m2, 0, none⟩
/-- A slot's number, and its bytes. -/
def encP (k : Int) (b o c : Nat) (j : Fin 4) : Array Value := #[.int .i64 (k * 4 + (j.1 : Int)), .slice (some ⟨b, o + 16 * j.1, none⟩) 16 (c - 16 * j.1)]

/-- The first j slots of a block. -/
def upTo (j : Nat) : List (Fin 4) := (List.finRange 4).take j
theorem upTo_snoc {j : Nat} (h : j < 4) : upTo j ++ [⟨j, h⟩] = upTo (j + 1) := by
  obtain rfl | rfl | rfl | rfl : j = 0 ∨ j = 1 ∨ j = 2 ∨ j = 3 := by omega
  all_goals rfl
theorem upTo_pre {j : Nat} (h : j < 4) : upTo j ++ [⟨j, h⟩] <+: List.finRange 4 := by
  rw [upTo_snoc h]
  exact List.take_prefix _ _
theorem upTo_length {j : Nat} (h : j ≤ 4) : (upTo j).length = j := by
  unfold upTo
  rw [List.length_take, List.length_finRange]
  omega
set_option maxRecDepth 100000 in
set_option maxHeartbeats 800000 in
theorem parts1_stops (F : Fence) (n : Nat) (h85 : F.fn 78) (hro : F.round = none) (hn : 1 ≤ n) (m1 m2 : Nat) (k : Int) (b o c : Nat) (hk0 : 0 ≤ k) (hk4 : k < 4) (hc : 64 ≤ c) (w : World)
    (h1 : w.cell? ⟨m1, 0, none⟩ = some (.slice (some ⟨b, o, none⟩) 64 c)) (h2 : w.cell? ⟨m2, 0, none⟩ = some (.int .i64 k)) (hm1 : m1 < w.heap.size) (hm2 : m2 < w.heap.size) :
    SeqStopsK F n Try.prog 78 #[.pointer (some ⟨m1, 0, none⟩), .pointer (some ⟨m2, 0, none⟩)] (encP k b o c) (KpB m1 m2) (fun xs => xs = List.finRange 4) (fun pre => pre <+: List.finRange 4) 4 w := fun l J Jx W hW hAJ _ hY h0 => by
  have hb1 : W.cell? ⟨m1, 0, none⟩ = some (.slice (some ⟨b, o, none⟩) 64 c) := (hW.cell hm1).trans h1
  have hb2 : W.cell? ⟨m2, 0, none⟩ = some (.int .i64 k) := (hW.cell hm2).trans h2
  refine callsIn_of_wp Try.func78 rfl h85 ?_ hro
  simp only [Try.ntmps78, List.size_toArray, List.length_cons, List.length_nil, Nat.reduceAdd, Nat.reduceSub, Array.replicate_succ, Array.replicate_zero, List.push_toArray, List.append_toArray, List.nil_append, List.cons_append]
  clear h1 h2 hm1 hm2 hW
  gi_wp2
  gi_loopw [17] (fun iv wr => ∃ j : Nat, j ≤ 4 ∧ iv = .int .i64 j ∧ J (upTo j) wr ∧ wr.cell? ⟨m1, 0, none⟩ = some (.slice (some ⟨b, o, none⟩) 64 c) ∧ wr.cell? ⟨m2, 0, none⟩ = some (.int .i64 k)) (fun iv _ => 4 - (intOf iv).toNat)
  case atStart => exact ⟨0, by omega, rfl, h0, hb1, hb2⟩
  case round =>
    obtain ⟨j, hj, rfl, hJ, hc1, hc2⟩ := hrel
    clear hb1 hb2 h0
    by_cases hlt : j < 4
    · have hJd : J (upTo j) wr.drew := hAJ _ _ _ none hJ ⟨rfl, rfl, rfl, Nat.le_refl _, fun _ _ _ => rfl⟩ (fun r e => by cases e)
      obtain ⟨fn, tmps, assign, body, hy, hR⟩ := hY (upTo j) ⟨j, hlt⟩ wr.drew hJd (by rw [upTo_length (by omega)]; omega)
      have hR' := hR.mono (R' := fun e W' => ∃ bb, e = .returned (.bool bb) ∧ ((bb = true ∧ J (upTo j ++ [⟨j, hlt⟩]) W' ∧ KpB m1 m2 wr.drew W') ∨ (bb = false ∧ Jx (upTo j ++ [⟨j, hlt⟩]) W'))) (by
        rintro e W' (⟨rfl, h1, h2⟩ | ⟨rfl, h1⟩)
        · exact ⟨true, rfl, .inl ⟨rfl, h1, h2⟩⟩
        · exact ⟨false, rfl, .inr ⟨rfl, h1⟩⟩)
      have HR := hide hR'
      have hmx : Try.prog.follows .mixedOrders = true := by kernel_rfl
      clear hR hR' hJd
      dsimp only [encP] at hy
      have hw1 : IntKind.i64.wrap ((j : Int) * 16) = (j : Int) * 16 := IntWalk.i64_in _ (by omega)
      have hw2 : IntKind.i64.wrap (k * 4) = k * 4 := IntWalk.i64_in _ (by omega)
      have hw3 : IntKind.i64.wrap (k * 4 + (j : Int)) = k * 4 + (j : Int) := IntWalk.i64_in _ (by omega)
      have hw4 : IntKind.i64.wrap ((j : Int) * 16 + 16) = (j : Int) * 16 + 16 := IntWalk.i64_in _ (by omega)
      have ht1 : ((j : Int) * 16).toNat = 16 * j := by omega
      have ht2 : ((j : Int) * 16 + 16).toNat = 16 * j + 16 := by omega
      have hp1 : (0 : Int) ≤ (j : Int) * 16 := by omega
      have hp2 : (j : Int) * 16 ≤ (j : Int) * 16 + 16 := by omega
      have hp3 : (j : Int) * 16 + 16 ≤ (c : Int) := by omega
      have hne : ¬ c = 16 * j := by omega
      gi_wp2
      refine wpIn_region_any (by assumption) ?_
      (try (change wpAnyIn _ _ _ _ _ _ _ _ _ (World.drew _)))
      refine wpAnyIn_take (i := 0) (v := ?_) hro rfl (by kernel_rfl) (by kernel_rfl) (by kernel_rfl) (fun _ _ _ h => h) ⟨Or.inl ⟨by rfl, ?_⟩, fun _ => rfl⟩ ?_
      rotate_left
      · (intro w; go_simp); (try with_reducible rfl)
      refine wpAnyIn_take (i := 3) (v := ?_) hro rfl (by kernel_rfl) (by kernel_rfl) (by kernel_rfl) (fun _ _ _ h => h) ⟨Or.inl ⟨by rfl, ?_⟩, fun _ => rfl⟩ ?_
      rotate_left
      · (intro w; go_simp); (try with_reducible rfl)
      refine wpAnyIn_take (i := 6) (v := ?_) hro rfl (by kernel_rfl) (by kernel_rfl) (by kernel_rfl) (fun _ _ _ h => h) ⟨Or.inl ⟨by rfl, ?_⟩, fun _ => rfl⟩ ?_
      rotate_left
      · (intro w; go_simp); (try with_reducible rfl)
      refine wpAnyIn_take (i := 7) (v := ?_) hro rfl (by kernel_rfl) (by kernel_rfl) (by kernel_rfl) (fun _ _ _ h => h) ⟨Or.inl ⟨by rfl, ?_⟩, fun _ => rfl⟩ ?_
      rotate_left
      · (intro w; go_simp); (try with_reducible rfl)
      refine wpAnyIn_take (i := 8) (v := ?_) hro rfl (by kernel_rfl) (by kernel_rfl) (by kernel_rfl) (fun _ _ _ h => h) ⟨Or.inl ⟨by rfl, ?_⟩, fun _ => rfl⟩ ?_
      rotate_left
      · (intro w; go_simp); (try with_reducible rfl)
      refine wpAnyIn_ready (rs := [1, 5]) (by kernel_rfl) (by simp) ?_
      refine AllReadyIn.cons rfl (fun K hK => ?_) ?_
      · skip
        go_simp
        refine hK _ _ ?_
        clear hK K
        refine wpAnyIn_take (i := 2) (v := ?_) hro rfl (by kernel_rfl) (by kernel_rfl) (by kernel_rfl) (fun _ _ _ h => h) ⟨Or.inl ⟨by rfl, ?_⟩, fun _ => rfl⟩ ?_
        rotate_left
        · (intro w; go_simp); (try with_reducible rfl)
        refine wpAnyIn_take (i := 4) (v := ?_) hro rfl (by kernel_rfl) (by kernel_rfl) (by kernel_rfl) (fun _ _ _ h => h) ⟨Or.inl ⟨by rfl, ?_⟩, fun _ => rfl⟩ ?_
        rotate_left
        · (intro w; go_simp); (try with_reducible rfl)
        refine wpAnyIn_ready (rs := [5]) (by kernel_rfl) (by simp) ?_
        refine AllReadyIn.cons rfl (fun K hK => ?_) ?_
        · skip
          go_simp
          refine hK _ _ ?_
          clear hK K
          refine wpAnyIn_ready (rs := [9]) (by kernel_rfl) (by simp) ?_
          refine AllReadyIn.cons rfl (fun K hK => ?_) ?_
          · skip
            go_simp
            refine hK _ _ ?_
            clear hK K
            refine wpAnyIn_ready (rs := [10]) (by kernel_rfl) (by simp) ?_
            refine AllReadyIn.cons rfl (fun K hK => ?_) ?_
            · skip
              go_simp
              gi_wp2_with ((with_reducible refine HR.out.mono ?_); rintro e W' ⟨bb, rfl, hbb⟩)
              refine wpAnyIn_take (i := 11) (v := ?_) hro rfl (by kernel_rfl) (by kernel_rfl) (by kernel_rfl) (fun _ _ _ h => h) ⟨Or.inl ⟨by rfl, ?_⟩, fun _ => rfl⟩ ?_
              rotate_left
              · (intro w; go_simp); (try with_reducible rfl)
              refine wpAnyIn_done (by kernel_rfl) ?_ _
              rcases hbb with ⟨rfl, hJ2, hk2⟩ | ⟨rfl, hJx2⟩
              · gi_wp2
                go_roundw
                case rel => exact ⟨j + 1, by omega, by go_num, by rw [← upTo_snoc hlt]; exact hJ2, hk2.1.trans hc1, hk2.2.trans hc2⟩
                case measure => simp [intOf]; omega
              · gi_wp2
                refine bodyPost_ret (results_none rfl _ _ _) rfl ?_
                exact ⟨⟨_, rfl⟩, .inr ⟨upTo j ++ [⟨j, hlt⟩], upTo_pre hlt, hJx2⟩⟩
            exact AllReadyIn.nil
          exact AllReadyIn.nil
        exact AllReadyIn.nil
      refine AllReadyIn.cons rfl (fun K hK => ?_) ?_
      · skip
        go_simp
        refine hK _ _ ?_
        clear hK K
        refine wpAnyIn_ready (rs := [1, 9]) (by kernel_rfl) (by simp) ?_
        refine AllReadyIn.cons rfl (fun K hK => ?_) ?_
        · skip
          go_simp
          refine hK _ _ ?_
          clear hK K
          refine wpAnyIn_take (i := 2) (v := ?_) hro rfl (by kernel_rfl) (by kernel_rfl) (by kernel_rfl) (fun _ _ _ h => h) ⟨Or.inl ⟨by rfl, ?_⟩, fun _ => rfl⟩ ?_
          rotate_left
          · (intro w; go_simp); (try with_reducible rfl)
          refine wpAnyIn_take (i := 4) (v := ?_) hro rfl (by kernel_rfl) (by kernel_rfl) (by kernel_rfl) (fun _ _ _ h => h) ⟨Or.inl ⟨by rfl, ?_⟩, fun _ => rfl⟩ ?_
          rotate_left
          · (intro w; go_simp); (try with_reducible rfl)
          refine wpAnyIn_ready (rs := [9]) (by kernel_rfl) (by simp) ?_
          refine AllReadyIn.cons rfl (fun K hK => ?_) ?_
          · skip
            go_simp
            refine hK _ _ ?_
            clear hK K
            refine wpAnyIn_ready (rs := [10]) (by kernel_rfl) (by simp) ?_
            refine AllReadyIn.cons rfl (fun K hK => ?_) ?_
            · skip
              go_simp
              gi_wp2_with ((with_reducible refine HR.out.mono ?_); rintro e W' ⟨bb, rfl, hbb⟩)
              refine wpAnyIn_take (i := 11) (v := ?_) hro rfl (by kernel_rfl) (by kernel_rfl) (by kernel_rfl) (fun _ _ _ h => h) ⟨Or.inl ⟨by rfl, ?_⟩, fun _ => rfl⟩ ?_
              rotate_left
              · (intro w; go_simp); (try with_reducible rfl)
              refine wpAnyIn_done (by kernel_rfl) ?_ _
              rcases hbb with ⟨rfl, hJ2, hk2⟩ | ⟨rfl, hJx2⟩
              · gi_wp2
                go_roundw
                case rel => exact ⟨j + 1, by omega, by go_num, by rw [← upTo_snoc hlt]; exact hJ2, hk2.1.trans hc1, hk2.2.trans hc2⟩
                case measure => simp [intOf]; omega
              · gi_wp2
                refine bodyPost_ret (results_none rfl _ _ _) rfl ?_
                exact ⟨⟨_, rfl⟩, .inr ⟨upTo j ++ [⟨j, hlt⟩], upTo_pre hlt, hJx2⟩⟩
            exact AllReadyIn.nil
          exact AllReadyIn.nil
        refine AllReadyIn.cons rfl (fun K hK => ?_) ?_
        · skip
          go_simp
          refine hK _ _ ?_
          clear hK K
          refine wpAnyIn_ready (rs := [1]) (by kernel_rfl) (by simp) ?_
          refine AllReadyIn.cons rfl (fun K hK => ?_) ?_
          · skip
            go_simp
            refine hK _ _ ?_
            clear hK K
            refine wpAnyIn_take (i := 2) (v := ?_) hro rfl (by kernel_rfl) (by kernel_rfl) (by kernel_rfl) (fun _ _ _ h => h) ⟨Or.inl ⟨by rfl, ?_⟩, fun _ => rfl⟩ ?_
            rotate_left
            · (intro w; go_simp); (try with_reducible rfl)
            refine wpAnyIn_take (i := 4) (v := ?_) hro rfl (by kernel_rfl) (by kernel_rfl) (by kernel_rfl) (fun _ _ _ h => h) ⟨Or.inl ⟨by rfl, ?_⟩, fun _ => rfl⟩ ?_
            rotate_left
            · (intro w; go_simp); (try with_reducible rfl)
            refine wpAnyIn_ready (rs := [10]) (by kernel_rfl) (by simp) ?_
            refine AllReadyIn.cons rfl (fun K hK => ?_) ?_
            · skip
              go_simp
              gi_wp2_with ((with_reducible refine HR.out.mono ?_); rintro e W' ⟨bb, rfl, hbb⟩)
              refine wpAnyIn_take (i := 11) (v := ?_) hro rfl (by kernel_rfl) (by kernel_rfl) (by kernel_rfl) (fun _ _ _ h => h) ⟨Or.inl ⟨by rfl, ?_⟩, fun _ => rfl⟩ ?_
              rotate_left
              · (intro w; go_simp); (try with_reducible rfl)
              refine wpAnyIn_done (by kernel_rfl) ?_ _
              rcases hbb with ⟨rfl, hJ2, hk2⟩ | ⟨rfl, hJx2⟩
              · gi_wp2
                go_roundw
                case rel => exact ⟨j + 1, by omega, by go_num, by rw [← upTo_snoc hlt]; exact hJ2, hk2.1.trans hc1, hk2.2.trans hc2⟩
                case measure => simp [intOf]; omega
              · gi_wp2
                refine bodyPost_ret (results_none rfl _ _ _) rfl ?_
                exact ⟨⟨_, rfl⟩, .inr ⟨upTo j ++ [⟨j, hlt⟩], upTo_pre hlt, hJx2⟩⟩
            exact AllReadyIn.nil
          exact AllReadyIn.nil
        exact AllReadyIn.nil
      exact AllReadyIn.nil
    · obtain rfl : j = 4 := by omega
      gi_wp2
      go_end0
      exact ⟨⟨_, rfl⟩, .inl ⟨upTo 4, rfl, hJ⟩⟩
end Go.Proofs.Ythjjjeolpdekoaa
