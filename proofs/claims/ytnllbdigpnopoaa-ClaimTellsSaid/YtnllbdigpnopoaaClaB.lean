/- claim: an inode's pointers: what pointer, pointers and its iterator answer (layer 11). -/
import Derived.Test.YtnllbdigpnopoaaClaA
import Derived.Test.YtnllbdigpnopoaaMemF
import Derived.Test.YtnllbdigpnopoaaMemK
import Derived.Test.YtnllbdigpnopoaaRefGeoA
namespace Go.Proofs.Ytnllbdigpnopoaa
open Go.RowKit Go.Shelf Plain
attribute [local go_sem] Oper.semAt_some

/-- An inode's cells. -/
def inoC (x : InoV) : List Value := [.int .i64 x.k, .int .i64 x.i, .int .i64 x.n, .int .i64 x.g, .int .i64 x.s, .int .i64 x.p, .int .i64 x.q, .int .i64 x.r, .int .i64 x.t, .int .i64 x.a]
/-- A number of 64 bits. -/
def w64 (x : Int) : Prop := -9223372036854775808 ≤ x ∧ x ≤ 9223372036854775807
def InoV.wf (x : InoV) : Prop := w64 x.p ∧ w64 x.q ∧ w64 x.r ∧ w64 x.t ∧ w64 x.a
def inoEn : Enc InoV where
  k := 10
  R := fun _ _ cs x => cs = inoC x ∧ x.wf
  len := fun ⟨h, _⟩ => by rw [h]; rfl
  one := fun ⟨h, _⟩ v hv => by
    rw [h] at hv
    simp only [inoC, List.mem_cons, List.not_mem_nil, or_false] at hv
    rcases hv with rfl | rfl | rfl | rfl | rfl | rfl | rfl | rfl | rfl | rfl <;> rfl
  mono := fun h _ _ => h
theorem ptr_wf {x : InoV} (h : x.wf) {k : Nat} (hk : k < 5) : w64 (ptr x k) := by
  obtain ⟨h1, h2, h3, h4, h5⟩ := h
  obtain rfl | rfl | rfl | rfl | rfl : k = 0 ∨ k = 1 ∨ k = 2 ∨ k = 3 ∨ k = 4 := by omega
  · exact h1
  · exact h2
  · exact h3
  · exact h4
  · exact h5
/-- An element: its cells. -/
theorem RdE.get_ino {w : World} {D : Nat → Prop} {A : Option Addr} {n : Nat} {l : List InoV} (h : RdE inoEn w D A n l) {i : Nat} {x : InoV} (hx : l[i]? = some x) :
    ∃ b o, A = some ⟨b, o, none⟩ ∧ D b ∧ x.wf ∧ ∀ j v, (inoC x)[j]? = some v → w.cell? ⟨b, o + i * 10 + j, none⟩ = some v := by
  have hi := (List.getElem?_eq_some_iff.1 hx).1
  obtain ⟨b, o, e, hb, hc⟩ := h.2 (by have := h.1; omega)
  obtain ⟨cs, ⟨hcs, hwf⟩, hcell⟩ := hc i x hx
  subst hcs
  refine ⟨b, o, e, hb, hwf, fun j v hv => ?_⟩
  have := hcell j v hv
  rwa [show o + (i * inoEn.k + j) = o + i * 10 + j from by show o + (i * 10 + j) = o + i * 10 + j; omega] at this
theorem ino_agg : ∀ w, (isAgg 39).run Try.prog w = .ok true w := fun w => by kernel_rfl
theorem ino_size : ∀ w, (Go.sizeOf 39).run Try.prog w = .ok 10 w := fun w => by kernel_rfl

set_option maxRecDepth 100000 in
set_option maxHeartbeats 800000 in
theorem pointer_any (x : InoV) {k : Nat} (hk : k < 5) (w : World) : Calls Try.prog 19 #[.agg (inoC x).toArray, .int .i64 k] w (VRet w (.int .i64 (ptr x k))) := by
  obtain ⟨k0, i, n, g, s, p, q, r, t, a⟩ := x
  unfold inoC ptr ptrs
  obtain rfl | rfl | rfl | rfl | rfl : k = 0 ∨ k = 1 ∨ k = 2 ∨ k = 3 ∨ k = 4 := by omega
  all_goals
    go_enter Try.func19, Try.ntmps19
    go_wp2
    go_ret
    exact VRet.of (below_new (below_self w) _)
set_option maxRecDepth 100000 in
set_option maxHeartbeats 800000 in
theorem rpointer_any (x : InoV) {k : Nat} (hk : k < 5) (w : World) : Calls Try.prog 18 #[.agg (inoC x).toArray, .int .i64 k] w (VRet w (.int .i64 (ptr x k))) := by
  obtain ⟨k0, i, n, g, s, p, q, r, t, a⟩ := x
  unfold inoC ptr ptrs
  obtain rfl | rfl | rfl | rfl | rfl : k = 0 ∨ k = 1 ∨ k = 2 ∨ k = 3 ∨ k = 4 := by omega
  all_goals
    go_enter Try.func18, Try.ntmps18
    go_wp2
    go_ret
    exact VRet.of (below_new (below_self w) _)
/-- claim.pointers: its parameter is boxed; the function value captures the box. -/
theorem pointers_in (F : Fence) (n : Nat) (hF : F.fn 17) (hro : F.round = none) (x : InoV) (w : World) :
    CallsIn F n Try.prog 17 #[.agg (inoC x).toArray] w fun e w' => e = .returned (.func (.func 21) #[] #[.pointer (some ⟨w.heap.size, 0, none⟩)]) ∧ w' = w.alloc (.cells (inoC x).toArray 39) := by
  refine callsIn_of_wp Try.func17 rfl hF ?_ hro
  simp only [Try.ntmps17, List.size_toArray, List.length_cons, List.length_nil, Nat.reduceAdd, Nat.reduceSub, Array.replicate_succ, Array.replicate_zero, List.push_toArray, List.append_toArray, List.nil_append, List.cons_append]
  gi_wp2
  refine bodyPost_ret (v := .func (.func 21) #[] #[.pointer (some ⟨w.heap.size, 0, none⟩)]) (by simp [results, Try.results17, go_sem]) rfl ⟨rfl, rfl⟩
/-- A pointer's number, and what it is. -/
def encK (x : InoV) (j : Fin 5) : Array Value := #[.int .i64 (j.1 : Int), .int .i64 (ptr x j.1)]
/-- The first j. -/
def upTo5 (j : Nat) : List (Fin 5) := (List.finRange 5).take j
theorem upTo5_snoc {j : Nat} (h : j < 5) : upTo5 j ++ [⟨j, h⟩] = upTo5 (j + 1) := by
  obtain rfl | rfl | rfl | rfl | rfl : j = 0 ∨ j = 1 ∨ j = 2 ∨ j = 3 ∨ j = 4 := by omega
  all_goals rfl
theorem upTo5_pre {j : Nat} (h : j < 5) : upTo5 j ++ [⟨j, h⟩] <+: List.finRange 5 := by
  rw [upTo5_snoc h]
  exact List.take_prefix _ _
theorem upTo5_length {j : Nat} (h : j ≤ 5) : (upTo5 j).length = j := by
  unfold upTo5
  rw [List.length_take, List.length_finRange]
  omega
set_option maxRecDepth 100000 in
set_option maxHeartbeats 1000000 in
theorem pointers1_stops (F : Fence) (n : Nat) (hw : F = Fence.wide) (hn : 1 ≤ n) (m : Nat) (x : InoV) (w : World) (h1 : RowL w m 39 (inoC x)) :
    SeqStopsK F n Try.prog 21 #[.pointer (some ⟨m, 0, none⟩)] (encK x) (KpM m) (fun xs => xs = List.finRange 5) (fun pre => pre <+: List.finRange 5) 5 w := fun l J Jx W hW hAJ _ hY h0 => by
  subst hw
  have hm : m < w.heap.size := h1.lt
  have hb1 : RowL W m 39 (inoC x) := kpM_row (kpM_below hm hW) h1
  refine callsIn_of_wp Try.func21 rfl trivial ?_ rfl
  simp only [Try.ntmps21, List.size_toArray, List.length_cons, List.length_nil, Nat.reduceAdd, Nat.reduceSub, Array.replicate_succ, Array.replicate_zero, List.push_toArray, List.append_toArray, List.nil_append, List.cons_append]
  clear h1 hm hW
  gi_wp2
  gi_loopw [4] (fun iv wr => ∃ j : Nat, j ≤ 5 ∧ iv = .int .i64 j ∧ J (upTo5 j) wr ∧ RowL wr m 39 (inoC x)) (fun iv _ => 5 - (intOf iv).toNat)
  case atStart => exact ⟨0, by omega, rfl, h0, hb1⟩
  case round =>
    obtain ⟨j, hj, rfl, hJ, hr⟩ := hrel
    clear hb1 h0
    by_cases hlt : j < 5
    · have hYj := hide (hY (upTo5 j) ⟨j, hlt⟩)
      clear hY
      have hj0 : (0 : Int) ≤ (j : Int) := by omega
      gi_wp2_with (refine wpListIn_plain rfl fun K2 hK2 => ?_; refine wpIn_loadW 39 (.tmp 1) rfl 10 ino_agg ino_size m 39 rfl (inoC x) hr rfl ?_; refine hK2 _ _ ?_; clear hK2 K2)
      refine ⟨trivial, (callsIn_wide.2 (pointer_any x hlt _)).mono ?_⟩
      rintro e W2 ⟨rfl, hbel⟩
      have hJ2 : J (upTo5 j) W2 := hAJ _ _ _ none hJ (grown_below hbel) (fun r e => by cases e)
      have hr2 := hr.on hbel
      obtain ⟨fn, tmps, assign, body, hy, hR⟩ := hYj.out W2 hJ2 (by rw [upTo5_length (by omega)]; omega)
      have HR := hide hR
      clear hR hJ hJ2 hbel hr
      dsimp only [encK] at hy
      gi_wp2
      refine HR.out.mono ?_
      rintro e W' (⟨rfl, hJ2, hk2⟩ | ⟨rfl, hJx2⟩)
      · gi_wp2
        exact ⟨⟨j + 1, by omega, by go_num, by rw [← upTo5_snoc hlt]; exact hJ2, kpM_row hk2 hr2⟩, by simp [intOf]; omega⟩
      · gi_wp2
        refine bodyPost_ret (results_none rfl _ _ _) rfl ?_
        exact ⟨⟨_, rfl⟩, .inr ⟨upTo5 j ++ [⟨j, hlt⟩], upTo5_pre hlt, hJx2⟩⟩
    · obtain rfl : j = 5 := by omega
      gi_wp2
      go_end0
      exact ⟨⟨_, rfl⟩, .inl ⟨upTo5 5, rfl, hJ⟩⟩
end Go.Proofs.Ytnllbdigpnopoaa
