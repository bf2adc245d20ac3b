/- Contracts of the program's geo: Bitmap, Inode, Block, Log, Upper. -/
import Derived.Test.YtpflpampogngiaaGeoA
namespace Go.Proofs.Ytpflpampogngiaa
open Go.RowKit Plain

theorem UWithin {n l g : Int} {b : Bool} (h : (decide (l ≤ n) && decide (n ≤ g)) = b) (w : World) : Calls Try.prog 69 #[.int .i64 n, .int .i64 l, .int .i64 g] w (VRet w (.bool b)) :=
  (Within_b h w).mono fun _ _ ⟨h1, h2⟩ => ⟨h1, h2 ▸ below_self w⟩

set_option maxRecDepth 100000 in
set_option maxHeartbeats 800000 in
theorem GBitmap_e {a b c d k e : Int} (h : startZ a b c d k = e) (w : World) : Calls Try.prog 41 #[.agg #[.int .i64 a, .int .i64 b, .int .i64 c, .int .i64 d], .int .i64 k] w (VRet w (.int .i64 e)) := by
  cases hg : geoB a b c d with
  | false =>
    obtain rfl : e = -1 := by rw [← h]; exact start_no (by rw [hg]; simp)
    have HE := hide (geoE_no hg)
    clear h hg
    go_enter Try.func41, Try.ntmps41
    go_wp2_with fail
    refine (GCheck_e HE.out _).mono ?_
    rintro e w1 ⟨rfl, hbel⟩
    have hB1 := below_step (below_new (below_self w) _) hbel
    have c0 := (hbel.cell (p := ⟨w.heap.size, 0, none⟩) (by simp)).trans (by simp : _ = some (Value.int .i64 a))
    have c1 := (hbel.cell (p := ⟨w.heap.size, 1, none⟩) (by simp)).trans (by simp : _ = some (Value.int .i64 b))
    have c2 := (hbel.cell (p := ⟨w.heap.size, 2, none⟩) (by simp)).trans (by simp : _ = some (Value.int .i64 c))
    have c3 := (hbel.cell (p := ⟨w.heap.size, 3, none⟩) (by simp)).trans (by simp : _ = some (Value.int .i64 d))
    have HB1 := hide hB1
    have hlt : w.heap.size < w1.heap.size := by have := hbel.size; simp at this; omega
    clear hbel hB1
    go_wp2_with fail
    go_ret
    exact VRet.of HB1.out
  | true =>
    have HE := hide (geoE_yes hg)
    have HG := hide hg
    cases hk : (decide (0 ≤ k) && decide (k ≤ a)) with
    | false =>
      obtain rfl : e = -1 := by rw [← h]; exact start_no (by simp at hk; omega)
      have HK := hide hk
      clear h hg hk
      go_enter Try.func41, Try.ntmps41
      go_wp2_with fail
      refine (GCheck_e HE.out _).mono ?_
      rintro e w1 ⟨rfl, hbel⟩
      have hB1 := below_step (below_new (below_self w) _) hbel
      have c0 := (hbel.cell (p := ⟨w.heap.size, 0, none⟩) (by simp)).trans (by simp : _ = some (Value.int .i64 a))
      have c1 := (hbel.cell (p := ⟨w.heap.size, 1, none⟩) (by simp)).trans (by simp : _ = some (Value.int .i64 b))
      have c2 := (hbel.cell (p := ⟨w.heap.size, 2, none⟩) (by simp)).trans (by simp : _ = some (Value.int .i64 c))
      have c3 := (hbel.cell (p := ⟨w.heap.size, 3, none⟩) (by simp)).trans (by simp : _ = some (Value.int .i64 d))
      have HB1 := hide hB1
      have hlt : w.heap.size < w1.heap.size := by have := hbel.size; simp at this; omega
      clear hbel hB1
      go_wp2_with fail
      refine (Within_b HK.out _).mono ?_
      rintro e w' ⟨rfl, rfl⟩
      go_wp2_with fail
      go_ret
      exact VRet.of HB1.out
    | true =>
      have hk' : 0 ≤ k ∧ k ≤ a := by simpa using hk
      have HK := hide hk
      have HK' := hide hk'
      have HS := hide h
      clear h hg hk hk'
      go_enter Try.func41, Try.ntmps41
      go_wp2_with fail
      refine (GCheck_e HE.out _).mono ?_
      rintro e w1 ⟨rfl, hbel⟩
      have hB1 := below_step (below_new (below_self w) _) hbel
      have c0 := (hbel.cell (p := ⟨w.heap.size, 0, none⟩) (by simp)).trans (by simp : _ = some (Value.int .i64 a))
      have c1 := (hbel.cell (p := ⟨w.heap.size, 1, none⟩) (by simp)).trans (by simp : _ = some (Value.int .i64 b))
      have c2 := (hbel.cell (p := ⟨w.heap.size, 2, none⟩) (by simp)).trans (by simp : _ = some (Value.int .i64 c))
      have c3 := (hbel.cell (p := ⟨w.heap.size, 3, none⟩) (by simp)).trans (by simp : _ = some (Value.int .i64 d))
      have HB1 := hide hB1
      have hlt : w.heap.size < w1.heap.size := by have := hbel.size; simp at this; omega
      clear hbel hB1
      go_wp2_with fail
      refine (Within_b HK.out _).mono ?_
      rintro e w' ⟨rfl, rfl⟩
      go_wp2_with fail
      refine (LBegin_e HG.out HK'.out.1 HK'.out.2 HS.out _).mono ?_
      rintro e w2 ⟨rfl, hbel⟩
      have HB2 := hide (below_step HB1.out hbel)
      clear hbel
      go_wp2_with fail
      go_ret
      exact VRet.of HB2.out
set_option maxRecDepth 100000 in
set_option maxHeartbeats 800000 in
theorem GInode_e {a b c d k i e : Int} (h : inodeZ a b c d k i = e) (w : World) : Calls Try.prog 43 #[.agg #[.int .i64 a, .int .i64 b, .int .i64 c, .int .i64 d], .int .i64 k, .int .i64 i] w (VRet w (.int .i64 e)) := by
  by_cases hc : geoB a b c d = true ∧ 0 ≤ k ∧ k ≤ a
  · have hh := geo_yes hc.1
    have hsb := start_bound hc.1 hc.2.1 hc.2.2
    obtain ⟨s, hs⟩ : ∃ s, startZ a b c d k = s := ⟨_, rfl⟩
    rw [hs] at hsb
    have hs1 : (s == -1) = false := by simp; omega
    cases hk : (decide ((1 : Int) ≤ i) && decide (i ≤ b)) with
    | false =>
      obtain rfl : e = -1 := by rw [← h]; unfold inodeZ; rw [if_neg]; simp at hk; omega
      have HS := hide hs
      have HK := hide hk
      clear h hc hh hsb hs hk
      go_enter Try.func43, Try.ntmps43
      go_wp2_with fail
      refine (GBitmap_e HS.out _).mono ?_
      rintro e w1 ⟨rfl, hbel⟩
      have hB1 := below_step (below_new (below_self w) _) hbel
      have c0 := (hbel.cell (p := ⟨w.heap.size, 0, none⟩) (by simp)).trans (by simp : _ = some (Value.int .i64 a))
      have c1 := (hbel.cell (p := ⟨w.heap.size, 1, none⟩) (by simp)).trans (by simp : _ = some (Value.int .i64 b))
      have c2 := (hbel.cell (p := ⟨w.heap.size, 2, none⟩) (by simp)).trans (by simp : _ = some (Value.int .i64 c))
      have c3 := (hbel.cell (p := ⟨w.heap.size, 3, none⟩) (by simp)).trans (by simp : _ = some (Value.int .i64 d))
      have HB1 := hide hB1
      have hlt : w.heap.size < w1.heap.size := by have := hbel.size; simp at this; omega
      clear hbel hB1
      go_wp2_with fail
      refine (Within_b HK.out _).mono ?_
      rintro e w' ⟨rfl, rfl⟩
      go_wp2_with fail
      go_ret
      exact VRet.of HB1.out
    | true =>
      have hk' : 1 ≤ i ∧ i ≤ b := by simp at hk; omega
      have he : e = s + i := by rw [← h]; unfold inodeZ; rw [if_pos ⟨hc, hk'⟩, hs]
      have hw1 : IntKind.i64.wrap (s + i) = e := by rw [he]; exact IntWalk.i64_in _ (by omega)
      have HS := hide hs
      have HK := hide hk
      clear h hc hh hsb hs hk hk' he
      go_enter Try.func43, Try.ntmps43
      go_wp2_with fail
      refine (GBitmap_e HS.out _).mono ?_
      rintro e w1 ⟨rfl, hbel⟩
      have hB1 := below_step (below_new (below_self w) _) hbel
      have c0 := (hbel.cell (p := ⟨w.heap.size, 0, none⟩) (by simp)).trans (by simp : _ = some (Value.int .i64 a))
      have c1 := (hbel.cell (p := ⟨w.heap.size, 1, none⟩) (by simp)).trans (by simp : _ = some (Value.int .i64 b))
      have c2 := (hbel.cell (p := ⟨w.heap.size, 2, none⟩) (by simp)).trans (by simp : _ = some (Value.int .i64 c))
      have c3 := (hbel.cell (p := ⟨w.heap.size, 3, none⟩) (by simp)).trans (by simp : _ = some (Value.int .i64 d))
      have HB1 := hide hB1
      have hlt : w.heap.size < w1.heap.size := by have := hbel.size; simp at this; omega
      clear hbel hB1
      go_wp2_with fail
      refine (Within_b HK.out _).mono ?_
      rintro e w' ⟨rfl, rfl⟩
      go_wp2_with fail
      go_ret
      exact VRet.of HB1.out
  · obtain rfl : e = -1 := by rw [← h]; unfold inodeZ; rw [if_neg]; exact fun x => hc x.1
    have HS := hide (start_no hc)
    clear h hc
    go_enter Try.func43, Try.ntmps43
    go_wp2_with fail
    refine (GBitmap_e HS.out _).mono ?_
    rintro e w1 ⟨rfl, hbel⟩
    have hB1 := below_step (below_new (below_self w) _) hbel
    have c0 := (hbel.cell (p := ⟨w.heap.size, 0, none⟩) (by simp)).trans (by simp : _ = some (Value.int .i64 a))
    have c1 := (hbel.cell (p := ⟨w.heap.size, 1, none⟩) (by simp)).trans (by simp : _ = some (Value.int .i64 b))
    have c2 := (hbel.cell (p := ⟨w.heap.size, 2, none⟩) (by simp)).trans (by simp : _ = some (Value.int .i64 c))
    have c3 := (hbel.cell (p := ⟨w.heap.size, 3, none⟩) (by simp)).trans (by simp : _ = some (Value.int .i64 d))
    have HB1 := hide hB1
    have hlt : w.heap.size < w1.heap.size := by have := hbel.size; simp at this; omega
    clear hbel hB1
    go_wp2_with fail
    go_ret
    exact VRet.of HB1.out
set_option maxRecDepth 100000 in
set_option maxHeartbeats 800000 in
theorem GBlock_e {a b c d k i e : Int} (h : blockZ a b c d k i = e) (w : World) : Calls Try.prog 45 #[.agg #[.int .i64 a, .int .i64 b, .int .i64 c, .int .i64 d], .int .i64 k, .int .i64 i] w (VRet w (.int .i64 e)) := by
  by_cases hc : geoB a b c d = true ∧ 0 ≤ k ∧ k ≤ a
  · have hh := geo_yes hc.1
    have hsb := start_bound hc.1 hc.2.1 hc.2.2
    obtain ⟨s, hs⟩ : ∃ s, startZ a b c d k = s := ⟨_, rfl⟩
    rw [hs] at hsb
    have hs1 : (s == -1) = false := by simp; omega
    cases hk : (decide ((0 : Int) ≤ i) && decide (i ≤ c - 1)) with
    | false =>
      obtain rfl : e = -1 := by rw [← h]; unfold blockZ; rw [if_neg]; simp at hk; omega
      have HS := hide hs
      have HK := hide hk
      have hw0 : IntKind.i64.wrap (c - 1) = c - 1 := IntWalk.i64_in _ (by omega)
      clear h hc hh hsb hs hk
      go_enter Try.func45, Try.ntmps45
      go_wp2_with fail
      refine (GBitmap_e HS.out _).mono ?_
      rintro e w1 ⟨rfl, hbel⟩
      have hB1 := below_step (below_new (below_self w) _) hbel
      have c0 := (hbel.cell (p := ⟨w.heap.size, 0, none⟩) (by simp)).trans (by simp : _ = some (Value.int .i64 a))
      have c1 := (hbel.cell (p := ⟨w.heap.size, 1, none⟩) (by simp)).trans (by simp : _ = some (Value.int .i64 b))
      have c2 := (hbel.cell (p := ⟨w.heap.size, 2, none⟩) (by simp)).trans (by simp : _ = some (Value.int .i64 c))
      have c3 := (hbel.cell (p := ⟨w.heap.size, 3, none⟩) (by simp)).trans (by simp : _ = some (Value.int .i64 d))
      have HB1 := hide hB1
      have hlt : w.heap.size < w1.heap.size := by have := hbel.size; simp at this; omega
      clear hbel hB1
      go_wp2_with fail
      refine (Within_b HK.out _).mono ?_
      rintro e w' ⟨rfl, rfl⟩
      go_wp2_with fail
      go_ret
      exact VRet.of HB1.out
    | true =>
      have hk' : 0 ≤ i ∧ i < c := by simp at hk; omega
      have he : e = s + 1 + b + i := by rw [← h]; unfold blockZ; rw [if_pos ⟨hc, hk'⟩, hs]
      have hw0 : IntKind.i64.wrap (c - 1) = c - 1 := IntWalk.i64_in _ (by omega)
      have hw1 : IntKind.i64.wrap (s + 1) = s + 1 := IntWalk.i64_in _ (by omega)
      have hw2 : IntKind.i64.wrap (s + 1 + b) = s + 1 + b := IntWalk.i64_in _ (by omega)
      have hw3 : IntKind.i64.wrap (s + 1 + b + i) = e := by rw [he]; exact IntWalk.i64_in _ (by omega)
      have HS := hide hs
      have HK := hide hk
      clear h hc hh hsb hs hk hk' he
      go_enter Try.func45, Try.ntmps45
      go_wp2_with fail
      refine (GBitmap_e HS.out _).mono ?_
      rintro e w1 ⟨rfl, hbel⟩
      have hB1 := below_step (below_new (below_self w) _) hbel
      have c0 := (hbel.cell (p := ⟨w.heap.size, 0, none⟩) (by simp)).trans (by simp : _ = some (Value.int .i64 a))
      have c1 := (hbel.cell (p := ⟨w.heap.size, 1, none⟩) (by simp)).trans (by simp : _ = some (Value.int .i64 b))
      have c2 := (hbel.cell (p := ⟨w.heap.size, 2, none⟩) (by simp)).trans (by simp : _ = some (Value.int .i64 c))
      have c3 := (hbel.cell (p := ⟨w.heap.size, 3, none⟩) (by simp)).trans (by simp : _ = some (Value.int .i64 d))
      have HB1 := hide hB1
      have hlt : w.heap.size < w1.heap.size := by have := hbel.size; simp at this; omega
      clear hbel hB1
      go_wp2_with fail
      refine (Within_b HK.out _).mono ?_
      rintro e w' ⟨rfl, rfl⟩
      go_wp2_with fail
      go_ret
      exact VRet.of HB1.out
  · obtain rfl : e = -1 := by rw [← h]; unfold blockZ; rw [if_neg]; exact fun x => hc x.1
    have HS := hide (start_no hc)
    clear h hc
    go_enter Try.func45, Try.ntmps45
    go_wp2_with fail
    refine (GBitmap_e HS.out _).mono ?_
    rintro e w1 ⟨rfl, hbel⟩
    have hB1 := below_step (below_new (below_self w) _) hbel
    have c0 := (hbel.cell (p := ⟨w.heap.size, 0, none⟩) (by simp)).trans (by simp : _ = some (Value.int .i64 a))
    have c1 := (hbel.cell (p := ⟨w.heap.size, 1, none⟩) (by simp)).trans (by simp : _ = some (Value.int .i64 b))
    have c2 := (hbel.cell (p := ⟨w.heap.size, 2, none⟩) (by simp)).trans (by simp : _ = some (Value.int .i64 c))
    have c3 := (hbel.cell (p := ⟨w.heap.size, 3, none⟩) (by simp)).trans (by simp : _ = some (Value.int .i64 d))
    have HB1 := hide hB1
    have hlt : w.heap.size < w1.heap.size := by have := hbel.size; simp at this; omega
    clear hbel hB1
    go_wp2_with fail
    go_ret
    exact VRet.of HB1.out
set_option maxRecDepth 100000 in
set_option maxHeartbeats 800000 in
theorem GLog_e {a b c d e : Int} (h : logZ a b c d = e) (w : World) : Calls Try.prog 47 #[.agg #[.int .i64 a, .int .i64 b, .int .i64 c, .int .i64 d]] w (VRet w (.int .i64 e)) := by
  cases hg : geoB a b c d with
  | false =>
    obtain rfl : e = -1 := by rw [← h]; simp [logZ, hg]
    have HE := hide (geoE_no hg)
    clear h hg
    go_enter Try.func47, Try.ntmps47
    go_wp2_with fail
    refine (GCheck_e HE.out _).mono ?_
    rintro e w1 ⟨rfl, hbel⟩
    have hB1 := below_step (below_new (below_self w) _) hbel
    have c0 := (hbel.cell (p := ⟨w.heap.size, 0, none⟩) (by simp)).trans (by simp : _ = some (Value.int .i64 a))
    have c1 := (hbel.cell (p := ⟨w.heap.size, 1, none⟩) (by simp)).trans (by simp : _ = some (Value.int .i64 b))
    have c2 := (hbel.cell (p := ⟨w.heap.size, 2, none⟩) (by simp)).trans (by simp : _ = some (Value.int .i64 c))
    have c3 := (hbel.cell (p := ⟨w.heap.size, 3, none⟩) (by simp)).trans (by simp : _ = some (Value.int .i64 d))
    have HB1 := hide hB1
    have hlt : w.heap.size < w1.heap.size := by have := hbel.size; simp at this; omega
    clear hbel hB1
    go_wp2_with fail
    go_ret
    exact VRet.of HB1.out
  | true =>
    have HE := hide (geoE_yes hg)
    have HG := hide hg
    have HS := hide h
    clear h hg
    go_enter Try.func47, Try.ntmps47
    go_wp2_with fail
    refine (GCheck_e HE.out _).mono ?_
    rintro e w1 ⟨rfl, hbel⟩
    have hB1 := below_step (below_new (below_self w) _) hbel
    have c0 := (hbel.cell (p := ⟨w.heap.size, 0, none⟩) (by simp)).trans (by simp : _ = some (Value.int .i64 a))
    have c1 := (hbel.cell (p := ⟨w.heap.size, 1, none⟩) (by simp)).trans (by simp : _ = some (Value.int .i64 b))
    have c2 := (hbel.cell (p := ⟨w.heap.size, 2, none⟩) (by simp)).trans (by simp : _ = some (Value.int .i64 c))
    have c3 := (hbel.cell (p := ⟨w.heap.size, 3, none⟩) (by simp)).trans (by simp : _ = some (Value.int .i64 d))
    have HB1 := hide hB1
    have hlt : w.heap.size < w1.heap.size := by have := hbel.size; simp at this; omega
    clear hbel hB1
    go_wp2_with fail
    refine (LLog_e HG.out HS.out _).mono ?_
    rintro e w2 ⟨rfl, hbel⟩
    have HB2 := hide (below_step HB1.out hbel)
    clear hbel
    go_wp2_with fail
    go_ret
    exact VRet.of HB2.out
set_option maxRecDepth 100000 in
set_option maxHeartbeats 800000 in
theorem GUpper_b {a b c d i : Int} {r : Bool} (h : upperB a b c d i = r) (w : World) : Calls Try.prog 49 #[.agg #[.int .i64 a, .int .i64 b, .int .i64 c, .int .i64 d], .int .i64 i] w (VRet w (.bool r)) := by
  cases hg : geoB a b c d with
  | false =>
    obtain rfl : r = false := by rw [← h]; simp [upperB, hg]
    have HE := hide (geoE_no hg)
    clear h hg
    go_enter Try.func49, Try.ntmps49
    go_wp2_with fail
    refine (GCheck_e HE.out _).mono ?_
    rintro e w1 ⟨rfl, hbel⟩
    have hB1 := below_step (below_new (below_self w) _) hbel
    have c0 := (hbel.cell (p := ⟨w.heap.size, 0, none⟩) (by simp)).trans (by simp : _ = some (Value.int .i64 a))
    have c1 := (hbel.cell (p := ⟨w.heap.size, 1, none⟩) (by simp)).trans (by simp : _ = some (Value.int .i64 b))
    have c2 := (hbel.cell (p := ⟨w.heap.size, 2, none⟩) (by simp)).trans (by simp : _ = some (Value.int .i64 c))
    have c3 := (hbel.cell (p := ⟨w.heap.size, 3, none⟩) (by simp)).trans (by simp : _ = some (Value.int .i64 d))
    have HB1 := hide hB1
    have hlt : w.heap.size < w1.heap.size := by have := hbel.size; simp at this; omega
    clear hbel hB1
    go_wp2_with fail
    go_ret
    exact VRet.of HB1.out
  | true =>
    have hh := geo_yes hg
    have hb := log_bound hg
    obtain ⟨s, hs⟩ : ∃ s, startZ a b c d 0 = s := ⟨_, rfl⟩
    obtain ⟨l, hl⟩ : ∃ l, logZ a b c d = l := ⟨_, rfl⟩
    have hr : (decide (s ≤ i) && decide (i ≤ l - 1)) = r := by
      rw [← h]; unfold upperB; rw [hg, hs, hl]
      rw [Bool.eq_iff_iff]; simp; omega
    rw [hl] at hb
    have hw1 : IntKind.i64.wrap (l - 1) = l - 1 := IntWalk.i64_in _ (by omega)
    have HE := hide (geoE_yes hg)
    have HG := hide hg
    have HS := hide hs
    have HL := hide hl
    have HR := hide hr
    have HH := hide hh
    clear h hg hs hl hr hb hh
    go_enter Try.func49, Try.ntmps49
    go_wp2_with fail
    refine (GCheck_e HE.out _).mono ?_
    rintro e w1 ⟨rfl, hbel⟩
    have hB1 := below_step (below_new (below_self w) _) hbel
    have c0 := (hbel.cell (p := ⟨w.heap.size, 0, none⟩) (by simp)).trans (by simp : _ = some (Value.int .i64 a))
    have c1 := (hbel.cell (p := ⟨w.heap.size, 1, none⟩) (by simp)).trans (by simp : _ = some (Value.int .i64 b))
    have c2 := (hbel.cell (p := ⟨w.heap.size, 2, none⟩) (by simp)).trans (by simp : _ = some (Value.int .i64 c))
    have c3 := (hbel.cell (p := ⟨w.heap.size, 3, none⟩) (by simp)).trans (by simp : _ = some (Value.int .i64 d))
    have HB1 := hide hB1
    have hlt : w.heap.size < w1.heap.size := by have := hbel.size; simp at this; omega
    clear hbel hB1
    go_wp2_with fail
    clear c0 c1 c2 c3 hlt
    have c0 : (w1.alloc (.cells #[Value.int .i64 a, Value.int .i64 b, Value.int .i64 c, Value.int .i64 d] 99)).cell? ⟨w1.heap.size, 0, none⟩ = some (Value.int .i64 a) := by simp
    have c1 : (w1.alloc (.cells #[Value.int .i64 a, Value.int .i64 b, Value.int .i64 c, Value.int .i64 d] 99)).cell? ⟨w1.heap.size, 1, none⟩ = some (Value.int .i64 b) := by simp
    have c2 : (w1.alloc (.cells #[Value.int .i64 a, Value.int .i64 b, Value.int .i64 c, Value.int .i64 d] 99)).cell? ⟨w1.heap.size, 2, none⟩ = some (Value.int .i64 c) := by simp
    have c3 : (w1.alloc (.cells #[Value.int .i64 a, Value.int .i64 b, Value.int .i64 c, Value.int .i64 d] 99)).cell? ⟨w1.heap.size, 3, none⟩ = some (Value.int .i64 d) := by simp
    have hB1 : Below w1.heap.size w1 (w1.alloc (.cells #[Value.int .i64 a, Value.int .i64 b, Value.int .i64 c, Value.int .i64 d] 99)) := below_new (below_self w1) _
    have hlt : w1.heap.size < (w1.alloc (.cells #[Value.int .i64 a, Value.int .i64 b, Value.int .i64 c, Value.int .i64 d] 99)).heap.size := by simp
    generalize hW : (w1.alloc (.cells #[Value.int .i64 a, Value.int .i64 b, Value.int .i64 c, Value.int .i64 d] 99)) = w2 at c0 c1 c2 c3 hB1 hlt ⊢
    clear hW
    have HB2 := hide (below_step HB1.out hB1)
    clear hB1
    go_region_held3 (fun w' => Below w2.heap.size w2 w' ∧ w'.cell? ⟨w1.heap.size, 0, none⟩ = some (.int .i64 a) ∧ w'.cell? ⟨w1.heap.size, 1, none⟩ = some (.int .i64 b) ∧ w'.cell? ⟨w1.heap.size, 2, none⟩ = some (.int .i64 c) ∧ w'.cell? ⟨w1.heap.size, 3, none⟩ = some (.int .i64 d))
      (first | exact ⟨below_drewN (below_self w2) 1, c0, c1, c2, c3⟩ | exact held4 hbel hlt (by assumption))
      (first | (go_at_call 72; refine (LBegin_e HG.out (by omega) (by have := HH.out; omega) HS.out _).mono ?_; rintro e w' ⟨rfl, hbel⟩) | (go_at_call 70; refine (LLog_e HG.out HL.out _).mono ?_; rintro e w' ⟨rfl, hbel⟩) | (go_at_call 69; refine (UWithin HR.out _).mono ?_; rintro e w' ⟨rfl, hbel⟩))
    rename_i hH
    have HH2 := hide hH.1
    clear hH c0 c1 c2 c3
    go_wp2_with fail
    go_ret
    exact VRet.of (below_step HB2.out HH2.out)
end Go.Proofs.Ytpflpampogngiaa
