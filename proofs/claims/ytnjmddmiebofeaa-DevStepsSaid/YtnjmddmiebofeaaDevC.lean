/- Contracts of slices.Clone of sectors, and of the program's dev.New, joined, Safe, Bytes. -/
import Derived.Test.YtnjmddmiebofeaaDevB
import Derived.Lib.Slices
namespace Go.Proofs.Ytnjmddmiebofeaa
open Go.RowKit Plain

theorem SecR.of_own {w : World} {base g n c : Nat} {l : List (List UInt8)} (h : w.ownsRow base 76 64 (.slice (some ⟨g, 0, none⟩) n c) n (bvs l.flatten)) (hl : l.length = n) (h64 : ∀ s ∈ l, s.length = 64) : SecR w base g n c l := by
  rcases h.2 with ⟨h0, _⟩ | ⟨g', cap, cur, h1, h2, h3, h4, h5, h6, h7⟩
  · cases h0
  · cases h1
    exact ⟨h2, h4, h5, hl, h64, cur.toList, by simpa [RowL] using h3, by simp [h6]; omega, by rw [Nat.mul_comm 64 n]; exact h7⟩
theorem SecR.own {w : World} {base g n c : Nat} {l : List (List UInt8)} (h : SecR w base g n c l) : w.ownsRow base 76 64 (.slice (some ⟨g, 0, none⟩) n c) n (bvs l.flatten) := by
  obtain ⟨h1, h2, h3, h4, h5, cs, h6, h7, h8⟩ := h
  refine ⟨?_, .inr ⟨g, c, cs.toArray, rfl, h1, h6, h2, h3, by simp [h7]; omega, by rw [Nat.mul_comm n 64]; exact h8⟩⟩
  rw [bvs_length, flat64 h5, h4, Nat.mul_comm]
theorem SecR.rebase {w : World} {base base' g n c : Nat} {l : List (List UInt8)} (h : SecR w base g n c l) (hb : base' ≤ base) : SecR w base' g n c l := ⟨Nat.le_trans hb h.1, h.2⟩
theorem SecR.len {w : World} {base g n c : Nat} {l : List (List UInt8)} (h : SecR w base g n c l) : l.length = n := h.2.2.2.1
theorem SecR.all {w : World} {base g n c : Nat} {l : List (List UInt8)} (h : SecR w base g n c l) : ∀ s ∈ l, s.length = 64 := h.2.2.2.2.1
theorem bvs_one' (l : List UInt8) : ∀ u ∈ bvs l, u.oneCell' = true := bvs_one l

set_option maxRecDepth 100000 in
set_option maxHeartbeats 800000 in
theorem DClone_any {base g n c : Nat} {l : List (List UInt8)} (w : World) (h : SecR w base g n c l) (hn : n ≤ 1000000) :
    Calls Try.prog 46 #[.slice (some ⟨g, 0, none⟩) n c] w (SRet w n l) := by
  have q := fun (W : World) (A : Option Addr) (n c n' c' : Nat) => Lib.run_eql_slice_nil (P := Try.prog) W _ _ A n c n' c' Try.underlying72
  obtain ⟨i, hi, hz, hsz, hby⟩ := info_parts sec_info
  have hl := h.len
  have hfl := flat64 h.all
  have hr0 : (w.alloc (.cells #[] 76)).ownsRow w.heap.size 76 64 (.slice (some ⟨w.heap.size, 0, none⟩) 0 0) 0 [] := World.ownsRow_lit w #[] 0 (Nat.le_refl _) (by simp [maxLen]) (by simp)
  have hcs := (h.own.cells (g := g) rfl)
  have hcs2 : ∀ j u, (bvs l.flatten)[j]? = some u → (w.alloc (.cells #[] 76)).cell? ((⟨g, 0, none⟩ : Addr).add j) = some u := fun j u hu => by
    have := hcs j u hu
    rw [Addr.add_lit] at this ⊢
    exact ((below_new (below_self w) (.cells #[] 76)).cell (p := ⟨g, 0 + j, none⟩) h.lt).trans this
  have HA := hide h.all
  have HL := hide hl
  have HR0 := hide hr0
  have HC := hide hcs2
  have HF := hide hfl
  clear h hl hr0 hcs hcs2 hfl
  go_enter Try.func46, Try.ntmps46
  go_wp2_with (at_builtin; refine wpList_append_own _ rfl (.tmp 5) (.tmp 6) 72 rfl w.heap.size 76 i zsec 64 64 Try.underlying72 hi hz hsz hby rfl (by omega) _ 0 [] rfl HR0.out ⟨g, 0, none⟩ n c (bvs l.flatten) rfl (by rw [bvs_length, HF.out, HL.out, Nat.mul_comm]) HC.out (bvs_one _) (by unfold maxLen; omega) (by omega) (by simp) ?_; intro v' w' h2 h3 h4; have H2 := hide h2; have H3 := hide h3; have H4 := hide h4; clear h2 h3 h4)
  go_ret
  have h2 := H2.out
  rw [List.nil_append, Nat.zero_add] at h2
  rcases h2.2 with ⟨h0, _⟩ | ⟨g', cap, cur, h1, hb⟩
  · have := (H4.out.1 h0).1
    cases this
  · subst h1
    refine ⟨g', cap, rfl, SecR.of_own h2 HL.out HA.out, ?_⟩
    exact (below_new (below_self w) _).grown H3.out (by simp) (by intro k hk; cases hk; exact Nat.le_refl _)

/-- A new disk. -/
def newD (b : List UInt8) (n : Nat) : DSt := ⟨cutS b n, cutS b n, [], false, false, 0, 0, 0⟩
set_option maxRecDepth 100000 in
set_option maxHeartbeats 800000 in
theorem DNew_any {A : Option Addr} {m c n : Nat} {b : List UInt8} (w : World) (hb : Bs w w.heap.size A m b) (hmc : m ≤ c) (hm : m ≤ 1000000) (hn : n = m / 64) :
    Calls Try.prog 8 #[.slice A m c] w (fun e w' => ∃ dp, e = .returned (dptr dp) ∧ DK w' w.heap.size dp (newD b n) ∧ Below w.heap.size w w') := by
  have HBB := hide hb
  have HN := hide hn
  have hn2 : n ≤ 1000000 := by omega
  clear hb hn
  go_enter Try.func8, Try.ntmps8
  go_wp2_with fail
  refine (DCut_any _ HBB.out hmc hm HN.out).mono ?_
  rintro e w1 ⟨g1, c1, rfl, hs1, hb1⟩
  have HS1 := hide hs1
  have HB1 := hide hb1
  clear hs1 hb1
  go_wp2_with fail
  refine (DClone_any _ HS1.out hn2).mono ?_
  rintro e w2 ⟨g2, c2, rfl, hs2, hb2⟩
  have HS2 := hide hs2
  have HB2 := hide hb2
  clear hs2 hb2
  go_wp2_with fail
  go_ret
  have hl : (cutS b n).length = n := cutS_length b n
  have hg1 := HS1.out.lt
  have hg2 := HS2.out.1
  have e : dcells g1 c1 g2 c2 none 0 (newD b n) = [.slice (some ⟨g1, 0, none⟩) n c1, .slice (some ⟨g2, 0, none⟩) n c2, .slice none 0 0, .bool false, .bool false, .int .i64 0, .int .i64 0, .int .i64 0] := by simp [dcells, newD, hl]
  have hal := below_new (below_self w2) (.cells (dcells g1 c1 g2 c2 none 0 (newD b n)).toArray 79)
  have hr := RowL.new w2 79 (dcells g1 c1 g2 c2 none 0 (newD b n))
  rw [e] at hal hr
  have hs := HB1.out.size
  have hs' := HB2.out.size
  refine ⟨w2.heap.size, rfl, ⟨g1, c1, g2, c2, none, 0, by omega, by omega, ?_, ?_, ?_, World.ownsRow_nil _ _ _ _⟩, (HB1.out.trans (HB2.out.mono HB1.out.size)).trans (hal.mono (by omega))⟩
  · rw [e]
    exact hr
  · show SecR _ _ _ (cutS b n).length _ _
    rw [hl]
    exact (HS1.out.keep (HB2.out.block _ hg1)).keep (hal.block _ (by omega))
  · show SecR _ _ _ (cutS b n).length _ _
    rw [hl]
    exact (HS2.out.rebase hs).keep (hal.block _ HS2.out.lt)
end Go.Proofs.Ytnjmddmiebofeaa
