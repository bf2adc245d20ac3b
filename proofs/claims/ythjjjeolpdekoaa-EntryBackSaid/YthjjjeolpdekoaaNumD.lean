/- Contracts of num.field and num.fill. -/
import Derived.Test.YthjjjeolpdekoaaNumC
namespace Go.Proofs.Ythjjjeolpdekoaa
open Go.RowKit Plain

theorem ret_slice {a a' : Option Addr} {n n' c c' : Nat} (h1 : a = a') (h2 : n = n') (h3 : c = c') : Ending.returned (.slice a n c) = .returned (.slice a' n' c') := by rw [h1, h2, h3]

set_option maxHeartbeats 400000 in
theorem field_any {g o n c : Nat} {p s : Int} (w : World) (hp : 0 ≤ p) (h1 : p + s ≤ n) (hs : 0 < s) (hn : n ≤ c) (hc : n ≤ 140737488355328) :
    Calls Try.prog 68 #[.slice (some ⟨g, o, none⟩) n c, .int .i64 p, .int .i64 s] w fun e w' => e = .returned (.slice (some ⟨g, o + p.toNat, none⟩) s.toNat s.toNat) ∧ w = w' := by
  obtain ⟨p, rfl⟩ := Int.eq_ofNat_of_zero_le hp
  obtain ⟨s, rfl⟩ := Int.eq_ofNat_of_zero_le (Int.le_of_lt hs)
  simp only [Int.toNat_natCast]
  have hs' : 0 < s := by omega
  have h1' : p + s ≤ n := by omega
  clear hp hs h1
  go_enter Try.func68, Try.ntmps68
  go_wp2
  go_ret
  exact ⟨ret_slice rfl (by omega) (by omega), rfl⟩

theorem fill_step {w wr : World} {g o t k n : Nat} {cs : List Value} (v : Value) (hr : RowL wr g t (splice cs o (bvs (nb k n)))) (hg : w.grownBy wr (some g)) (ho : o + k < cs.length)
    (hv : v = .int .u8 ((n / 256 ^ k % 256 : Nat) : Int)) : RowL (wr.setCell ⟨g, o + k, none⟩ v) g t (splice cs o (bvs (nb (k + 1) n))) ∧ w.grownBy (wr.setCell ⟨g, o + k, none⟩ v) (some g) := by
  refine ⟨?_, only_setCell hg _ _⟩
  rw [nb_snoc, bvs_append, show bvs [UInt8.ofNat (n / 256 ^ k % 256)] = [v] from by rw [hv]; simp [bvs, bv], splice_snoc _ _ _ _ (by rw [bvs_length, nb_length]; exact ho), bvs_length, nb_length]
  exact hr.set_ _ _

set_option maxHeartbeats 400000 in
theorem fill_any {g o t m : Nat} {n : Int} {cs : List Value} (w : World) (hr : RowL w g t cs) (hm : m ≤ 4) (ho : o + m ≤ cs.length) (hn : 0 ≤ n) :
    Calls Try.prog 67 #[.slice (some ⟨g, o, none⟩) m m, .int .i64 n] w fun e w' => e = .returned (.tuple #[]) ∧ RowL w' g t (splice cs o (bvs (nb m n.toNat))) ∧ w.grownBy w' (some g) := by
  obtain ⟨n, rfl⟩ := Int.eq_ofNat_of_zero_le hn
  simp only [Int.toNat_natCast]
  have HR := hide hr
  clear hr hn
  go_enter Try.func67, Try.ntmps67
  go_wp2
  go_loopw [7] (fun i wr => ∃ k : Nat, k ≤ m ∧ i = .int .i64 k ∧ RowL wr g t (splice cs o (bvs (nb k n))) ∧ w.grownBy wr (some g)) (fun i _ => m - (intOf i).toNat)
  case atStart => exact ⟨0, Nat.zero_le _, rfl, by rw [show nb 0 n = [] from rfl]; exact (by simpa [bvs, splice_nil] using HR.out), World.grownBy.refl _ _⟩
  case round =>
    obtain ⟨k, hk, rfl, hrow, hgrow⟩ := hrel
    by_cases hlt : k < m
    · have hk4 : k = 0 ∨ k = 1 ∨ k = 2 ∨ k = 3 := by omega
      have hfz : wr.frozen? ⟨g, o + k, none⟩ = false := hrow.frozen _
      have hsl : (splice cs o (bvs (nb k n))).length = cs.length := length_splice _ _ _ (by rw [bvs_length, nb_length]; omega)
      obtain ⟨u, hu⟩ : ∃ u, wr.cell? ⟨g, o + k, none⟩ = some u := ⟨_, (hrow.cell _).trans (List.getElem?_eq_getElem (by omega))⟩
      have HROW := hide hrow
      have HGROW := hide hgrow
      clear hrow hsl hgrow
      rcases hk4 with rfl | rfl | rfl | rfl
      · simp only [Nat.add_zero] at hfz hu
        go_wp2
        have hs := fill_step (.int .u8 ((n : Int) % 256)) HROW.out HGROW.out (by omega) (by simp)
        go_roundw
        case rel => exact ⟨1, by omega, rfl, hs.1, hs.2⟩
        case measure => simp [intOf]; omega
      · go_wp2
        have hs := fill_step (.int .u8 ((n : Int) / 256 % 256)) HROW.out HGROW.out (by omega) (by simp)
        go_roundw
        case rel => exact ⟨2, by omega, rfl, hs.1, hs.2⟩
        case measure => simp [intOf]; omega
      · go_wp2
        have hs := fill_step (.int .u8 ((n : Int) / 65536 % 256)) HROW.out HGROW.out (by omega) (by simp)
        go_roundw
        case rel => exact ⟨3, by omega, rfl, hs.1, hs.2⟩
        case measure => simp [intOf]; omega
      · go_wp2
        have hs := fill_step (.int .u8 ((n : Int) / 16777216 % 256)) HROW.out HGROW.out (by omega) (by simp)
        go_roundw
        case rel => exact ⟨4, by omega, rfl, hs.1, hs.2⟩
        case measure => simp [intOf]; omega
    · obtain rfl : k = m := by omega
      have HROW := hide hrow
      have HGROW := hide hgrow
      clear hrow hgrow
      go_wp2
      go_end0
      exact ⟨rfl, HROW.out, HGROW.out⟩
end Go.Proofs.Ythjjjeolpdekoaa
