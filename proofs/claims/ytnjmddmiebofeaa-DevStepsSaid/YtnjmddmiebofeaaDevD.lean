/- Contracts of the program's dev.joined, Safe, Bytes, Read. -/
import Derived.Test.YtnjmddmiebofeaaDevC
import Derived.Test.YtnjmddmiebofeaaNumC
namespace Go.Proofs.Ytnjmddmiebofeaa
open Go.RowKit Plain

theorem flat64_get {l : List (List UInt8)} {k : Nat} {s : List UInt8} (h : ∀ s ∈ l, s.length = 64) (hk : l[k]? = some s) : (l.flatten.drop (64 * k)).take 64 = s := by
  induction l generalizing k with
  | nil => simp at hk
  | cons x r ih =>
    have hx : x.length = 64 := h x (by simp)
    cases k with
    | zero =>
      simp at hk
      subst hk
      simp only [List.flatten_cons, Nat.mul_zero, List.drop_zero]
      rw [← hx]
      exact List.take_left
    | succ k =>
      simp at hk
      have := ih (fun s hs => h s (by simp [hs])) hk
      rw [List.flatten_cons, show 64 * (k + 1) = x.length + 64 * k from by omega, List.drop_append, Nat.add_sub_cancel_left]
      have e : x.drop (x.length + 64 * k) = [] := List.drop_eq_nil_of_le (by omega)
      rw [e, List.nil_append]
      exact this
theorem SecR.get {w : World} {base g n c k : Nat} {l : List (List UInt8)} {s : List UInt8} (h : SecR w base g n c l) (hk : l[k]? = some s) : ∃ cs, RowL w g 76 cs ∧ (cs.drop (k * 64)).take 64 = bvs s ∧ (bvs s).length = 64 ∧ cs.length = 64 * c := by
  obtain ⟨h1, h2, h3, h4, h5, cs, h6, h7, h8⟩ := h
  have hkn : k < n := by have := (List.getElem?_eq_some_iff.1 hk).1; omega
  refine ⟨cs, h6, ?_, by rw [bvs_length]; exact h5 s (List.mem_of_getElem? hk), h7⟩
  have e := flat64_get h5 hk
  have e2 : (cs.drop (k * 64)).take 64 = ((cs.take (64 * n)).drop (k * 64)).take 64 := by
    rw [List.drop_take, List.take_take, Nat.min_eq_left (by omega)]
  rw [e2, h8, Nat.mul_comm k 64]
  conv => rhs; rw [← e]
  unfold bvs
  rw [List.map_take, List.map_drop]

theorem bs_sec {w : World} {g : Nat} {s : List UInt8} (h : RowL w g 76 (splice zsec.cells.toList 0 (bvs s))) (hs : s.length = 64) : Bs w w.heap.size (some ⟨g, 0, none⟩) 64 s := by
  have e : splice zsec.cells.toList 0 (bvs s) = bvs s := splice_all _ _ (by rw [bvs_length, hs]; decide)
  rw [e] at h
  have := Bs.of_row (o := 0) (B := w.heap.size) h h.lt (l := s) (fun i x hx => by rw [Nat.zero_add]; exact bvs_get hx)
  rwa [hs] at this
set_option maxRecDepth 100000 in
set_option maxHeartbeats 1600000 in
theorem DJoined_any {base g n c : Nat} {l : List (List UInt8)} (w : World) (h : SecR w base g n c l) (hn : n ≤ 100000) :
    Calls Try.prog 53 #[.slice (some ⟨g, 0, none⟩) n c] w (BRet w 5 (64 * n) l.flatten) := by
  obtain ⟨i, hi, hz, hsz, hby⟩ := info_parts info_u8
  have hw1 : IntKind.i64.wrap ((n : Int) * 64) = (n : Int) * 64 := IntWalk.i64_in _ (by omega)
  have hll := h.len
  have hnc := h.2.1
  have HS := hide h
  have HG := hide h.lt
  clear h
  go_enter Try.func53, Try.ntmps53
  go_wp2_with (at_make; refine wpList_make_own _ rfl (.const (.int .i64 0)) (.tmp 8) 22 rfl w.heap.size 5 i _ 1 Try.underlying22 hi hz hsz .i64 .i64 _ (64 * n) rfl rfl (by omega) (by rw [hby]; omega) (by unfold maxLen; omega) (Nat.le_refl _) ?_; intro w1 hr1 hb1; have HR1 := hide hr1; have HB1 : Hid (Below w.heap.size w w1) := hide ((Below.refl _ _).grown hb1 (Nat.le_refl _) (by simp)); clear hr1 hb1)
  go_loopw [3, 12] (fun v iv wr => ∃ (k : Nat) (A1 : Option Addr) (n1 c1 : Nat), k ≤ n ∧ n1 = 64 * k ∧ iv = .int .i64 k ∧ v = .slice A1 n1 c1 ∧ Own wr w.heap.size 5 A1 n1 c1 (l.take k).flatten ∧ Below w.heap.size w wr) (fun _ iv _ => n - (intOf iv).toNat)
  case atStart => exact ⟨0, _, 0, _, by omega, rfl, rfl, rfl, HR1.out, HB1.out⟩
  case round =>
    obtain ⟨k, A1, n1, c1, hk, hn1, rfl, rfl, hown, hbel⟩ := hrel
    have HO := hide hown
    have HB := hide hbel
    have HN1 := hide hn1
    clear hown hbel hn1
    by_cases hlt : k < n
    · obtain ⟨s, hs⟩ : ∃ s, l[k]? = some s := ⟨_, List.getElem?_eq_getElem (by omega)⟩
      obtain ⟨cs, hrow, hcs, hs64, hcl⟩ := SecR.get (HS.out.keep (HB.out.block g HG.out)) hs
      have hsl : s.length = 64 := by rw [bvs_length] at hs64; exact hs64
      have HROW := hide hrow
      have HCS := hide hcs
      have HS64 := hide hs64
      have HF : Hid ((l.take (k + 1)).flatten = (l.take k).flatten ++ s) := hide (flat_snoc hs)
      have HSL := hide hsl
      clear hrow hcs hs64 hs hcl hsl
      go_wp2_with (first
        | (with_reducible refine wpList_loadC rfl 76 (.tmp 14) rfl 64 sec_agg sec_size g (k * 64) 76 rfl cs (bvs s) HROW.out HCS.out HS64.out ?_)
        | (with_reducible refine wpList_allocC rfl 76 rfl zsec sec_zero ?_; intro w2 hr2 hb2 hz2; have HR2 := hide hr2; have HB2 := hide hb2; have HZ2 := hide hz2; clear hr2 hb2 hz2)
        | (with_reducible refine wpList_storeC rfl 76 (.tmp 5) (.tmp 15) rfl 64 sec_size wr.heap.size 0 76 rfl _ (bvs s) rfl HR2.out HS64.out (by decide) (bvs_one _) ?_; intro w3 hr3 hb3 hz3; have HR3 : Hid (Bs w3 w3.heap.size (some ⟨wr.heap.size, 0, none⟩) 64 s) := hide (bs_sec hr3 HSL.out); have HB3 : Hid (Below wr.heap.size wr w3) := hide (HB2.out.grown hb3 HB2.out.size (by intro q hq; cases hq; exact Nat.le_refl _)); clear hr3 hb3 hz3)
        | (at_builtin; refine wpList_append_Bs _ rfl (.tmp 16) (.tmp 17) 22 rfl w.heap.size 5 Try.underlying22 info_u8 _ n1 _ _ rfl (HO.out.below HB3.out) _ _ 64 64 s rfl HR3.out (n1 + 64) rfl (by have := HN1.out; omega) (HB.out.trans (HB3.out.mono HB.out.size)).size ?_; intro A4 c4 w4 hown4 hbel4; have HO4 := hide hown4; have HB4 : Hid (Below w.heap.size w w4) := hide ((HB.out.trans (HB3.out.mono HB.out.size)).trans hbel4); clear hown4 hbel4))
      go_roundw
      case rel => exact ⟨k + 1, _, _, _, by omega, by have := HN1.out; omega, by go_num, rfl, by rw [HF.out]; exact HO4.out, HB4.out⟩
      case measure => simp [intOf]; omega
    · obtain rfl : k = n := by omega
      obtain rfl : n1 = 64 * k := HN1.out
      have HL : Hid (l.take k = l) := hide (List.take_of_length_le (by omega))
      go_wp2_with fail
      go_ret
      exact Own.ret (by have := HO.out; rwa [HL.out] at this) HB.out
end Go.Proofs.Ytnjmddmiebofeaa
