/- The walk of awake of layer 3's laws: it is true. -/
import Derived.Test.YtbdakjepdkmcdaaNameU
import Derived.Test.YtbdakjepdkmcdaaLibSort
namespace Go.Proofs.Ytbdakjepdkmcdaa
open Go.RowKit Plain

theorem isPackB_of (l : List UInt8) : isPackB (packS l) = nameB l ∧ unpackS (packS l) = if nameB l then l else [] := by
  cases h : nameB l with
  | true =>
    obtain ⟨h1, h2⟩ := isPackB_packS h
    exact ⟨h1, by simp [unpackS, h1, h2]⟩
  | false =>
    rw [packS_no h]
    exact ⟨by decide, (by decide : unpackS [] = [])⟩
theorem NUnpack_pack {A : Option Addr} {m c : Nat} {l : List UInt8} {b : Bool} (hb : nameB l = b) (w : World) (ha : Bs w w.heap.size A m (packS l)) :
    Calls Try.prog 15 #[.slice A m c] w (StRet w (if b then l else []) b) := by
  have := NUnpack_any (c := c) w ha
  rw [(isPackB_of l).1, (isPackB_of l).2, hb] at this
  exact this
theorem sort_bab : sortS [[98], [97], [98]] = [[97], [98]] := by decide +kernel
theorem EqualS_b {A B : Option Addr} {n m c d : Nat} {l k : List (List UInt8)} {W1 W2 : Nat} {b : Bool} (h : (l == k) = b) (w : World) (ha : Rd st w W1 A n l) (hb : Rd st w W2 B m k) (hn : n ≤ 140737488355328) :
    Calls Try.prog 18 #[.slice A n c, .slice B m d] w (BRt w b) := by
  have := EqualS_any (c := c) (d := d) w ha hb hn; rw [h] at this; exact this

set_option maxHeartbeats 400000 in
theorem awake3_any (w : World) : Calls Try.prog 9 #[] w (LawOk w) := by
  go_enter Try.func9, Try.ntmps9
  go_wp2_with fail
  refine (Pack_yes (l := [97, 46, 98]) (by decide +kernel) _).mono ?_
  rintro e w1 ⟨A1, c1, rfl, hown, hbel⟩
  have HO := hide hown
  have HB := hide hbel
  clear hown hbel
  go_wp2_with fail
  refine (NUnpack_pack (l := [97, 46, 98]) (b := true) (by decide +kernel) _ HO.out.bs).mono ?_
  rintro e w2 ⟨rfl, hbel⟩
  have HB2 := hide (below_step HB.out hbel)
  clear hbel
  unfold st
  go_wp2_with fail
  refine (NRight_b (l := [46, 46, 97]) (b := true) (by decide +kernel) _ (by decide)).mono ?_
  rintro e w3 ⟨rfl, hbel⟩
  have HB3 := hide (below_step HB2.out hbel)
  clear hbel
  go_wp2_with fail
  refine (NRight_b (l := [46, 46]) (b := false) (by decide +kernel) _ (by decide)).mono ?_
  rintro e w4 ⟨rfl, hbel⟩
  have HB4 := hide (below_step HB3.out hbel)
  clear hbel
  go_wp2_with fail
  refine (NSort_any (l := [[98], [97], [98]]) _ ((Rd.lit w4 9 (cs := [.string ⟨#[98]⟩, .string ⟨#[97]⟩, .string ⟨#[98]⟩]) rfl rfl).more (by simp)) (by decide)).mono ?_
  rw [sort_bab]
  rintro e w5 ⟨A5, c5, rfl, hown, hbel⟩
  have HO5 := hide hown
  have HB5 := hide (below_step (below_new HB4.out _) hbel)
  clear hown hbel
  go_wp2_with fail
  refine (EqualS_b (l := [[97], [98]]) (k := [[97], [98]]) (b := true) (by decide +kernel) _ (HO5.out.rd.alloc (Nat.le_refl _) _) (Rd.lit w5 9 (cs := [.string ⟨#[97]⟩, .string ⟨#[98]⟩]) rfl rfl) (by decide)).mono ?_
  rintro e w6 ⟨rfl, hbel⟩
  have HB6 := hide (below_step (below_new HB5.out _) hbel)
  clear hbel
  go_wp2_with fail
  go_ret
  exact LawOk.of HB6.out
end Go.Proofs.Ytbdakjepdkmcdaa
