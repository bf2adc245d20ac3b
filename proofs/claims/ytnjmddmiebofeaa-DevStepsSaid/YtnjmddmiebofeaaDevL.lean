/- The awake of the laws of layer 5. -/
import Derived.Test.YtnjmddmiebofeaaDevK
namespace Go.Proofs.Ytnjmddmiebofeaa
open Go.RowKit Plain

theorem DSize_dk {w : World} {base dp n : Nat} {s : DSt} (h : DK w base dp s) (hn : s.safe.length = n) : Calls Try.prog 23 #[dptr dp] w (fun e w' => e = .returned (.int .i64 n) ∧ w = w') := by
  obtain ⟨gs, cs, gl, cl, A, c, hne, hbd, hr, hs, hl, hw⟩ := h
  subst hn
  exact DSize_any hr
theorem DWrites_dk {w : World} {base dp : Nat} {s : DSt} {k : Int} (h : DK w base dp s) (hk : s.wr = k) : Calls Try.prog 14 #[dptr dp] w (fun e w' => e = .returned (.int .i64 k) ∧ w = w') := by
  obtain ⟨gs, cs, gl, cl, A, c, hne, hbd, hr, hs, hl, hw⟩ := h
  subst hk
  exact DWrites_any hr
theorem far_row {w : World} {base g t : Nat} {cs : List Value} (h : RowL w g t cs) (h1 : t ≠ 76) (h2 : t ≠ 79) (h3 : t ≠ 90) : Far w base g := by
  refine ⟨h.lt, .inr fun hd => ?_⟩
  obtain ⟨arr, t', fr, h4, h5⟩ := hd
  have h6 := Option.some.inj (h.symm.trans h4)
  injection h6 with _ e _
  rcases h5 with h5 | h5 | h5
  · exact h1 (e.trans h5)
  · exact h2 (e.trans h5)
  · exact h3 (e.trans h5)
theorem bs_of_rd {w : World} {base n : Nat} {A : Option Addr} {l : List UInt8} (h : RdE Enc.byte w (Far w base) A n l) : Bs w w.heap.size A n l := ⟨h.1, fun hn => by
  obtain ⟨b, o, e, hb, hc⟩ := h.2 hn
  refine ⟨b, o, e, hb.1, fun i x hx => ?_⟩
  obtain ⟨cs, hcs, hcell⟩ := hc i x hx
  obtain rfl : cs = [bv x] := hcs
  have := hcell 0 _ rfl
  rwa [show o + (i * Enc.byte.k + 0) = o + i from by show o + (i * 1 + 0) = _; omega] at this⟩
def ones : List UInt8 := rep 64 1
def sN0 : DSt := newD (zeros 130) 2
def sN1 : DSt := writeD sN0 0 ones
def sN2 : DSt := writeD sN1 1 ones
def sN3 : DSt := crashD sN2 [false, true]
theorem sN0_ok : DOk sN0 := ⟨by decide, by decide, by intro p hp; simp [sN0, newD] at hp, by decide, by decide, by decide, by decide⟩
theorem sN1_ok : DOk sN1 := ⟨by decide, by decide, by intro p hp; simp [sN1, writeD, sN0, newD] at hp; subst hp; decide, by decide, by decide, by decide, by decide⟩
theorem sN2_ok : DOk sN2 := ⟨by decide, by decide, by intro p hp; simp [sN2, sN1, writeD, sN0, newD] at hp; rcases hp with rfl | rfl <;> decide, by decide, by decide, by decide, by decide⟩
theorem sN3_n : sN3.safe.length = 2 := by decide
theorem sN3_last : sN3.last[1]? = some ones := by decide +kernel
theorem sN3_wr : sN3.wr = 2 := by decide
theorem sN3_flat : sN3.safe.flatten[0]? = some 0 := by decide +kernel
theorem lit_bools (w : World) : RowL (w.alloc (.cells #[.bool false, .bool true] 4)) w.heap.size 4 [.bool false, .bool true] := RowL.new w _ _
theorem rd_bools {w : World} {g base : Nat} (h : RowL w g 4 [.bool false, .bool true]) : RdE Enc.bool w (Far w base) (some ⟨g, 0, none⟩) 2 [false, true] := by
  refine ⟨rfl, fun _ => ⟨g, 0, rfl, far_row h (by decide) (by decide) (by decide), fun i x hx => ⟨[.bool x], rfl, fun j v hv => ?_⟩⟩⟩
  cases j with
  | zero =>
    simp at hv
    subst hv
    rw [show 0 + (i * Enc.bool.k + 0) = i from by show 0 + (i * 1 + 0) = i; omega, h.cell]
    match i, hx with
    | 0, hx => simp at hx; subst hx; rfl
    | 1, hx => simp at hx; subst hx; rfl
  | succ j => simp at hv

set_option maxRecDepth 100000 in
set_option maxHeartbeats 3200000 in
theorem awake5_any (w : World) : Calls Try.prog 7 #[] w (LawOk w) := by
  go_enter Try.func7, Try.ntmps7
  go_wp2_with (at_make; refine wpList_make_Bs _ rfl (.const (.int .i64 130)) (.const (.int .i64 130)) 22 rfl 5 Try.underlying22 info_u8 .i64 .i64 _ _ 130 rfl rfl rfl rfl (by omega) ?_; intro w1 hr1 hb1; have HR1 := hide hr1; have HB1 := hide hb1; clear hr1 hb1)
  have HS1 : Hid (Bs w1 w1.heap.size (some ⟨w.heap.size, 0, none⟩) 130 (zeros 130)) := hide (Bs.of_row (o := 0) (l := zeros 130) HR1.out HR1.out.lt (fun i x hx => by rw [Nat.zero_add]; exact bvs_get hx))
  refine (DNew_any (n := 2) _ HS1.out (by omega) (by omega) rfl).mono ?_
  rintro e w2 ⟨dp, rfl, hdk, hbel⟩
  have HK2 : Hid (DK w2 w1.heap.size dp sN0) := hide hdk
  have HB2 := hide (below_step HB1.out hbel)
  have HZ2 := hide hbel.size
  clear hdk hbel
  go_wp2_with fail
  have hal := below_new (below_self w2) (.cells #[Value.int .u8 1] 5)
  have HAL := hide hal
  have HO : Hid (Bs (w2.alloc (.cells #[Value.int .u8 1] 5)) (w2.alloc (.cells #[Value.int .u8 1] 5)).heap.size (some ⟨w2.heap.size, 0, none⟩) 1 [1]) := hide ((Bs.one w2 5 (u := .int .u8 1) (x := 1) rfl).more (by simp))
  clear hal
  refine (Repeat64 _ HO.out).mono ?_
  rintro e w3 ⟨g3, r3, rfl, hr3, ht3, hge3, hbel⟩
  have HB23 := hide (below_step HAL.out hbel)
  have HB3 := hide (below_step HB2.out HB23.out)
  have HK3 := hide (HK2.out.below HB23.out)
  have HX3 : Hid (RdE Enc.byte w3 (Far w3 w1.heap.size) (some ⟨g3, 0, none⟩) 64 ones) := hide (RdE.of_bs (B := w3.heap.size) (Bs.of_row (o := 0) (l := ones) hr3 hr3.lt (fun i x hx => by
    have h1 := bvs_get hx
    rw [Nat.zero_add]
    have h2 : (r3.take 64)[i]? = some (bv x) := by rw [ht3]; exact h1
    rw [List.getElem?_take] at h2
    split at h2
    · exact h2
    · cases h2)) (fun _ a ha => by cases ha; exact far_row hr3 (by decide) (by decide) (by decide)))
  clear hr3 ht3 hge3 hbel
  go_wp2_with fail
  refine (DWrite_ok (i := 0) HK3.out sN0_ok (by decide) HX3.out (by decide)).mono ?_
  rintro e w4 ⟨rfl, hdk, hfr⟩
  have HK4 : Hid (DK w4 w1.heap.size dp sN1) := hide hdk
  have HX4 := hide (hfr.rd HX3.out)
  have HB4 : Hid (Below w.heap.size w w4) := hide (HB3.out.trans ((hfr.below (Nat.le_trans HZ2.out HB23.out.size)).mono HB1.out.size))
  have HZ4 : Hid (w1.heap.size ≤ w4.heap.size) := hide (Nat.le_trans (Nat.le_trans HZ2.out HB23.out.size) hfr.size)
  clear hdk hfr
  go_wp2_with fail
  refine (DWrite_ok (i := 1) HK4.out sN1_ok (by decide) HX4.out (by decide)).mono ?_
  rintro e w5 ⟨rfl, hdk, hfr⟩
  have HK5 : Hid (DK w5 w1.heap.size dp sN2) := hide hdk
  have HX5 := hide (hfr.rd HX4.out)
  have HB5 : Hid (Below w.heap.size w w5) := hide (HB4.out.trans ((hfr.below HZ4.out).mono HB1.out.size))
  have HZ5 : Hid (w1.heap.size ≤ w5.heap.size) := hide (Nat.le_trans HZ4.out hfr.size)
  clear hdk hfr
  go_wp2_with fail
  have hal := below_new (below_self w5) (.cells #[.bool false, .bool true] 4)
  have HK6 := hide (HK5.out.below hal)
  have HX6 := hide ((DFr.of_below (base := w1.heap.size) hal).rd HX5.out)
  have HB6 := hide (below_step HB5.out hal)
  have HZ6 : Hid (w1.heap.size ≤ (w5.alloc (.cells #[.bool false, .bool true] 4)).heap.size) := hide (Nat.le_trans HZ5.out hal.size)
  clear hal
  refine (DCrash_any HK6.out sN2_ok (rd_bools (lit_bools w5))).mono ?_
  rintro e w7 ⟨rfl, hdk, hfr⟩
  have HK7 : Hid (DK w7 w1.heap.size dp sN3) := hide hdk
  have HX7 := hide (hfr.rd HX6.out)
  have HB7 : Hid (Below w.heap.size w w7) := hide (HB6.out.trans ((hfr.below HZ6.out).mono HB1.out.size))
  clear hdk hfr
  go_wp2_with fail
  refine (DRead_ok (i := 1) HK7.out (by decide) (by decide) sN3_last (by decide)).mono ?_
  rintro e w8 ⟨A8, n8, c8, rfl, hbs, hbel⟩
  have HS8 := hide hbs
  have HK8 := hide (HK7.out.below hbel)
  have HX8 := hide ((DFr.of_below (base := w1.heap.size) hbel).rd HX7.out)
  have HB8 := hide (below_step HB7.out hbel)
  clear hbs hbel
  go_wp2_with fail
  refine (DSize_dk HK8.out sN3_n).mono ?_
  rintro e w' ⟨rfl, rfl⟩
  go_wp2_with fail
  refine (Equal_any _ HS8.out (bs_of_rd HX8.out)).mono ?_
  rw [show (ones == ones) = true from by simp]
  rintro e w' ⟨rfl, rfl⟩
  go_wp2_with fail
  refine (DSafe_any HK8.out sN3_n (by omega)).mono ?_
  rintro e w9 ⟨A9, c9, rfl, hown, hbel⟩
  have HK9 := hide (HK8.out.below hbel)
  have HB9 := hide (below_step HB8.out hbel)
  obtain ⟨b9, o9, rfl, -, hcell⟩ := hown.bs.2 (by omega)
  have hc9 := hcell 0 0 sN3_flat
  have hc9' : w9.cell? ⟨b9, o9, none⟩ = some (.int .u8 0) := hc9
  clear hown hbel hcell hc9
  go_wp2_with fail
  refine (DWrites_dk HK9.out sN3_wr).mono ?_
  rintro e w' ⟨rfl, rfl⟩
  go_wp2_with fail
  go_ret
  exact LawOk.of HB9.out
end Go.Proofs.Ytnjmddmiebofeaa
