/- attr.Put (layer 9). -/
import Derived.Test.YthjjjeolpdekoaaAttD
import Derived.Test.YthjjjeolpdekoaaSumC
import Derived.Test.YthjjjeolpdekoaaNumE
import Derived.Test.YthjjjeolpdekoaaRefGeoD
import Derived.StillTailTactics
namespace Go.Proofs.Ythjjjeolpdekoaa
open Go.RowKit Plain

theorem Put_f {A : Option Addr} {m c : Nat} {l l' : List UInt8} {n : Int} (s : Nat) (hs : s = 1 ∨ s = 2 ∨ s = 4) (h0 : 0 ≤ n) (h1 : n < 256 ^ s) (M : Nat) (hM : m + s = M) (hl : l ++ nb s n.toNat = l') (w : World) (ha : Bs w w.heap.size A m l) (hm : m ≤ 140737488355000) :
    Calls Try.prog 42 #[.slice A m c, .int .i64 n, .int .i64 (s : Int)] w (BRet w 5 M l') := by
  have hf : fits n s = true := by
    simp only [fits, Bool.and_eq_true, decide_eq_true_eq]
    refine ⟨by rcases hs with rfl | rfl | rfl <;> rfl, h0, ?_⟩
    simpa using h1
  subst hM hl
  exact Put_yes w ha hm hf
/-- A right one's parts, in bounds. -/
def okA (x : AttV) : Prop := (0 ≤ x.h ∧ x.h ≤ 31) ∧ (0 ≤ x.o ∧ x.o ≤ 255) ∧ x.r.length ≤ 24 ∧ (0 ≤ x.l ∧ x.l ≤ 255) ∧ (0 ≤ x.i ∧ x.i ≤ 65535) ∧ (0 ≤ x.g ∧ x.g ≤ 268435455) ∧ (0 ≤ x.s ∧ x.s ≤ 65535)
theorem right_okA {x : AttV} (h : rightA x = true) : okA x := by
  unfold rightA oriB at h
  simp only [Bool.and_eq_true] at h
  obtain ⟨h1, _, _, h2, h3, ⟨h4, h5, h6⟩, h7⟩ := h
  have h3 := inB_yes h3
  exact ⟨inB_yes h1, inB_yes h2, by omega, inB_yes h4, inB_yes h5, inB_yes h6, inB_yes h7⟩
/-- The redirect's bytes, and bytes 0 up to 24. -/
def redS (r : List UInt8) : List UInt8 := r ++ zeros (24 - r.length)
theorem redS_len {r : List UInt8} (h : r.length ≤ 24) : (redS r).length = 24 := by
  unfold redS
  rw [List.length_append, zeros_length]
  omega
theorem redS_splice (r : List UInt8) : splice ([.int .u8 0, .int .u8 0, .int .u8 0, .int .u8 0, .int .u8 0, .int .u8 0, .int .u8 0, .int .u8 0, .int .u8 0, .int .u8 0, .int .u8 0, .int .u8 0, .int .u8 0, .int .u8 0, .int .u8 0, .int .u8 0, .int .u8 0, .int .u8 0, .int .u8 0, .int .u8 0, .int .u8 0, .int .u8 0, .int .u8 0, .int .u8 0] : List Value) 0 (bvs r) = bvs (redS r) := by
  have e : ([.int .u8 0, .int .u8 0, .int .u8 0, .int .u8 0, .int .u8 0, .int .u8 0, .int .u8 0, .int .u8 0, .int .u8 0, .int .u8 0, .int .u8 0, .int .u8 0, .int .u8 0, .int .u8 0, .int .u8 0, .int .u8 0, .int .u8 0, .int .u8 0, .int .u8 0, .int .u8 0, .int .u8 0, .int .u8 0, .int .u8 0, .int .u8 0] : List Value) = bvs (zeros 24) := by simp [bvs, zeros, bv, List.replicate]
  rw [e, ← bvs_splice]
  congr 1
  unfold splice redS zeros
  rw [List.take_zero, List.nil_append, Nat.zero_add, List.drop_replicate]
/-- The bytes of attributes, ahead of the sum. -/
def bodyA (x : AttV) : List UInt8 := nb 1 x.h.toNat ++ nb 1 x.o.toNat ++ nb 1 x.r.length ++ redS x.r ++ nb 1 x.l.toNat ++ nb 2 x.i.toNat ++ nb 4 x.g.toNat ++ nb 2 x.s.toNat
/-- The block, and the error. -/
def putA (x : AttV) : List UInt8 := if rightA x = true then sealS (bodyA x) else []
def errA (x : AttV) : Int := if rightA x = true then 0 else 1
theorem putA_len {x : AttV} (h : rightA x = true) : (putA x).length = 64 := by
  unfold putA
  rw [if_pos h, sealS_length]

set_option maxRecDepth 100000 in
set_option maxHeartbeats 1600000 in
theorem APut_any (x : AttV) (w : World) : Calls Try.prog 26 #[.agg #[.int .i64 x.h, .int .i64 x.o, .string ⟨x.r.toArray⟩, .int .i64 x.l, .int .i64 x.i, .int .i64 x.g, .int .i64 x.s]] w (BERet w 5 (putA x) (errA x)) := by
  obtain ⟨hr1, hb, hsz⟩ := rows1 w [.int .i64 x.h, .int .i64 x.o, .string ⟨x.r.toArray⟩, .int .i64 x.l, .int .i64 x.i, .int .i64 x.g, .int .i64 x.s] 48
  have HR1 := hide hr1
  have HB := hide hb
  clear hr1 hb hsz
  cases hr : rightA x with
  | false =>
    have e1 : putA x = [] := by simp [putA, hr]
    have e2 : errA x = 1 := by simp [errA, hr]
    rw [e1, e2]
    have HR := hide hr
    clear hr e1 e2
    go_enter Try.func26, Try.ntmps26
    go_wp2_with fail
    refine (ARight_b x _ HR.out).mono ?_
    rintro e w2 ⟨rfl, hbel⟩
    have HB2 := hide (below_step HB.out hbel)
    clear hbel
    go_wp2_with fail
    go_ret2
    exact ⟨_, _, _, rfl, Own.nil_ _ _ _, HB2.out⟩
  | true =>
    have e2 : errA x = 0 := by simp [errA, hr]
    obtain ⟨⟨hh0, hh1⟩, ⟨ho0, ho1⟩, hrl, ⟨hl0, hl1⟩, ⟨hi0, hi1⟩, ⟨hg0, hg1⟩, ⟨hs0, hs1⟩⟩ := right_okA hr
    have e1 : putA x = sealS (bodyA x) := by unfold putA; rw [if_pos hr]
    rw [e1, e2]
    have HR := hide hr
    clear hr e1 e2
    go_enter Try.func26, Try.ntmps26
    go_wp2_with fail
    refine (ARight_b x _ HR.out).mono ?_
    rintro e w2 ⟨rfl, hbel⟩
    have HB2 := hide (below_step HB.out hbel)
    have HR2 := hide (HR1.out.on hbel)
    obtain ⟨hrd, hbd, hsd⟩ := rows1 w2 [.int .u8 0, .int .u8 0, .int .u8 0, .int .u8 0, .int .u8 0, .int .u8 0, .int .u8 0, .int .u8 0, .int .u8 0, .int .u8 0, .int .u8 0, .int .u8 0, .int .u8 0, .int .u8 0, .int .u8 0, .int .u8 0, .int .u8 0, .int .u8 0, .int .u8 0, .int .u8 0, .int .u8 0, .int .u8 0, .int .u8 0, .int .u8 0] 82
    have HRD := hide hrd
    have HBD := hide hbd
    have HR3 := hide (HR2.out.on hbd)
    clear hbel hrd hbd hsd HR1 HB
    go_wp2_with fail
    have c2 : (w2.alloc (.cells #[.int .u8 0, .int .u8 0, .int .u8 0, .int .u8 0, .int .u8 0, .int .u8 0, .int .u8 0, .int .u8 0, .int .u8 0, .int .u8 0, .int .u8 0, .int .u8 0, .int .u8 0, .int .u8 0, .int .u8 0, .int .u8 0, .int .u8 0, .int .u8 0, .int .u8 0, .int .u8 0, .int .u8 0, .int .u8 0, .int .u8 0, .int .u8 0] 82)).cell? ⟨w.heap.size, 2, none⟩ = some (.string ⟨x.r.toArray⟩) := HR3.out.cell 2
    have hgx : w.heap.size < (w2.alloc (.cells #[.int .u8 0, .int .u8 0, .int .u8 0, .int .u8 0, .int .u8 0, .int .u8 0, .int .u8 0, .int .u8 0, .int .u8 0, .int .u8 0, .int .u8 0, .int .u8 0, .int .u8 0, .int .u8 0, .int .u8 0, .int .u8 0, .int .u8 0, .int .u8 0, .int .u8 0, .int .u8 0, .int .u8 0, .int .u8 0, .int .u8 0, .int .u8 0] 82)).heap.size := HR3.out.lt
    generalize (w2.alloc (.cells #[.int .u8 0, .int .u8 0, .int .u8 0, .int .u8 0, .int .u8 0, .int .u8 0, .int .u8 0, .int .u8 0, .int .u8 0, .int .u8 0, .int .u8 0, .int .u8 0, .int .u8 0, .int .u8 0, .int .u8 0, .int .u8 0, .int .u8 0, .int .u8 0, .int .u8 0, .int .u8 0, .int .u8 0, .int .u8 0, .int .u8 0, .int .u8 0] 82)) = w3 at *
    go_still_tail 3, (by kernel_rfl)
    change wpList _ _ _ _ _ w3.drew
    go_wp2_with ((with_reducible refine wpList_copy_text rfl (.tmp 9) (.tmp 11) 24 9 rfl 5 Try.underlying24 u8_size w2.heap.size 0 24 24 rfl [.int .u8 0, .int .u8 0, .int .u8 0, .int .u8 0, .int .u8 0, .int .u8 0, .int .u8 0, .int .u8 0, .int .u8 0, .int .u8 0, .int .u8 0, .int .u8 0, .int .u8 0, .int .u8 0, .int .u8 0, .int .u8 0, .int .u8 0, .int .u8 0, .int .u8 0, .int .u8 0, .int .u8 0, .int .u8 0, .int .u8 0, .int .u8 0] 82 HRD.out.drew x.r rfl hrl (by simp; omega) w2.heap.size w2 (below_drew HBD.out) (Nat.le_refl _) ?_); intro w4 hr4 hb4; have HD4 := hide hr4; have HB4 := hide (below_step HB2.out hb4); have HR4 := hide (HR2.out.on hb4); have HBB4 := hide (below_self w4); clear hr4 hb4; have hgx : w.heap.size < w4.heap.size := HR4.out.lt; have cc : w4.cell? ⟨w.heap.size, 0, none⟩ = some (.int .i64 x.h) := HR4.out.cell 0)
    rw [redS_splice] at HD4
    have HS4 : Hid (Bs w4 w4.heap.size (some ⟨w2.heap.size, 0, none⟩) 24 (redS x.r)) := hide (by
      have := Bs.of_row (o := 0) (B := w4.heap.size) HD4.out HD4.out.lt (l := redS x.r) (fun i x hx => by rw [Nat.zero_add]; exact bvs_get hx)
      rwa [redS_len hrl] at this)
    clear HB2 HR2 HR3 HRD HBD c2 HD4
    refine (Put_f (n := x.h) 1 (by omega) hh0 (by omega) 1 rfl rfl _ (Bs.none_ _ _ _) (by omega)).mono ?_
    rintro e w5 ⟨A5, c5, rfl, hown, hbel⟩
    have HO5 := hide (hown.rebase HBB4.out.size)
    have HBB5 := hide (HBB4.out.trans (hbel.mono HBB4.out.size))
    clear cc hgx hown hbel HBB4
    have hgx : w.heap.size < w5.heap.size := (HR4.out.on HBB5.out).lt
    have cc : w5.cell? ⟨w.heap.size, 1, none⟩ = some (.int .i64 x.o) := (HR4.out.on HBB5.out).cell 1
    go_wp2_with fail
    refine (Put_f (n := x.o) 1 (by omega) ho0 (by omega) 2 rfl rfl _ HO5.out.bs (by omega)).mono ?_
    rintro e w6 ⟨A6, c6, rfl, hown, hbel⟩
    have HO6 := hide (hown.rebase HBB5.out.size)
    have HBB6 := hide (HBB5.out.trans (hbel.mono HBB5.out.size))
    clear cc hgx hown hbel HBB5 HO5
    have hgx : w.heap.size < w6.heap.size := (HR4.out.on HBB6.out).lt
    have cc : w6.cell? ⟨w.heap.size, 2, none⟩ = some (.string ⟨x.r.toArray⟩) := (HR4.out.on HBB6.out).cell 2
    go_wp2_with fail
    refine (Put_f (n := ((x.r.length : Nat) : Int)) 1 (by omega) (by omega) (by omega) 3 rfl rfl _ HO6.out.bs (by omega)).mono ?_
    rintro e w7 ⟨A7, c7, rfl, hown, hbel⟩
    have HO7 := hide (hown.rebase HBB6.out.size)
    have HBB7 := hide (HBB6.out.trans (hbel.mono HBB6.out.size))
    clear cc hgx hown hbel HBB6 HO6
    go_wp2_with (at_builtin; refine wpList_append_Bs _ rfl (.tmp 25) (.tmp 26) 24 rfl w4.heap.size 5 Try.underlying24 info_u8 _ 3 _ _ rfl HO7.out _ (some ⟨w2.heap.size, 0, none⟩) 24 24 (redS x.r) rfl (HS4.out.below HBB7.out) 27 rfl (by omega) HBB7.out.size ?_; intro A8 c8 w8 hown8 hbel8; have HO8 := hide hown8; have HBB8 := hide (HBB7.out.trans hbel8); clear hown8 hbel8 HO7 HBB7; have hgx : w.heap.size < w8.heap.size := (HR4.out.on HBB8.out).lt; have cc : w8.cell? ⟨w.heap.size, 3, none⟩ = some (.int .i64 x.l) := (HR4.out.on HBB8.out).cell 3)
    refine (Put_f (n := x.l) 1 (by omega) hl0 (by omega) 28 rfl rfl _ HO8.out.bs (by omega)).mono ?_
    rintro e w9 ⟨A9, c9, rfl, hown, hbel⟩
    have HO9 := hide (hown.rebase HBB8.out.size)
    have HBB9 := hide (HBB8.out.trans (hbel.mono HBB8.out.size))
    clear cc hgx hown hbel HBB8 HO8
    have hgx : w.heap.size < w9.heap.size := (HR4.out.on HBB9.out).lt
    have cc : w9.cell? ⟨w.heap.size, 4, none⟩ = some (.int .i64 x.i) := (HR4.out.on HBB9.out).cell 4
    go_wp2_with fail
    refine (Put_f (n := x.i) 2 (by omega) hi0 (by omega) 30 rfl rfl _ HO9.out.bs (by omega)).mono ?_
    rintro e w10 ⟨A10, c10, rfl, hown, hbel⟩
    have HO10 := hide (hown.rebase HBB9.out.size)
    have HBB10 := hide (HBB9.out.trans (hbel.mono HBB9.out.size))
    clear cc hgx hown hbel HBB9 HO9
    have hgx : w.heap.size < w10.heap.size := (HR4.out.on HBB10.out).lt
    have cc : w10.cell? ⟨w.heap.size, 5, none⟩ = some (.int .i64 x.g) := (HR4.out.on HBB10.out).cell 5
    go_wp2_with fail
    refine (Put_f (n := x.g) 4 (by omega) hg0 (by omega) 34 rfl rfl _ HO10.out.bs (by omega)).mono ?_
    rintro e w11 ⟨A11, c11, rfl, hown, hbel⟩
    have HO11 := hide (hown.rebase HBB10.out.size)
    have HBB11 := hide (HBB10.out.trans (hbel.mono HBB10.out.size))
    clear cc hgx hown hbel HBB10 HO10
    have hgx : w.heap.size < w11.heap.size := (HR4.out.on HBB11.out).lt
    have cc : w11.cell? ⟨w.heap.size, 6, none⟩ = some (.int .i64 x.s) := (HR4.out.on HBB11.out).cell 6
    go_wp2_with fail
    refine (Put_f (n := x.s) 2 (by omega) hs0 (by omega) 36 rfl rfl _ HO11.out.bs (by omega)).mono ?_
    rintro e w12 ⟨A12, c12, rfl, hown, hbel⟩
    have HO12 := hide (hown.rebase HBB11.out.size)
    have HBB12 := hide (HBB11.out.trans (hbel.mono HBB11.out.size))
    clear cc hgx hown hbel HBB11 HO11
    go_wp2_with fail
    refine (Seal_any _ HO12.out.bs).mono ?_
    rintro e w13 ⟨A13, c13, rfl, hown, hbel⟩
    have HB13 := hide (HB4.out.trans ((HBB12.out.trans (hbel.mono HBB12.out.size)).mono HB4.out.size))
    have HO13 := hide (hown.rebase (Nat.le_trans HB4.out.size HBB12.out.size))
    clear hown hbel
    go_wp2_with fail
    go_ret2
    exact ⟨_, _, _, rfl, HO13.out, HB13.out⟩
end Go.Proofs.Ythjjjeolpdekoaa
