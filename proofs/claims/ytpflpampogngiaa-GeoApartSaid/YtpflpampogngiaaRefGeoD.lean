/- Contracts of the reference's Bytes and Put (layer 6). -/
import Derived.Test.YtpflpampogngiaaRefGeoC
import Derived.Test.YtpflpampogngiaaSumD
namespace Go.Proofs.Ytpflpampogngiaa
open Go.RowKit Plain

/-- The bytes that tell a layout. -/
def hdS (a b c d : Int) : List UInt8 := [82, 84, 66, 76, 1, UInt8.ofNat a.toNat, UInt8.ofNat b.toNat, UInt8.ofNat c.toNat, UInt8.ofNat d.toNat]
/-- The first sector. -/
def putG (a b c d : Int) : List UInt8 := if geoB a b c d = true then sealS (hdS a b c d) else []
/-- It returns bytes of its own, and an error, and nothing that was there has turned. -/
def BERet (w : World) (t : Nat) (l : List UInt8) (k : Int) (x : Ending) (w' : World) : Prop := ∃ A n c, x = .returned (.tuple #[.slice A n c, .int .i64 k]) ∧ Own w' w.heap.size t A n c l ∧ Below w.heap.size w w'
theorem hd_len (a b c d : Int) : (hdS a b c d).length = 9 := rfl
theorem byte_nat {x : Int} (h0 : 0 ≤ x) (h1 : x < 256) : Value.int .u8 x = bv (UInt8.ofNat x.toNat) := by
  simp only [bv]
  congr 1
  simp
  omega
theorem hd_cells {a b c d : Int} (h : geoB a b c d = true) : [Value.int .u8 82, .int .u8 84, .int .u8 66, .int .u8 76, .int .u8 1, .int .u8 a, .int .u8 b, .int .u8 c, .int .u8 d] = bvs (hdS a b c d) := by
  have hh := geo_yes h
  rw [byte_nat (x := a) (by omega) (by omega), byte_nat (x := b) (by omega) (by omega), byte_nat (x := c) (by omega) (by omega), byte_nat (x := d) (by omega) (by omega)]
  rfl

set_option maxHeartbeats 800000 in
theorem RGBytes_yes {a b c d : Int} (h : geoB a b c d = true) (w : World) : Calls Try.prog 65 #[.agg #[.int .i64 a, .int .i64 b, .int .i64 c, .int .i64 d]] w (BRet w 5 64 (sealS (hdS a b c d))) := by
  have hh := geo_yes h
  have hc := hd_cells h
  have HC := hide hc
  have a0 : 0 ≤ a := by omega
  have a1 : a ≤ 255 := by omega
  have b0 : 0 ≤ b := by omega
  have b1 : b ≤ 255 := by omega
  have c0 : 0 ≤ c := by omega
  have c1 : c ≤ 255 := by omega
  have d0 : 0 ≤ d := by omega
  have d1 : d ≤ 255 := by omega
  have ha : IntKind.u8.wrap a = a := by simp [IntKind.wrap, IntKind.bits, IntKind.signed]; omega
  have hb : IntKind.u8.wrap b = b := by simp [IntKind.wrap, IntKind.bits, IntKind.signed]; omega
  have hc2 : IntKind.u8.wrap c = c := by simp [IntKind.wrap, IntKind.bits, IntKind.signed]; omega
  have hd : IntKind.u8.wrap d = d := by simp [IntKind.wrap, IntKind.bits, IntKind.signed]; omega
  have hlit : ∀ W : World, W.heap.size = w.heap.size + 1 → Bs (W.alloc (.cells #[.int .u8 82, .int .u8 84, .int .u8 66, .int .u8 76, .int .u8 1, .int .u8 a, .int .u8 b, .int .u8 c, .int .u8 d] 5)) (W.alloc (.cells #[.int .u8 82, .int .u8 84, .int .u8 66, .int .u8 76, .int .u8 1, .int .u8 a, .int .u8 b, .int .u8 c, .int .u8 d] 5)).heap.size (some ⟨w.heap.size + 1, 0, none⟩) 9 (hdS a b c d) := fun W hW => by
    have := (Bs.lit W 5 (cs := [.int .u8 82, .int .u8 84, .int .u8 66, .int .u8 76, .int .u8 1, .int .u8 a, .int .u8 b, .int .u8 c, .int .u8 d]) hc (hd_len a b c d)).more (B' := (W.alloc (.cells #[.int .u8 82, .int .u8 84, .int .u8 66, .int .u8 76, .int .u8 1, .int .u8 a, .int .u8 b, .int .u8 c, .int .u8 d] 5)).heap.size) (by simp)
    rwa [hW] at this
  have HLIT := hide hlit
  clear h hh hc HC hlit
  go_enter Try.func65, Try.ntmps65
  go_wp2_with fail
  refine (RSeal_any _ (HLIT.out _ (by simp)) (by decide)).mono ?_
  rintro e w2 ⟨A2, c2, rfl, hown, hbel⟩
  have HO := hide (hown.rebase (b' := w.heap.size) (by simp; omega))
  have HB := hide (below_step (below_new (below_new (below_self w) _) _) hbel)
  clear hown hbel
  go_wp2_with fail
  go_ret
  exact HO.out.ret HB.out

set_option maxHeartbeats 800000 in
theorem RGPut_any (a b c d : Int) (w : World) : Calls Try.prog 34 #[.agg #[.int .i64 a, .int .i64 b, .int .i64 c, .int .i64 d]] w (BERet w 5 (putG a b c d) (geoE a b c d)) := by
  cases hg : geoB a b c d with
  | false =>
    rw [show putG a b c d = [] from by simp [putG, hg], geoE_no hg]
    have HE := hide (geoE_no hg)
    clear hg
    go_enter Try.func34, Try.ntmps34
    go_wp2_with fail
    refine (RGCheck_e HE.out _).mono ?_
    rintro e w1 ⟨rfl, hbel⟩
    have hB1 := below_step (below_new (below_self w) _) hbel
    have c0 := (hbel.cell (p := ⟨w.heap.size, 0, none⟩) (by simp)).trans (by simp : _ = some (Value.int .i64 a))
    have c1 := (hbel.cell (p := ⟨w.heap.size, 1, none⟩) (by simp)).trans (by simp : _ = some (Value.int .i64 b))
    have c2 := (hbel.cell (p := ⟨w.heap.size, 2, none⟩) (by simp)).trans (by simp : _ = some (Value.int .i64 c))
    have c3 := (hbel.cell (p := ⟨w.heap.size, 3, none⟩) (by simp)).trans (by simp : _ = some (Value.int .i64 d))
    have HB1 := hide hB1
    have hlt : w.heap.size < w1.heap.size := by have := hbel.size; simp at this; omega
    clear hbel hB1
    go_wp2_with fail
    go_ret2
    exact ⟨_, _, _, rfl, Own.nil_ _ _ _, HB1.out⟩
  | true =>
    rw [show putG a b c d = sealS (hdS a b c d) from by simp [putG, hg], geoE_yes hg]
    have HE := hide (geoE_yes hg)
    have HG := hide hg
    clear hg
    go_enter Try.func34, Try.ntmps34
    go_wp2_with fail
    refine (RGCheck_e HE.out _).mono ?_
    rintro e w1 ⟨rfl, hbel⟩
    have hB1 := below_step (below_new (below_self w) _) hbel
    have c0 := (hbel.cell (p := ⟨w.heap.size, 0, none⟩) (by simp)).trans (by simp : _ = some (Value.int .i64 a))
    have c1 := (hbel.cell (p := ⟨w.heap.size, 1, none⟩) (by simp)).trans (by simp : _ = some (Value.int .i64 b))
    have c2 := (hbel.cell (p := ⟨w.heap.size, 2, none⟩) (by simp)).trans (by simp : _ = some (Value.int .i64 c))
    have c3 := (hbel.cell (p := ⟨w.heap.size, 3, none⟩) (by simp)).trans (by simp : _ = some (Value.int .i64 d))
    have HB1 := hide hB1
    have hlt : w.heap.size < w1.heap.size := by have := hbel.size; simp at this; omega
    clear hbel hB1
    go_wp2_with fail
    refine (RGBytes_yes HG.out _).mono ?_
    rintro e w2 ⟨A2, c2, rfl, hown, hbel⟩
    have HO := hide (hown.rebase HB1.out.size)
    have HB2 := hide (below_step HB1.out hbel)
    clear hown hbel
    go_wp2_with fail
    go_ret2
    exact ⟨_, _, _, rfl, HO.out, HB2.out⟩
end Go.Proofs.Ytpflpampogngiaa
