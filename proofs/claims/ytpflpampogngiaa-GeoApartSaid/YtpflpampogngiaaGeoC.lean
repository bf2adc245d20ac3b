/- Contracts of the program's geo.Put, told, Get, and of bytes.HasPrefix. -/
import Derived.Test.YtpflpampogngiaaGeoB
import Derived.Test.YtpflpampogngiaaRefGeoE
import Derived.Test.YtpflpampogngiaaNumG
import Derived.Test.YtpflpampogngiaaNumC
import Derived.Lib.SlBytesConst
namespace Go.Proofs.Ytpflpampogngiaa
open Go.RowKit Plain

def preS (a b c d : Int) (k : Nat) : List UInt8 := [82, 84, 66, 76, 1] ++ ([UInt8.ofNat a.toNat, UInt8.ofNat b.toNat, UInt8.ofNat c.toNat, UInt8.ofNat d.toNat].take k)
theorem preS_cells (a b c d : Int) : [Value.int .u8 82, .int .u8 84, .int .u8 66, .int .u8 76, .int .u8 1] = bvs (preS a b c d 0) := by simp [bvs, bv, preS]
theorem NPut1 {A : Option Addr} {m c : Nat} {l l' : List UInt8} {x : Int} (hl : l' = l ++ [UInt8.ofNat x.toNat]) (h0 : 0 ≤ x) (h1 : x < 256) (w : World) (ha : Bs w w.heap.size A m l) (hm : m ≤ 1000) :
    Calls Try.prog 63 #[.slice A m c, .int .i64 x, .int .i64 1] w (BRet w 5 (m + 1) l') := by
  have hf : fits x 1 = true := by simp [fits, isz]; omega
  have h := Put_yes (c := c) (s := 1) w ha (by omega) hf
  have e : l ++ nb (1 : Int).toNat x.toNat = l' := by
    rw [hl]
    congr 1
    show [UInt8.ofNat (x.toNat % 256)] = _
    rw [Nat.mod_eq_of_lt (by omega)]
  rw [e] at h
  exact h
theorem ix4_0 (a b c d : Int) (W : World) : (Instr.index 92 (.agg #[.int .i64 a, .int .i64 b, .int .i64 c, .int .i64 d]) (.int .i64 0)).run Try.prog W = .ok (.int .i64 a) W := by
  simp [Instr.index, asIntOf, part, go_sem, run_underlying Try.underlying92]
theorem ix4_1 (a b c d : Int) (W : World) : (Instr.index 92 (.agg #[.int .i64 a, .int .i64 b, .int .i64 c, .int .i64 d]) (.int .i64 1)).run Try.prog W = .ok (.int .i64 b) W := by
  simp [Instr.index, asIntOf, part, go_sem, run_underlying Try.underlying92]
theorem ix4_2 (a b c d : Int) (W : World) : (Instr.index 92 (.agg #[.int .i64 a, .int .i64 b, .int .i64 c, .int .i64 d]) (.int .i64 2)).run Try.prog W = .ok (.int .i64 c) W := by
  simp [Instr.index, asIntOf, part, go_sem, run_underlying Try.underlying92]
theorem ix4_3 (a b c d : Int) (W : World) : (Instr.index 92 (.agg #[.int .i64 a, .int .i64 b, .int .i64 c, .int .i64 d]) (.int .i64 3)).run Try.prog W = .ok (.int .i64 d) W := by
  simp [Instr.index, asIntOf, part, go_sem, run_underlying Try.underlying92]
set_option maxRecDepth 100000 in
set_option maxHeartbeats 1600000 in
theorem GPut_e {a b c d e : Int} (h : geoE a b c d = e) (w : World) : Calls Try.prog 33 #[.agg #[.int .i64 a, .int .i64 b, .int .i64 c, .int .i64 d]] w (BERet w 5 (putG a b c d) e) := by
  have kc := fun (w : World) (C : Array Value) (n c : Nat) => Lib.run_convert_bytes_const (P := Try.prog) w 22 5 C n c Try.underlying22 Try.underlying5
  cases hg : geoB a b c d with
  | false =>
    obtain rfl : e = 1 := by rw [← h]; exact geoE_no hg
    rw [show putG a b c d = [] from by simp [putG, hg]]
    have HE := hide h
    clear h hg kc
    go_enter Try.func33, Try.ntmps33
    go_wp2_with fail
    refine (GCheck_e HE.out _).mono ?_
    rintro e w1 ⟨rfl, hbel⟩
    have hB1 := below_step (below_new (below_self w) _) hbel
    have c0 := (hbel.cell (p := ⟨w.heap.size, 0, none⟩) (by simp)).trans (by simp : _ = some (Value.int .i64 a))
    have c1 := (hbel.cell (p := ⟨w.heap.size, 1, none⟩) (by simp)).trans (by simp : _ = some (Value.int .i64 b))
    have c2 := (hbel.cell (p := ⟨w.heap.size, 2, none⟩) (by simp)).trans (by simp : _ = some (Value.int .i64 c))
    have c3 := (hbel.cell (p := ⟨w.heap.size, 3, none⟩) (by simp)).trans (by simp : _ = some (Value.int .i64 d))
    have HB1 := hide hB1
    have hlt : w.heap.size < w1.heap.size := by have := hbel.size; simp at this; omega
    clear hbel hB1
    go_wp2_with fail
    go_ret2
    exact ⟨_, _, _, rfl, Own.nil_ _ _ _, HB1.out⟩
  | true =>
    obtain rfl : e = 0 := by rw [← h]; exact geoE_yes hg
    rw [show putG a b c d = sealS (preS a b c d 4) from by simp only [putG, hg, if_true]; rfl]
    have HE := hide h
    have HH := hide (geo_yes hg)
    clear h hg
    go_enter Try.func33, Try.ntmps33
    go_wp2_with fail
    refine (GCheck_e HE.out _).mono ?_
    rintro e w1 ⟨rfl, hbel⟩
    have hB1 := below_step (below_new (below_self w) _) hbel
    have c0 := (hbel.cell (p := ⟨w.heap.size, 0, none⟩) (by simp)).trans (by simp : _ = some (Value.int .i64 a))
    have c1 := (hbel.cell (p := ⟨w.heap.size, 1, none⟩) (by simp)).trans (by simp : _ = some (Value.int .i64 b))
    have c2 := (hbel.cell (p := ⟨w.heap.size, 2, none⟩) (by simp)).trans (by simp : _ = some (Value.int .i64 c))
    have c3 := (hbel.cell (p := ⟨w.heap.size, 3, none⟩) (by simp)).trans (by simp : _ = some (Value.int .i64 d))
    have HB1 := hide hB1
    have hlt : w.heap.size < w1.heap.size := by have := hbel.size; simp at this; omega
    clear hbel hB1
    go_wp2_with fail
    have HC := hide (And.intro c0 (And.intro c1 (And.intro c2 c3)))
    clear c0 c1 c2 c3 kc
    have HL := hide (Bs.litm w1 5 (5, 6) (preS_cells a b c d) rfl)
    go_loopw [5, 24] (fun sv iv wr => ∃ (k n : Nat) (A1 : Option Addr) (c1 : Nat), k ≤ 4 ∧ n = 5 + k ∧ iv = .int .i64 k ∧ sv = .slice A1 n c1 ∧ Bs wr wr.heap.size A1 n (preS a b c d k) ∧ Below w.heap.size w wr) (fun _ iv _ => 4 - (intOf iv).toNat)
    case atStart => exact ⟨0, 5, _, _, by omega, rfl, rfl, rfl, HL.out.more (by simp), below_new HB1.out _⟩
    case round =>
      obtain ⟨k, n, A1, c1, hk, hn, rfl, rfl, hbs, hbel⟩ := hrel
      have HBS := hide hbs
      have HB := hide hbel
      clear hbs hbel
      obtain rfl | rfl | rfl | rfl | rfl : k = 0 ∨ k = 1 ∨ k = 2 ∨ k = 3 ∨ k = 4 := by omega
      · obtain rfl : n = 5 := by omega
        clear hn hk
        have ix := ix4_0 a b c d
        go_wp2_with fail
        refine (NPut1 (l := preS a b c d 0) (l' := preS a b c d 1) rfl (by have := HH.out; omega) (by have := HH.out; omega) _ HBS.out (by omega)).mono ?_
        rintro e w2 ⟨A2, c2, rfl, hown, hbel⟩
        have HO := hide hown
        have HB2 := hide (below_step HB.out hbel)
        clear hown hbel ix
        go_wp2_with fail
        go_roundw
        case rel => exact ⟨1, 6, _, _, by omega, rfl, by go_num, rfl, HO.out.bs, HB2.out⟩
        case measure => simp [intOf]
      · obtain rfl : n = 6 := by omega
        clear hn hk
        have ix := ix4_1 a b c d
        go_wp2_with fail
        refine (NPut1 (l := preS a b c d 1) (l' := preS a b c d 2) rfl (by have := HH.out; omega) (by have := HH.out; omega) _ HBS.out (by omega)).mono ?_
        rintro e w2 ⟨A2, c2, rfl, hown, hbel⟩
        have HO := hide hown
        have HB2 := hide (below_step HB.out hbel)
        clear hown hbel ix
        go_wp2_with fail
        go_roundw
        case rel => exact ⟨2, 7, _, _, by omega, rfl, by go_num, rfl, HO.out.bs, HB2.out⟩
        case measure => simp [intOf]
      · obtain rfl : n = 7 := by omega
        clear hn hk
        have ix := ix4_2 a b c d
        go_wp2_with fail
        refine (NPut1 (l := preS a b c d 2) (l' := preS a b c d 3) rfl (by have := HH.out; omega) (by have := HH.out; omega) _ HBS.out (by omega)).mono ?_
        rintro e w2 ⟨A2, c2, rfl, hown, hbel⟩
        have HO := hide hown
        have HB2 := hide (below_step HB.out hbel)
        clear hown hbel ix
        go_wp2_with fail
        go_roundw
        case rel => exact ⟨3, 8, _, _, by omega, rfl, by go_num, rfl, HO.out.bs, HB2.out⟩
        case measure => simp [intOf]
      · obtain rfl : n = 8 := by omega
        clear hn hk
        have ix := ix4_3 a b c d
        go_wp2_with fail
        refine (NPut1 (l := preS a b c d 3) (l' := preS a b c d 4) rfl (by have := HH.out; omega) (by have := HH.out; omega) _ HBS.out (by omega)).mono ?_
        rintro e w2 ⟨A2, c2, rfl, hown, hbel⟩
        have HO := hide hown
        have HB2 := hide (below_step HB.out hbel)
        clear hown hbel ix
        go_wp2_with fail
        go_roundw
        case rel => exact ⟨4, 9, _, _, by omega, rfl, by go_num, rfl, HO.out.bs, HB2.out⟩
        case measure => simp [intOf]
      · obtain rfl : n = 9 := by omega
        clear hn hk
        go_wp2_with fail
        refine (Seal_any _ HBS.out).mono ?_
        rintro e w2 ⟨A2, c2, rfl, hown, hbel⟩
        have HO := hide hown
        have HB2 := hide (below_step HB.out hbel)
        have HS := hide hbel.size
        have HS2 := hide HB.out.size
        clear hown hbel
        go_wp2_with fail
        go_ret2
        exact ⟨_, _, _, rfl, HO.out.rebase HS2.out, HB2.out⟩

theorem gN_get {l : List UInt8} {p : Nat} : hold l.length (p : Int) 1 = true → (getS l p 1 : Int) = gN l p := by
  intro h
  obtain ⟨_, _, h2⟩ := hold_parts h
  have hp : p < l.length := by omega
  unfold getS gN
  simp only [Int.toNat_natCast]
  show ((val ((l.drop p).take 1) : Nat) : Int) = _
  rw [show (l.drop p).take 1 = [l[p]] from by rw [List.drop_eq_getElem_cons hp]; rfl]
  simp [val, List.getD, hp]
theorem gN_no {l : List UInt8} {p : Nat} (h : hold l.length (p : Int) 1 = false) : gN l p = 0 := by
  have hp : ¬ p < l.length := by
    intro hp
    have : hold l.length (p : Int) 1 = true := by simp [hold, isz]; omega
    rw [this] at h
    cases h
  unfold gN
  simp [List.getD, List.getElem?_eq_none (Nat.le_of_not_lt hp)]
theorem NGet1 {A : Option Addr} {m c B : Nat} {l : List UInt8} (p : Nat) {x y : Int} (hy : y = p) (hx : gN l p = x) (w : World) (ha : Bs w B A m l) (hm : m ≤ 100000) (hmc : m ≤ c) :
    Calls Try.prog 82 #[.slice A m c, .int .i64 y, .int .i64 1] w fun e w' => ∃ q, e = .returned (.tuple #[.int .i64 x, .bool q]) ∧ w = w' := by
  subst hy
  subst hx
  cases h : hold m (p : Int) 1 with
  | false =>
    rw [gN_no (by rw [ha.len]; exact h)]
    exact (Get_no w (by omega) h).mono fun _ _ ⟨h1, h2⟩ => ⟨_, h1, h2⟩
  | true =>
    rw [← gN_get (by rw [ha.len]; exact h)]
    exact (Get_yes w ha (by omega) hmc h).mono fun _ _ ⟨h1, h2⟩ => ⟨_, h1, h2⟩
theorem RowL.on {w w' : World} {g t : Nat} {cs : List Value} (h : RowL w g t cs) (hb : Below w.heap.size w w') : RowL w' g t cs := (hb.block g h.lt).trans h
theorem RowL.four {w : World} {g t : Nat} {a b c d : Value} (h : RowL w g t [a, b, c, d]) :
    (w.cell? ⟨g, 0, none⟩ = some a ∧ w.cell? ⟨g, 1, none⟩ = some b ∧ w.cell? ⟨g, 2, none⟩ = some c ∧ w.cell? ⟨g, 3, none⟩ = some d) ∧ (w.frozen? ⟨g, 0, none⟩ = false ∧ w.frozen? ⟨g, 1, none⟩ = false ∧ w.frozen? ⟨g, 2, none⟩ = false ∧ w.frozen? ⟨g, 3, none⟩ = false) :=
  ⟨⟨h.cell 0, h.cell 1, h.cell 2, h.cell 3⟩, h.frozen 0, h.frozen 1, h.frozen 2, h.frozen 3⟩
theorem RowL.apart {w : World} {g g' t : Nat} {cs : List Value} (h : RowL w g t cs) (hne : g ≠ g') (i : Nat) (u : Value) : RowL (w.setCell ⟨g', i, none⟩ u) g t cs := (Below.heap_setCell w ⟨g', i, none⟩ u g hne).trans h
theorem RowL.new2 (w : World) (o : Obj) (t : TypeId) (cs : List Value) : RowL ((w.alloc o).alloc (.cells cs.toArray t)) (w.heap.size + 1) t cs := by
  have := RowL.new (w.alloc o) t cs
  rwa [show (w.alloc o).heap.size = w.heap.size + 1 from by simp] at this
def tlS (a b c d : Int) : Nat → List Value
  | 0 => [.int .i64 0, .int .i64 0, .int .i64 0, .int .i64 0]
  | 1 => [.int .i64 a, .int .i64 0, .int .i64 0, .int .i64 0]
  | 2 => [.int .i64 a, .int .i64 b, .int .i64 0, .int .i64 0]
  | 3 => [.int .i64 a, .int .i64 b, .int .i64 c, .int .i64 0]
  | _ => [.int .i64 a, .int .i64 b, .int .i64 c, .int .i64 d]
set_option maxRecDepth 100000 in
set_option maxHeartbeats 1600000 in
theorem GTold_any {A : Option Addr} {m cc : Nat} {l : List UInt8} {a b c d : Int} (w : World) (ha : Bs w w.heap.size A m l) (hm : m ≤ 100000) (hmc : m ≤ cc) (e5 : gN l 5 = a) (e6 : gN l 6 = b) (e7 : gN l 7 = c) (e8 : gN l 8 = d) :
    Calls Try.prog 66 #[.slice A m cc] w (VRet w (.agg #[.int .i64 a, .int .i64 b, .int .i64 c, .int .i64 d])) := by
  have HA := hide ha
  have HX0 := hide e5
  have HX1 := hide e6
  have HX2 := hide e7
  have HX3 := hide e8
  clear ha e5 e6 e7 e8
  go_enter Try.func66, Try.ntmps66
  go_wp2_with fail
  go_loopw [5] (fun iv wr => ∃ k : Nat, k ≤ 4 ∧ iv = .int .i64 k ∧ RowL wr w.heap.size 58 (tlS 0 0 0 0 0) ∧ RowL wr (w.heap.size + 1) 92 (tlS a b c d k) ∧ Below w.heap.size w wr) (fun iv _ => 4 - (intOf iv).toNat)
  case atStart => exact ⟨0, by omega, rfl, (RowL.new w _ _).on (below_new (below_self _) _), RowL.new2 w _ _ _, below_new (below_new (below_self w) _) _⟩
  case round =>
    obtain ⟨k, hk, rfl, hr0, hr1, hbel⟩ := hrel
    have HR0 := hide hr0
    have HR1 := hide hr1
    have HB := hide hbel
    have hne : (w.heap.size == w.heap.size + 1) = false := by simp
    clear hr0 hr1 hbel hne
    obtain rfl | rfl | rfl | rfl | rfl : k = 0 ∨ k = 1 ∨ k = 2 ∨ k = 3 ∨ k = 4 := by omega
    · obtain ⟨⟨c0, c1, c2, c3⟩, f0, f1, f2, f3⟩ := RowL.four HR1.out
      clear hk
      go_wp2_with fail
      refine (NGet1 5 rfl HX0.out _ (HA.out.below HB.out) hm hmc).mono ?_
      rintro e w' ⟨q, rfl, rfl⟩
      go_wp2_with fail
      go_roundw
      case rel => exact ⟨1, by omega, by go_num, HR0.out.apart (by omega) _ _, HR1.out.set_ _ _, HB.out.setCell (by simp) _⟩
      case measure => simp [intOf]
    · obtain ⟨⟨c0, c1, c2, c3⟩, f0, f1, f2, f3⟩ := RowL.four HR1.out
      clear hk
      go_wp2_with fail
      refine (NGet1 6 rfl HX1.out _ (HA.out.below HB.out) hm hmc).mono ?_
      rintro e w' ⟨q, rfl, rfl⟩
      go_wp2_with fail
      go_roundw
      case rel => exact ⟨2, by omega, by go_num, HR0.out.apart (by omega) _ _, HR1.out.set_ _ _, HB.out.setCell (by simp) _⟩
      case measure => simp [intOf]
    · obtain ⟨⟨c0, c1, c2, c3⟩, f0, f1, f2, f3⟩ := RowL.four HR1.out
      clear hk
      go_wp2_with fail
      refine (NGet1 7 rfl HX2.out _ (HA.out.below HB.out) hm hmc).mono ?_
      rintro e w' ⟨q, rfl, rfl⟩
      go_wp2_with fail
      go_roundw
      case rel => exact ⟨3, by omega, by go_num, HR0.out.apart (by omega) _ _, HR1.out.set_ _ _, HB.out.setCell (by simp) _⟩
      case measure => simp [intOf]
    · obtain ⟨⟨c0, c1, c2, c3⟩, f0, f1, f2, f3⟩ := RowL.four HR1.out
      clear hk
      go_wp2_with fail
      refine (NGet1 8 rfl HX3.out _ (HA.out.below HB.out) hm hmc).mono ?_
      rintro e w' ⟨q, rfl, rfl⟩
      go_wp2_with fail
      go_roundw
      case rel => exact ⟨4, by omega, by go_num, HR0.out.apart (by omega) _ _, HR1.out.set_ _ _, HB.out.setCell (by simp) _⟩
      case measure => simp [intOf]
    · obtain ⟨⟨c0, c1, c2, c3⟩, f0, f1, f2, f3⟩ := RowL.four HR1.out
      obtain ⟨⟨z0, z1, z2, z3⟩, g0, g1, g2, g3⟩ := RowL.four HR0.out
      clear hk
      go_wp2_with fail
      refine bodyPost_ret (v := .agg #[.int .i64 a, .int .i64 b, .int .i64 c, .int .i64 d]) (by simp [results, Try.results66, go_sem, *]) rfl (VRet.of ((((HB.out.setCell (Nat.le_refl _) _).setCell (Nat.le_refl _) _).setCell (Nat.le_refl _) _).setCell (Nat.le_refl _) _))
end Go.Proofs.Ytpflpampogngiaa
