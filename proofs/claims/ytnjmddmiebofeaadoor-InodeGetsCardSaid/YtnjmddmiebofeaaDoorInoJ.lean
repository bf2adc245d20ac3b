/- What was put is got; awake (layer 7). -/
import Derived.Test.YtnjmddmiebofeaaDoorInoI
namespace Go.Proofs.YtnjmddmiebofeaaDoor
open Go.RowKit Plain

theorem bodyI_len {x : InoV} (h : okN x) : (bodyI x 10).length = 20 := by
  rw [bodyI_okN h]
  simp [nb_length]
theorem seal_take (l : List UInt8) (h : l.length = 20) : (sealS l).take 20 = l := by
  have e1 : l.take 60 = l := List.take_of_length_le (by omega)
  unfold sealS bodyS
  rw [e1]
  unfold splice
  rw [List.take_zero, List.nil_append]
  rw [List.take_append_of_le_length (by simp [zeros]; omega), List.take_append_of_le_length (by omega), List.take_of_length_le (by omega)]
theorem getR_take (L : List UInt8) (p s n : Nat) (hL : L.length = 64) (hs : isz (s : Int) = true) (hps : p + s ≤ n) (hn : n ≤ 64) : getR L p s = val (((L.take n).drop p).take s) := by
  have hh : hold L.length p s = true := by simp only [hold, Bool.and_eq_true, decide_eq_true_eq, hL]; exact ⟨hs, by omega, by omega⟩
  unfold getR
  rw [if_pos hh]
  unfold getS
  congr 1
  simp only [Int.toNat_natCast]
  rw [List.drop_take, List.take_take, Nat.min_eq_left (by omega)]
theorem told_put {x : InoV} (h : rightI x = true) : toldI (putI x) = x := by
  by_cases h0 : x = ino0
  · subst h0
    have e : putI ino0 = zeros 64 := by unfold putI; rw [if_pos ino0_right, if_pos rfl]
    rw [e]
    exact got_zeros.1
  · have hok := right_okN h h0
    have e : putI x = sealS (bodyI x 10) := by unfold putI; rw [if_pos h, if_neg h0]
    rw [e]
    have hb := bodyI_okN hok
    have ht := seal_take _ (bodyI_len hok)
    have hl := sealS_length (bodyI x 10)
    generalize sealS (bodyI x 10) = L at *
    rw [hb] at ht
    have g : ∀ p s : Nat, isz (s : Int) = true → p + s ≤ 20 → getR L p s = val ((([UInt8.ofNat x.k.toNat, UInt8.ofNat x.i.toNat] ++ nb 2 x.n.toNat ++ nb 4 x.g.toNat ++ nb 2 x.s.toNat ++ nb 2 x.p.toNat ++ nb 2 x.q.toNat ++ nb 2 x.r.toNat ++ nb 2 x.t.toNat ++ nb 2 x.a.toNat).drop p).take s) := fun p s hs hps => by
      rw [getR_take L p s 20 hl hs hps (by omega), ht]
    unfold okN at hok
    have v2 : ∀ z : Int, 0 ≤ z ∧ z ≤ 65535 → ((val (nb 2 z.toNat) : Nat) : Int) = z := fun z hz => by rw [val_nb _ _ (by omega)]; omega
    have v4 : ∀ z : Int, 0 ≤ z ∧ z ≤ 268435455 → ((val (nb 4 z.toNat) : Nat) : Int) = z := fun z hz => by rw [val_nb _ _ (by omega)]; omega
    have v1 : ∀ z : Int, 0 ≤ z ∧ z ≤ 255 → ((val [UInt8.ofNat z.toNat] : Nat) : Int) = z := fun z hz => by simp [val]; omega
    refine InoV.ext_iff'.2 ⟨?_, ?_, ?_, ?_, ?_, ?_, ?_, ?_, ?_, ?_⟩
    · show ((getR L (0 : Nat) (1 : Nat) : Nat) : Int) = _
      rw [g 0 1 rfl (by omega)]; exact v1 x.k (by omega)
    · show ((getR L (1 : Nat) (1 : Nat) : Nat) : Int) = _
      rw [g 1 1 rfl (by omega)]; exact v1 x.i (by omega)
    · show ((getR L (2 : Nat) (2 : Nat) : Nat) : Int) = _
      rw [g 2 2 rfl (by omega)]; exact v2 x.n (by omega)
    · show ((getR L (4 : Nat) (4 : Nat) : Nat) : Int) = _
      rw [g 4 4 rfl (by omega)]; exact v4 x.g (by omega)
    · show ((getR L (8 : Nat) (2 : Nat) : Nat) : Int) = _
      rw [g 8 2 rfl (by omega)]; exact v2 x.s (by omega)
    · show ((getR L (10 : Nat) (2 : Nat) : Nat) : Int) = _
      rw [g 10 2 rfl (by omega)]; exact v2 x.p (by omega)
    · show ((getR L (12 : Nat) (2 : Nat) : Nat) : Int) = _
      rw [g 12 2 rfl (by omega)]; exact v2 x.q (by omega)
    · show ((getR L (14 : Nat) (2 : Nat) : Nat) : Int) = _
      rw [g 14 2 rfl (by omega)]; exact v2 x.r (by omega)
    · show ((getR L (16 : Nat) (2 : Nat) : Nat) : Int) = _
      rw [g 16 2 rfl (by omega)]; exact v2 x.t (by omega)
    · show ((getR L (18 : Nat) (2 : Nat) : Nat) : Int) = _
      rw [g 18 2 rfl (by omega)]; exact v2 x.a (by omega)
theorem got_put {x : InoV} (h : rightI x = true) : gotB (putI x) = true ∧ gotI (putI x) = x := by
  have e : gotB (putI x) = true := by unfold gotB; rw [told_put h, h, Bool.true_and, beq_iff_eq]
  exact ⟨e, by unfold gotI; rw [if_pos e, told_put h]⟩
def x0 : InoV := ⟨2, 0, 2, 9, 65, 3, 4, 0, 0, 7⟩
theorem x0_right : rightI x0 = true := by decide +kernel
def fr0 : InoV := ⟨1, 0, 2, 0, 0, 0, 0, 0, 0, 0⟩
theorem fr0_right : rightI fr0 = true := by decide +kernel
theorem eq_self (x : InoV) (w : World) : (binOp .eql 24 (.agg #[.int .i64 x.k, .int .i64 x.i, .int .i64 x.n, .int .i64 x.g, .int .i64 x.s, .int .i64 x.p, .int .i64 x.q, .int .i64 x.r, .int .i64 x.t, .int .i64 x.a]) (.agg #[.int .i64 x.k, .int .i64 x.i, .int .i64 x.n, .int .i64 x.g, .int .i64 x.s, .int .i64 x.p, .int .i64 x.q, .int .i64 x.r, .int .i64 x.t, .int .i64 x.a])).run Tryd.prog w = .ok (.bool true) w := eq_ino (by simp) w

theorem field_n (k i n g s p q r t a : Int) (w : World) : (Instr.field 24 (.agg #[.int .i64 k, .int .i64 i, .int .i64 n, .int .i64 g, .int .i64 s, .int .i64 p, .int .i64 q, .int .i64 r, .int .i64 t, .int .i64 a]) 2).run Tryd.prog w = .ok (.int .i64 n) w := by
  simp [Instr.field, run_underlying Tryd.underlying24, asAgg, go_sem]
set_option maxRecDepth 100000 in
set_option maxHeartbeats 1600000 in
theorem awake7_any (w : World) (hs : SzW w) : Calls Tryd.prog 13 #[] w (LawOk w) := by
  obtain ⟨hr1, hb, hsz⟩ := rows1 w [.int .i64 2, .int .i64 0, .int .i64 2, .int .i64 9, .int .i64 65, .int .i64 3, .int .i64 4, .int .i64 0, .int .i64 0, .int .i64 7] 24
  have HR1 := hide hr1
  have HB1 := hide hb
  have HS1 := hide (hs.below hb)
  obtain ⟨hg1, hg2⟩ := got_put x0_right
  have e1 : errI x0 = 0 := by unfold errI; rw [x0_right]; rfl
  have l1 : (putI x0).length = 64 := putI_len _ x0_right
  have HG1 := hide hg1
  have HG2 := hide hg2
  have HE1 := hide e1
  have HL1 := hide l1
  obtain ⟨Z, hZ, hzl⟩ := make64
  have HZL := hide hzl
  have hq1 := eq_self x0
  have hq0 := eq_self ino0
  simp only [x0, ino0] at hq1 hq0
  have hfd := field_n 1 0 2 0 0 0 0 0 0 0
  clear hr1 hb hsz hs hg1 hg2 e1 l1 hzl
  go_enter Tryd.func13, Tryd.ntmps13
  go_wp2_with fail
  refine (IPut_any x0 _ HS1.out).mono ?_
  rintro e w2 ⟨A2, n2, c2, rfl, hown, hbel⟩
  rw [HE1.out]
  obtain rfl : n2 = 64 := by rw [← hown.len, HL1.out]
  have HP2 := hide hown.bs
  have hc2 : 64 ≤ c2 := hown.cap
  have HB2 := hide (below_step HB1.out hbel)
  have HR2 := hide (HR1.out.on hbel)
  have HS2 := hide (HS1.out.below hbel)
  clear hown hbel HB1 HR1 HS1
  go_wp2_with fail
  refine (IGet_any _ HP2.out hc2 (by omega) HS2.out).mono ?_
  rintro e w3 ⟨rfl, hbel⟩
  rw [HG1.out, HG2.out]
  simp only [x0]
  obtain ⟨hr4, hb4, hs4⟩ := rows1 w3 [.int .i64 2, .int .i64 0, .int .i64 2, .int .i64 9, .int .i64 65, .int .i64 3, .int .i64 4, .int .i64 0, .int .i64 0, .int .i64 7] 24
  have HB4 := hide (below_step (below_step HB2.out hbel) hb4)
  have HR4 := hide ((HR2.out.on hbel).on hb4)
  have HY4 := hide hr4
  have HS4 := hide ((HS2.out.below hbel).below hb4)
  have hal := below_new (below_self (w3.alloc (.cells [.int .i64 2, .int .i64 0, .int .i64 2, .int .i64 9, .int .i64 65, .int .i64 3, .int .i64 4, .int .i64 0, .int .i64 0, .int .i64 7].toArray 24))) (.cells Z 5)
  have HB5 := hide (below_step HB4.out hal)
  have HR5 := hide (HR4.out.on hal)
  have HY5 := hide (HY4.out.on hal)
  have HS5 := hide (HS4.out.below hal)
  have HZ5 : Hid (Bs ((w3.alloc (.cells [.int .i64 2, .int .i64 0, .int .i64 2, .int .i64 9, .int .i64 65, .int .i64 3, .int .i64 4, .int .i64 0, .int .i64 0, .int .i64 7].toArray 24)).alloc (.cells Z 5)) ((w3.alloc (.cells [.int .i64 2, .int .i64 0, .int .i64 2, .int .i64 9, .int .i64 65, .int .i64 3, .int .i64 4, .int .i64 0, .int .i64 0, .int .i64 7].toArray 24)).alloc (.cells Z 5)).heap.size (some ⟨w3.heap.size + 1, 0, none⟩) 64 (zeros 64)) := hide (by
    have := (Bs.lit (w3.alloc (.cells [.int .i64 2, .int .i64 0, .int .i64 2, .int .i64 9, .int .i64 65, .int .i64 3, .int .i64 4, .int .i64 0, .int .i64 0, .int .i64 7].toArray 24)) 5 (cs := Z.toList) HZL.out (zeros_length 64)).more (B' := ((w3.alloc (.cells [.int .i64 2, .int .i64 0, .int .i64 2, .int .i64 9, .int .i64 65, .int .i64 3, .int .i64 4, .int .i64 0, .int .i64 0, .int .i64 7].toArray 24)).alloc (.cells Z 5)).heap.size) (by simp)
    rw [show (w3.alloc (.cells [.int .i64 2, .int .i64 0, .int .i64 2, .int .i64 9, .int .i64 65, .int .i64 3, .int .i64 4, .int .i64 0, .int .i64 0, .int .i64 7].toArray 24)).heap.size = w3.heap.size + 1 from by simp] at this
    exact this)
  clear hbel hr4 hb4 hs4 HB2 HR2 HS2 HP2 hal HB4 HR4 HY4 HS4
  go_wp2_with fail
  generalize ((w3.alloc (.cells [.int .i64 2, .int .i64 0, .int .i64 2, .int .i64 9, .int .i64 65, .int .i64 3, .int .i64 4, .int .i64 0, .int .i64 0, .int .i64 7].toArray 24)).alloc (.cells Z 5)) = w5 at *
  generalize w3.heap.size = g4 at *
  refine (IGet_any _ HZ5.out (by omega) (by omega) HS5.out).mono ?_
  rintro e w6 ⟨rfl, hbel⟩
  have hgz : gotB (zeros 64) = true ∧ gotI (zeros 64) = ino0 := ⟨got_zeros.2, by unfold gotI; rw [got_zeros.2, got_zeros.1]; rfl⟩
  rw [hgz.1, hgz.2]
  simp only [ino0]
  obtain ⟨hr7, hb7, hs7⟩ := rows1 w6 [.int .i64 0, .int .i64 0, .int .i64 0, .int .i64 0, .int .i64 0, .int .i64 0, .int .i64 0, .int .i64 0, .int .i64 0, .int .i64 0] 24
  have HB7 := hide (below_step (below_step HB5.out hbel) hb7)
  have HR7 := hide ((HR5.out.on hbel).on hb7)
  have HY7 := hide ((HY5.out.on hbel).on hb7)
  have HZ7 := hide hr7
  clear hgz hbel hr7 hb7 hs7 HB5 HR5 HY5 HZ5 HS5 hZ
  have hg1 : w.heap.size < (w6.alloc (.cells [.int .i64 0, .int .i64 0, .int .i64 0, .int .i64 0, .int .i64 0, .int .i64 0, .int .i64 0, .int .i64 0, .int .i64 0, .int .i64 0].toArray 24)).heap.size := HR7.out.lt
  have hg4 : g4 < (w6.alloc (.cells [.int .i64 0, .int .i64 0, .int .i64 0, .int .i64 0, .int .i64 0, .int .i64 0, .int .i64 0, .int .i64 0, .int .i64 0, .int .i64 0].toArray 24)).heap.size := HY7.out.lt
  have p0 : (w6.alloc (.cells [.int .i64 0, .int .i64 0, .int .i64 0, .int .i64 0, .int .i64 0, .int .i64 0, .int .i64 0, .int .i64 0, .int .i64 0, .int .i64 0].toArray 24)).cell? ⟨w.heap.size, 0, none⟩ = some (.int .i64 2) := HR7.out.cell 0
  have p1 : (w6.alloc (.cells [.int .i64 0, .int .i64 0, .int .i64 0, .int .i64 0, .int .i64 0, .int .i64 0, .int .i64 0, .int .i64 0, .int .i64 0, .int .i64 0].toArray 24)).cell? ⟨w.heap.size, 1, none⟩ = some (.int .i64 0) := HR7.out.cell 1
  have p2 : (w6.alloc (.cells [.int .i64 0, .int .i64 0, .int .i64 0, .int .i64 0, .int .i64 0, .int .i64 0, .int .i64 0, .int .i64 0, .int .i64 0, .int .i64 0].toArray 24)).cell? ⟨w.heap.size, 2, none⟩ = some (.int .i64 2) := HR7.out.cell 2
  have p3 : (w6.alloc (.cells [.int .i64 0, .int .i64 0, .int .i64 0, .int .i64 0, .int .i64 0, .int .i64 0, .int .i64 0, .int .i64 0, .int .i64 0, .int .i64 0].toArray 24)).cell? ⟨w.heap.size, 3, none⟩ = some (.int .i64 9) := HR7.out.cell 3
  have p4 : (w6.alloc (.cells [.int .i64 0, .int .i64 0, .int .i64 0, .int .i64 0, .int .i64 0, .int .i64 0, .int .i64 0, .int .i64 0, .int .i64 0, .int .i64 0].toArray 24)).cell? ⟨w.heap.size, 4, none⟩ = some (.int .i64 65) := HR7.out.cell 4
  have p5 : (w6.alloc (.cells [.int .i64 0, .int .i64 0, .int .i64 0, .int .i64 0, .int .i64 0, .int .i64 0, .int .i64 0, .int .i64 0, .int .i64 0, .int .i64 0].toArray 24)).cell? ⟨w.heap.size, 5, none⟩ = some (.int .i64 3) := HR7.out.cell 5
  have p6 : (w6.alloc (.cells [.int .i64 0, .int .i64 0, .int .i64 0, .int .i64 0, .int .i64 0, .int .i64 0, .int .i64 0, .int .i64 0, .int .i64 0, .int .i64 0].toArray 24)).cell? ⟨w.heap.size, 6, none⟩ = some (.int .i64 4) := HR7.out.cell 6
  have p7 : (w6.alloc (.cells [.int .i64 0, .int .i64 0, .int .i64 0, .int .i64 0, .int .i64 0, .int .i64 0, .int .i64 0, .int .i64 0, .int .i64 0, .int .i64 0].toArray 24)).cell? ⟨w.heap.size, 7, none⟩ = some (.int .i64 0) := HR7.out.cell 7
  have p8 : (w6.alloc (.cells [.int .i64 0, .int .i64 0, .int .i64 0, .int .i64 0, .int .i64 0, .int .i64 0, .int .i64 0, .int .i64 0, .int .i64 0, .int .i64 0].toArray 24)).cell? ⟨w.heap.size, 8, none⟩ = some (.int .i64 0) := HR7.out.cell 8
  have p9 : (w6.alloc (.cells [.int .i64 0, .int .i64 0, .int .i64 0, .int .i64 0, .int .i64 0, .int .i64 0, .int .i64 0, .int .i64 0, .int .i64 0, .int .i64 0].toArray 24)).cell? ⟨w.heap.size, 9, none⟩ = some (.int .i64 7) := HR7.out.cell 9
  have y0 : (w6.alloc (.cells [.int .i64 0, .int .i64 0, .int .i64 0, .int .i64 0, .int .i64 0, .int .i64 0, .int .i64 0, .int .i64 0, .int .i64 0, .int .i64 0].toArray 24)).cell? ⟨g4, 0, none⟩ = some (.int .i64 2) := HY7.out.cell 0
  have y1 : (w6.alloc (.cells [.int .i64 0, .int .i64 0, .int .i64 0, .int .i64 0, .int .i64 0, .int .i64 0, .int .i64 0, .int .i64 0, .int .i64 0, .int .i64 0].toArray 24)).cell? ⟨g4, 1, none⟩ = some (.int .i64 0) := HY7.out.cell 1
  have y2 : (w6.alloc (.cells [.int .i64 0, .int .i64 0, .int .i64 0, .int .i64 0, .int .i64 0, .int .i64 0, .int .i64 0, .int .i64 0, .int .i64 0, .int .i64 0].toArray 24)).cell? ⟨g4, 2, none⟩ = some (.int .i64 2) := HY7.out.cell 2
  have y3 : (w6.alloc (.cells [.int .i64 0, .int .i64 0, .int .i64 0, .int .i64 0, .int .i64 0, .int .i64 0, .int .i64 0, .int .i64 0, .int .i64 0, .int .i64 0].toArray 24)).cell? ⟨g4, 3, none⟩ = some (.int .i64 9) := HY7.out.cell 3
  have y4 : (w6.alloc (.cells [.int .i64 0, .int .i64 0, .int .i64 0, .int .i64 0, .int .i64 0, .int .i64 0, .int .i64 0, .int .i64 0, .int .i64 0, .int .i64 0].toArray 24)).cell? ⟨g4, 4, none⟩ = some (.int .i64 65) := HY7.out.cell 4
  have y5 : (w6.alloc (.cells [.int .i64 0, .int .i64 0, .int .i64 0, .int .i64 0, .int .i64 0, .int .i64 0, .int .i64 0, .int .i64 0, .int .i64 0, .int .i64 0].toArray 24)).cell? ⟨g4, 5, none⟩ = some (.int .i64 3) := HY7.out.cell 5
  have y6 : (w6.alloc (.cells [.int .i64 0, .int .i64 0, .int .i64 0, .int .i64 0, .int .i64 0, .int .i64 0, .int .i64 0, .int .i64 0, .int .i64 0, .int .i64 0].toArray 24)).cell? ⟨g4, 6, none⟩ = some (.int .i64 4) := HY7.out.cell 6
  have y7 : (w6.alloc (.cells [.int .i64 0, .int .i64 0, .int .i64 0, .int .i64 0, .int .i64 0, .int .i64 0, .int .i64 0, .int .i64 0, .int .i64 0, .int .i64 0].toArray 24)).cell? ⟨g4, 7, none⟩ = some (.int .i64 0) := HY7.out.cell 7
  have y8 : (w6.alloc (.cells [.int .i64 0, .int .i64 0, .int .i64 0, .int .i64 0, .int .i64 0, .int .i64 0, .int .i64 0, .int .i64 0, .int .i64 0, .int .i64 0].toArray 24)).cell? ⟨g4, 8, none⟩ = some (.int .i64 0) := HY7.out.cell 8
  have y9 : (w6.alloc (.cells [.int .i64 0, .int .i64 0, .int .i64 0, .int .i64 0, .int .i64 0, .int .i64 0, .int .i64 0, .int .i64 0, .int .i64 0, .int .i64 0].toArray 24)).cell? ⟨g4, 9, none⟩ = some (.int .i64 7) := HY7.out.cell 9
  go_wp2_with fail
  refine (IFresh_any _).mono ?_
  rintro e w8 ⟨rfl, hbel⟩
  have HB8 := hide (below_step HB7.out hbel)
  clear hbel HB7 HR7 HY7 HZ7 hg1 hg4 p0 y0 p1 y1 p2 y2 p3 y3 p4 y4 p5 y5 p6 y6 p7 y7 p8 y8 p9 y9
  go_wp2_with fail
  refine (IRight_any fr0 _).mono ?_
  rintro e w9 ⟨rfl, hbel⟩
  rw [fr0_right]
  have HB9 := hide (below_step HB8.out hbel)
  clear hbel HB8
  go_wp2_with fail
  refine (IFresh_any _).mono ?_
  rintro e w10 ⟨rfl, hbel⟩
  have HB10 := hide (below_step HB9.out hbel)
  clear hbel HB9
  go_wp2_with fail
  go_ret
  exact LawOk.of HB10.out
end Go.Proofs.YtnjmddmiebofeaaDoor
