/- Contracts of sum.Sums, sum.Of, and the reference's Sums and Of: the two sums of any bytes, and their number. -/
import Derived.Test.YthjjjeolpdekoaaSumA
namespace Go.Proofs.Ythjjjeolpdekoaa.Plain
def stepS (s : Nat × Nat) (x : UInt8) : Nat × Nat := ((s.1 + x.toNat) % 65521, (s.2 + (s.1 + x.toNat) % 65521) % 65521)
/-- The two sums of bytes. -/
def sumsS (l : List UInt8) : Nat × Nat := l.foldl stepS (1, 0)
theorem sumsS_snoc (l : List UInt8) (x : UInt8) : sumsS (l ++ [x]) = stepS (sumsS l) x := by simp [sumsS, List.foldl_append]
theorem sumsS_lt (l : List UInt8) : (sumsS l).1 < 65521 ∧ (sumsS l).2 < 65521 := by
  suffices h : ∀ (l : List UInt8) (s : Nat × Nat), s.1 < 65521 ∧ s.2 < 65521 → (l.foldl stepS s).1 < 65521 ∧ (l.foldl stepS s).2 < 65521 from h l _ ⟨by decide, by decide⟩
  intro l
  induction l with
  | nil => intro s h; exact h
  | cons x r ih =>
    intro s h
    exact ih _ ⟨Nat.mod_lt _ (by omega), Nat.mod_lt _ (by omega)⟩
/-- The number that they are. -/
def ofS (l : List UInt8) : Nat := (sumsS l).1 + 65536 * (sumsS l).2
theorem ofS_lt (l : List UInt8) : ofS l < 4294967296 := by
  have := sumsS_lt l
  unfold ofS
  omega
end Go.Proofs.Ythjjjeolpdekoaa.Plain
namespace Go.Proofs.Ythjjjeolpdekoaa
open Go.RowKit Plain

set_option maxHeartbeats 800000 in
theorem Sums_any {A : Option Addr} {m c B : Nat} {l : List UInt8} (w : World) (ha : Bs w B A m l) (hm : m ≤ 140737488355328) :
    Calls Try.prog 87 #[.slice A m c] w fun e w' => e = .returned (.complex .f64 (F (sumsS l).1) (F (sumsS l).2)) ∧ w = w' := by
  obtain ⟨hl, hcell⟩ := ha
  have HC := hide hcell
  have HL := hide hl
  clear hcell hl
  have hone := F_one
  have hzero := F_zero
  have HONE := hide hone
  have HZERO := hide hzero
  clear hone hzero
  go_enter Try.func87, Try.ntmps87
  go_wp2_with fail
  go_loop [3, 8] (fun z i => ∃ k a b : Nat, k ≤ m ∧ (a, b) = sumsS (l.take k) ∧ i = .int .i64 k ∧ z = .complex .f64 (F a) (F b)) (fun _ i => m - (intOf i).toNat)
  case atStart => exact ⟨0, 1, 0, Nat.zero_le _, rfl, rfl, by rw [HONE.out, HZERO.out]⟩
  case round =>
    obtain ⟨k, a, b, hk, hab, rfl, rfl⟩ := hrel
    have hlt2 := sumsS_lt (l.take k)
    rw [← hab] at hlt2
    obtain ⟨ha1, hb1⟩ := hlt2
    simp only at ha1 hb1
    have HAB := hide hab
    clear hab
    by_cases hlt : k < m
    · obtain ⟨bb, o, rfl, _, hcell⟩ := HC.out (by omega)
      have hkl : k < l.length := by rw [HL.out]; exact hlt
      have hx := hcell k l[k] (List.getElem?_eq_getElem hkl)
      have hxb := l[k].toNat_lt
      have hs : sumsS (l.take (k + 1)) = stepS (a, b) l[k] := by rw [List.take_succ_eq_append_getElem hkl, sumsS_snoc, HAB.out]
      obtain ⟨x, hxe⟩ : ∃ x : Nat, x = l[k].toNat := ⟨_, rfl⟩
      rw [show stepS (a, b) l[k] = ((a + x) % 65521, (b + (a + x) % 65521) % 65521) from by rw [hxe]; rfl] at hs
      simp only [bv, ← hxe] at hx
      rw [← hxe] at hxb
      obtain ⟨a2, ha2⟩ : ∃ a2, (a + x) % 65521 = a2 := ⟨_, rfl⟩
      rw [ha2] at hs
      obtain ⟨b2, hb2⟩ : ∃ b2, (b + a2) % 65521 = b2 := ⟨_, rfl⟩
      rw [hb2] at hs
      have ha3 : a2 < 65521 := by omega
      have hb3 : b2 < 65521 := by omega
      have hbm : b % 65521 = b := Nat.mod_eq_of_lt hb1
      have ham : a2 % 65521 = a2 := Nat.mod_eq_of_lt ha3
      have HS := hide hs
      have HA2 := hide ha2
      have HB2 := hide hb2
      have HBM := hide hbm
      have HAM := hide ham
      clear hs ha2 hb2 hbm ham hxe hcell
      have hfo := f_ofInt x
      have r1 := run_add_re (P := Try.prog) (a := a) (b := b) (c := x) 105 (by omega) (by omega)
      have r2 := run_add_im (P := Try.prog) (a := a2) (b := b) (c := a2) 105 (by omega) (by omega)
      go_wp2_with fail
      refine (reduce_any _ (by omega) (by omega) HA2.out HBM.out).mono ?_
      rintro e w' ⟨rfl, rfl⟩
      go_wp2_with fail
      refine (reduce_any _ (by omega) (by omega) HAM.out HB2.out).mono ?_
      rintro e w' ⟨rfl, rfl⟩
      go_wp2_with fail
      go_round
      case rel => exact ⟨k + 1, a2, b2, by omega, HS.out.symm, by go_num, rfl⟩
      case measure => simp [intOf]; omega
    · obtain rfl : k = m := by omega
      have he : l.take k = l := List.take_of_length_le (by rw [HL.out]; exact Nat.le_refl _)
      have hab := HAB.out
      rw [he] at hab
      have h1 : (sumsS l).1 = a := by rw [← hab]
      have h2 : (sumsS l).2 = b := by rw [← hab]
      have H1 := hide h1
      have H2 := hide h2
      clear h1 h2 hab he HAB
      go_wp2
      go_ret
      exact ⟨by rw [H1.out, H2.out]; rfl, rfl⟩

set_option maxHeartbeats 800000 in
theorem RSums_any {A : Option Addr} {m c B : Nat} {l : List UInt8} (w : World) (ha : Bs w B A m l) (hm : m ≤ 140737488355328) :
    Calls Try.prog 93 #[.slice A m c] w fun e w' => e = .returned (.tuple #[.int .i64 (sumsS l).1, .int .i64 (sumsS l).2]) ∧ w = w' := by
  obtain ⟨hl, hcell⟩ := ha
  have HC := hide hcell
  have HL := hide hl
  clear hcell hl
  go_enter Try.func93, Try.ntmps93
  go_wp2_with fail
  go_loop [4, 5, 6] (fun x y i => ∃ k a b : Nat, k ≤ m ∧ (a, b) = sumsS (l.take k) ∧ i = .int .i64 k ∧ x = .int .i64 a ∧ y = .int .i64 b) (fun _ _ i => m - (intOf i).toNat)
  case atStart => exact ⟨0, 1, 0, Nat.zero_le _, rfl, rfl, rfl, rfl⟩
  case round =>
    obtain ⟨k, a, b, hk, hab, rfl, rfl, rfl⟩ := hrel
    have hlt2 := sumsS_lt (l.take k)
    rw [← hab] at hlt2
    obtain ⟨ha1, hb1⟩ := hlt2
    simp only at ha1 hb1
    have HAB := hide hab
    clear hab
    by_cases hlt : k < m
    · obtain ⟨bb, o, rfl, _, hcell⟩ := HC.out (by omega)
      have hkl : k < l.length := by rw [HL.out]; exact hlt
      have hx := hcell k l[k] (List.getElem?_eq_getElem hkl)
      have hxb := l[k].toNat_lt
      have hs : sumsS (l.take (k + 1)) = stepS (a, b) l[k] := by rw [List.take_succ_eq_append_getElem hkl, sumsS_snoc, HAB.out]
      obtain ⟨x, hxe⟩ : ∃ x : Nat, x = l[k].toNat := ⟨_, rfl⟩
      rw [show stepS (a, b) l[k] = ((a + x) % 65521, (b + (a + x) % 65521) % 65521) from by rw [hxe]; rfl] at hs
      simp only [bv, ← hxe] at hx
      rw [← hxe] at hxb
      have HS := hide hs
      clear hs hxe hcell
      go_wp2_with fail
      go_round
      case rel => exact ⟨k + 1, (a + x) % 65521, (b + (a + x) % 65521) % 65521, by omega, HS.out.symm, by go_num, by go_num, by go_num⟩
      case measure => simp [intOf]; omega
    · obtain rfl : k = m := by omega
      have he : l.take k = l := List.take_of_length_le (by rw [HL.out]; exact Nat.le_refl _)
      have hab := HAB.out
      rw [he] at hab
      have h1 : (sumsS l).1 = a := by rw [← hab]
      have h2 : (sumsS l).2 = b := by rw [← hab]
      have H1 := hide h1
      have H2 := hide h2
      clear h1 h2 hab he HAB
      go_wp2
      go_ret2
      exact ⟨by rw [H1.out, H2.out]; rfl, rfl⟩

set_option maxHeartbeats 400000 in
theorem Of_any {A : Option Addr} {m c B : Nat} {l : List UInt8} (w : World) (ha : Bs w B A m l) (hm : m ≤ 140737488355328) :
    Calls Try.prog 79 #[.slice A m c] w fun e w' => e = .returned (.int .i64 (ofS l)) ∧ w = w' := by
  obtain ⟨h1, h2⟩ := sumsS_lt l
  obtain ⟨a, hae⟩ : ∃ a, (sumsS l).1 = a := ⟨_, rfl⟩
  obtain ⟨b, hbe⟩ : ∃ b, (sumsS l).2 = b := ⟨_, rfl⟩
  have ho : ofS l = a + 65536 * b := by unfold ofS; rw [hae, hbe]
  rw [ho]
  rw [hae] at h1
  rw [hbe] at h2
  have HA := hide ha
  have HAE := hide hae
  have HBE := hide hbe
  clear ha hae hbe ho
  have ca : floatToIntVal .f64 (F a) .i64 = some (a : Int) := by
    have := F_int (n := a) (by omega)
    have e : (FloatKind.f64.decode (F a)).toInt .zero = some (a : Int) := this
    unfold floatToIntVal
    rw [e]
    simp [IntKind.min, IntKind.max, IntKind.signed, IntKind.bits]
    omega
  have cb : floatToIntVal .f64 (F b) .i64 = some (b : Int) := by
    have := F_int (n := b) (by omega)
    have e : (FloatKind.f64.decode (F b)).toInt .zero = some (b : Int) := this
    unfold floatToIntVal
    rw [e]
    simp [IntKind.min, IntKind.max, IntKind.signed, IntKind.bits]
    omega
  have r1 := fun W => run_convert_float_int (P := Try.prog) W 107 3 .f64 .i64 (F a) a (by rw [Try.underlying107]; rfl) Try.underlying3 ca
  have r2 := fun W => run_convert_float_int (P := Try.prog) W 107 3 .f64 .i64 (F b) b (by rw [Try.underlying107]; rfl) Try.underlying3 cb
  clear ca cb
  go_enter Try.func79, Try.ntmps79
  go_wp2_with fail
  refine (Sums_any _ HA.out hm).mono ?_
  rw [HAE.out, HBE.out]
  rintro e w' ⟨rfl, rfl⟩
  go_wp2_with fail
  go_ret
  exact ⟨by go_num, rfl⟩

set_option maxHeartbeats 400000 in
theorem ROf_any {A : Option Addr} {m c B : Nat} {l : List UInt8} (w : World) (ha : Bs w B A m l) (hm : m ≤ 140737488355328) :
    Calls Try.prog 89 #[.slice A m c] w fun e w' => e = .returned (.int .i64 (ofS l)) ∧ w = w' := by
  obtain ⟨h1, h2⟩ := sumsS_lt l
  obtain ⟨a, hae⟩ : ∃ a, (sumsS l).1 = a := ⟨_, rfl⟩
  obtain ⟨b, hbe⟩ : ∃ b, (sumsS l).2 = b := ⟨_, rfl⟩
  have ho : ofS l = a + 65536 * b := by unfold ofS; rw [hae, hbe]
  rw [ho]
  rw [hae] at h1
  rw [hbe] at h2
  have HA := hide ha
  have HAE := hide hae
  have HBE := hide hbe
  clear ha hae hbe ho
  go_enter Try.func89, Try.ntmps89
  go_wp2_with fail
  refine (RSums_any _ HA.out hm).mono ?_
  rw [HAE.out, HBE.out]
  rintro e w' ⟨rfl, rfl⟩
  go_wp2_with fail
  go_ret
  exact ⟨by go_num, rfl⟩
end Go.Proofs.Ythjjjeolpdekoaa
