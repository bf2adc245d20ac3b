/- The walk of the law NumBack: it is true for any bytes, number, place and size. -/
import Derived.Test.YtnhlneihbdohlaaNumK
import Derived.StillTailTactics
import Derived.IntWalk
namespace Go.Proofs.Ytnhlneihbdohlaa
open Go.RowKit Plain

theorem Equal_still {A B : Option Addr} {n m c d : Nat} {l k : List UInt8} {W1 W2 : Nat} (w : World) (ha : Bs w W1 A n l) (hb : Bs w W2 B m k) (h : l = k) :
    Calls Try.prog 12 #[.slice A n c, .slice B m d] w fun e w' => e = .returned (.bool true) ∧ w' = w := (Equal_yes w ha hb h).mono fun _ _ h => ⟨h.1, h.2.symm⟩
theorem toNat_lt_pow {K : Int} {k : Nat} (h0 : 0 ≤ K) (h1 : K < 256 ^ k) : K.toNat < 256 ^ k := by
  have h2 : ((K.toNat : Nat) : Int) < ((256 ^ k : Nat) : Int) := by rw [Int.toNat_of_nonneg h0]; simpa using h1
  exact Int.ofNat_lt.1 h2
theorem back_get1 {l : List UInt8} {K s : Int} {m : Nat} (hl : l.length = m) (h : fits K s = true) : (getS (l ++ nb s.toNat K.toNat) m s : Int) = K := by
  obtain ⟨hz, h0, h1⟩ := fits_parts h
  unfold getS
  rw [Int.toNat_natCast, List.drop_left' hl, List.take_of_length_le (by rw [nb_length]; exact Nat.le_refl _), val_nb _ _ (toNat_lt_pow h0 h1)]
  omega
theorem splice_win {α : Type} (L : List α) (off : Nat) (X : List α) (h : off + X.length ≤ L.length) : ((splice L off X).drop off).take X.length = X := by
  apply List.ext_getElem?
  intro i
  rw [List.getElem?_take]
  split
  · rename_i hi
    rw [List.getElem?_drop, splice_get _ _ _ _ h]
    have e1 : ¬ off + i < off := by omega
    have e2 : off + i < off + X.length := by omega
    rw [if_neg e1, if_pos e2]
    congr 1
    omega
  · rename_i hi
    rw [List.getElem?_eq_none (by omega)]
theorem back_get2 {l : List UInt8} {K s : Int} {I : Nat} (h : fits K s = true) (hh : I + s.toNat ≤ l.length) : (getS (splice l I (nb s.toNat K.toNat)) I s : Int) = K := by
  obtain ⟨hz, h0, h1⟩ := fits_parts h
  unfold getS
  have := splice_win l I (nb s.toNat K.toNat) (by rw [nb_length]; exact hh)
  rw [nb_length] at this
  rw [Int.toNat_natCast, this, val_nb _ _ (toNat_lt_pow h0 h1)]
  omega

theorem Put_1 {A : Option Addr} {m c : Nat} {l : List UInt8} {n : Int} (w : World) (ha : Bs w w.heap.size A m l) (hm : m ≤ 140737488355000) (h : fits n 1 = true) :
    Calls Try.prog 13 #[.slice A m c, .int .i64 n, .int .i64 1] w (BRet w 5 (m + 1) (l ++ nb 1 n.toNat)) := Put_yes (s := 1) w ha hm h
theorem Set_1 {A : Option Addr} {m c I : Nat} {l : List UInt8} {n : Int} (w : World) (ha : Bs w w.heap.size A m l) (hm : m ≤ 140737488355000) (h : fits n 1 = true) (h2 : I + 1 ≤ m) :
    Calls Try.prog 17 #[.slice A m c, .int .i64 I, .int .i64 n, .int .i64 1] w (BRet w 5 m (splice l I (nb 1 n.toNat))) :=
  Set_yes (s := 1) w ha hm h (by simp [hold, isz]; omega)
theorem Get1_1 {A : Option Addr} {m c B : Nat} {l : List UInt8} {n : Int} (w : World) (hl : l.length = m) (ha : Bs w B A (m + 1) (l ++ nb 1 n.toNat)) (hm : m ≤ 140737488354000) (hmc : m + 1 ≤ c) (h : fits n 1 = true) :
    Calls Try.prog 15 #[.slice A (m + 1) c, .int .i64 m, .int .i64 1] w fun e w' => e = .returned (.tuple #[.int .i64 n, .bool true]) ∧ w = w' := by
  have := Get_yes (c := c) (p := m) (s := 1) w ha (by omega) hmc (by simp [hold, isz])
  rw [show (getS (l ++ nb 1 n.toNat) m 1 : Int) = n from back_get1 hl h] at this
  exact this
theorem Get2_1 {A : Option Addr} {m c B I : Nat} {l : List UInt8} {n : Int} (w : World) (hl : l.length = m) (ha : Bs w B A m (splice l I (nb 1 n.toNat))) (hm : m ≤ 140737488354000) (hmc : m ≤ c) (h : fits n 1 = true) (h2 : I + 1 ≤ m) :
    Calls Try.prog 15 #[.slice A m c, .int .i64 I, .int .i64 1] w fun e w' => e = .returned (.tuple #[.int .i64 n, .bool true]) ∧ w = w' := by
  have := Get_yes (c := c) (p := I) (s := 1) w ha (by omega) hmc (by simp [hold, isz]; omega)
  rw [show (getS (splice l I (nb 1 n.toNat)) I 1 : Int) = n from back_get2 h (by rw [hl]; exact h2)] at this
  exact this

set_option maxHeartbeats 400000 in
theorem law_NumBack_1 {m c b o : Nat} {l : List UInt8} {n p r : Int} (w : World) (ha : Bs w w.heap.size (some ⟨b, o, none⟩) m l) (hmc : m ≤ c) (hm : ¬ 2000 < m) (hm4 : ¬ m < 4)
    (hn0 : 0 ≤ n) (hn1 : n < 4294967296) (hp0 : 0 ≤ p) (hp1 : p < 65536) (hr0 : 0 ≤ r) (hr1 : r < 256) (hr : r % 3 = 0) :
    Calls Try.prog 5 #[.slice (some ⟨b, o, none⟩) m c, .int .u32 n, .int .u16 p, .int .u8 r] w (LawOk w) := by
  have hd : decide ((2000 : Int) < (m : Int)) = false := by simp; omega
  have hd2 : decide ((m : Int) < 4) = false := by simp; omega
  have hm' : m ≤ 2000 := by omega
  have hm4' : 4 ≤ m := by omega
  have HA := hide ha
  obtain ⟨K, hK⟩ : ∃ K : Int, n % 256 = K := ⟨_, rfl⟩
  obtain ⟨I, hI⟩ : ∃ I : Nat, p % (m : Int) = (I : Int) := ⟨(p % (m : Int)).toNat, by have := Int.emod_nonneg p (show (m : Int) ≠ 0 by omega); omega⟩
  have hI2 : I + 1 ≤ m := by have := Int.emod_lt_of_pos p (show 0 < (m : Int) by omega); omega
  have hf : fits K 1 = true := by simp [fits, isz]; omega
  have HF := hide hf
  clear ha hm hm4 hf
  go_enter Try.func5, Try.ntmps5
  go_wp2_with fail
  simp only [hK, hI]
  clear hK hI
  refine (Put_1 _ ((HA.out.alloc (Nat.le_refl _) _).more (by simp)) (by omega) HF.out).mono ?_
  rintro e w1 ⟨A1, c1, rfl, hown, hbel⟩
  have HO := hide hown
  have HB := hide (below_step (below_new (below_self w) _) hbel)
  clear hown hbel
  go_wp2_with fail
  refine (Get1_1 _ HA.out.len HO.out.bs (by omega) HO.out.cap HF.out).mono ?_
  rintro e w' ⟨rfl, rfl⟩
  go_wp2_with fail
  refine (Set_1 _ ((HA.out.below HB.out).more HB.out.size) (by omega) HF.out hI2).mono ?_
  rintro e w2 ⟨A2, c2, rfl, hown, hbel⟩
  have HO2 := hide hown
  have HB2 := hide (below_step HB.out hbel)
  clear hown hbel
  go_wp2_with fail
  refine (Get2_1 _ HA.out.len HO2.out.bs (by omega) HO2.out.cap HF.out hI2).mono ?_
  rintro e w' ⟨rfl, rfl⟩
  obtain ⟨g, cs, rfl, hg, hrow, hcl, hnc, hcm, htake⟩ := HO2.out.row (by omega)
  clear hrow hcl htake
  have hKK : (K == K) = true := by simp
  have hmm : ((m : Int) == (m : Int)) = true := by simp
  go_wp2_with fail
  have hIc2 : I ≤ c2 := by omega
  have hIc : I ≤ c := by omega
  have hlen : (nb 1 K.toNat).length = 1 := nb_length _ _
  have hle := HA.out.len
  have hIs2 : I + 1 ≤ c2 := by omega
  have hIs : I + 1 ≤ c := by omega
  have e1 := Equal_still w2.drew (c := c2) (d := c) (HO2.out.bs.pre (show I ≤ m by omega)) (((HA.out.below HB2.out).more HB2.out.size).pre (show I ≤ m by omega)) (take_splice_pre l I _ (by rw [hlen, hle]; exact hI2))
  have e2 := Equal_still w2.drew (c := c2 - (I + 1)) (d := c - (I + 1)) (HO2.out.bs.suf hI2 hnc (Nat.zero_add _)) (((HA.out.below HB2.out).more HB2.out.size).suf hI2 hmc rfl) (drop_splice_suf l I 1 _ hlen (by rw [hlen, hle]; exact hI2))
  have E1 := hide e1
  have E2 := hide e2
  clear e1 e2 hlen hle
  have hw1 : IntKind.i64.wrap ((I : Int) + 1) = (I : Int) + 1 := IntWalk.i64_in _ (by omega)
  have hw2 : ((I : Int) + 1).toNat = I + 1 := by omega
  have hw3 : (0 : Int) ≤ (I : Int) + 1 := by omega
  have hw4 : (I : Int) + 1 ≤ (m : Int) := by omega
  go_still_tail 44, (by kernel_rfl)
  still_call E1.out
  repeat still_step
  still_call E2.out
  repeat still_step
  refine wpStill_nil ?_
  change wpList _ _ _ _ _ w2.drew
  clear hw1 hw2 hw3 hw4
  go_wp2_with fail
  all_goals
    refine (awake1_any _).mono ?_
    rintro e w3 ⟨rfl, hbel⟩
    have HB3 := hide hbel
    clear hbel
    go_wp2_with fail
    go_ret
    exact LawOk.of (below_step HB2.out.drew HB3.out)

theorem Put_2 {A : Option Addr} {m c : Nat} {l : List UInt8} {n : Int} (w : World) (ha : Bs w w.heap.size A m l) (hm : m ≤ 140737488355000) (h : fits n 2 = true) :
    Calls Try.prog 13 #[.slice A m c, .int .i64 n, .int .i64 2] w (BRet w 5 (m + 2) (l ++ nb 2 n.toNat)) := Put_yes (s := 2) w ha hm h
theorem Set_2 {A : Option Addr} {m c I : Nat} {l : List UInt8} {n : Int} (w : World) (ha : Bs w w.heap.size A m l) (hm : m ≤ 140737488355000) (h : fits n 2 = true) (h2 : I + 2 ≤ m) :
    Calls Try.prog 17 #[.slice A m c, .int .i64 I, .int .i64 n, .int .i64 2] w (BRet w 5 m (splice l I (nb 2 n.toNat))) :=
  Set_yes (s := 2) w ha hm h (by simp [hold, isz]; omega)
theorem Get1_2 {A : Option Addr} {m c B : Nat} {l : List UInt8} {n : Int} (w : World) (hl : l.length = m) (ha : Bs w B A (m + 2) (l ++ nb 2 n.toNat)) (hm : m ≤ 140737488354000) (hmc : m + 2 ≤ c) (h : fits n 2 = true) :
    Calls Try.prog 15 #[.slice A (m + 2) c, .int .i64 m, .int .i64 2] w fun e w' => e = .returned (.tuple #[.int .i64 n, .bool true]) ∧ w = w' := by
  have := Get_yes (c := c) (p := m) (s := 2) w ha (by omega) hmc (by simp [hold, isz])
  rw [show (getS (l ++ nb 2 n.toNat) m 2 : Int) = n from back_get1 hl h] at this
  exact this
theorem Get2_2 {A : Option Addr} {m c B I : Nat} {l : List UInt8} {n : Int} (w : World) (hl : l.length = m) (ha : Bs w B A m (splice l I (nb 2 n.toNat))) (hm : m ≤ 140737488354000) (hmc : m ≤ c) (h : fits n 2 = true) (h2 : I + 2 ≤ m) :
    Calls Try.prog 15 #[.slice A m c, .int .i64 I, .int .i64 2] w fun e w' => e = .returned (.tuple #[.int .i64 n, .bool true]) ∧ w = w' := by
  have := Get_yes (c := c) (p := I) (s := 2) w ha (by omega) hmc (by simp [hold, isz]; omega)
  rw [show (getS (splice l I (nb 2 n.toNat)) I 2 : Int) = n from back_get2 h (by rw [hl]; exact h2)] at this
  exact this

set_option maxHeartbeats 400000 in
theorem law_NumBack_2 {m c b o : Nat} {l : List UInt8} {n p r : Int} (w : World) (ha : Bs w w.heap.size (some ⟨b, o, none⟩) m l) (hmc : m ≤ c) (hm : ¬ 2000 < m) (hm4 : ¬ m < 4)
    (hn0 : 0 ≤ n) (hn1 : n < 4294967296) (hp0 : 0 ≤ p) (hp1 : p < 65536) (hr0 : 0 ≤ r) (hr1 : r < 256) (hr : r % 3 = 1) :
    Calls Try.prog 5 #[.slice (some ⟨b, o, none⟩) m c, .int .u32 n, .int .u16 p, .int .u8 r] w (LawOk w) := by
  have hd : decide ((2000 : Int) < (m : Int)) = false := by simp; omega
  have hd2 : decide ((m : Int) < 4) = false := by simp; omega
  have hm' : m ≤ 2000 := by omega
  have hm4' : 4 ≤ m := by omega
  have HA := hide ha
  obtain ⟨K, hK⟩ : ∃ K : Int, n % 65536 = K := ⟨_, rfl⟩
  obtain ⟨I, hI⟩ : ∃ I : Nat, p % ((m : Int) - 2 + 1) = (I : Int) := ⟨(p % ((m : Int) - 2 + 1)).toNat, by have := Int.emod_nonneg p (show ((m : Int) - 2 + 1) ≠ 0 by omega); omega⟩
  have hI2 : I + 2 ≤ m := by have := Int.emod_lt_of_pos p (show 0 < ((m : Int) - 2 + 1) by omega); omega
  have hf : fits K 2 = true := by simp [fits, isz]; omega
  have HF := hide hf
  clear ha hm hm4 hf
  go_enter Try.func5, Try.ntmps5
  go_wp2_with fail
  simp only [hK, hI]
  clear hK hI
  refine (Put_2 _ ((HA.out.alloc (Nat.le_refl _) _).more (by simp)) (by omega) HF.out).mono ?_
  rintro e w1 ⟨A1, c1, rfl, hown, hbel⟩
  have HO := hide hown
  have HB := hide (below_step (below_new (below_self w) _) hbel)
  clear hown hbel
  go_wp2_with fail
  refine (Get1_2 _ HA.out.len HO.out.bs (by omega) HO.out.cap HF.out).mono ?_
  rintro e w' ⟨rfl, rfl⟩
  go_wp2_with fail
  refine (Set_2 _ ((HA.out.below HB.out).more HB.out.size) (by omega) HF.out hI2).mono ?_
  rintro e w2 ⟨A2, c2, rfl, hown, hbel⟩
  have HO2 := hide hown
  have HB2 := hide (below_step HB.out hbel)
  clear hown hbel
  go_wp2_with fail
  refine (Get2_2 _ HA.out.len HO2.out.bs (by omega) HO2.out.cap HF.out hI2).mono ?_
  rintro e w' ⟨rfl, rfl⟩
  obtain ⟨g, cs, rfl, hg, hrow, hcl, hnc, hcm, htake⟩ := HO2.out.row (by omega)
  clear hrow hcl htake
  have hKK : (K == K) = true := by simp
  have hmm : ((m : Int) == (m : Int)) = true := by simp
  go_wp2_with fail
  have hIc2 : I ≤ c2 := by omega
  have hIc : I ≤ c := by omega
  have hlen : (nb 2 K.toNat).length = 2 := nb_length _ _
  have hle := HA.out.len
  have hIs2 : I + 2 ≤ c2 := by omega
  have hIs : I + 2 ≤ c := by omega
  have e1 := Equal_still w2.drew (c := c2) (d := c) (HO2.out.bs.pre (show I ≤ m by omega)) (((HA.out.below HB2.out).more HB2.out.size).pre (show I ≤ m by omega)) (take_splice_pre l I _ (by rw [hlen, hle]; exact hI2))
  have e2 := Equal_still w2.drew (c := c2 - (I + 2)) (d := c - (I + 2)) (HO2.out.bs.suf hI2 hnc (Nat.zero_add _)) (((HA.out.below HB2.out).more HB2.out.size).suf hI2 hmc rfl) (drop_splice_suf l I 2 _ hlen (by rw [hlen, hle]; exact hI2))
  have E1 := hide e1
  have E2 := hide e2
  clear e1 e2 hlen hle
  have hw1 : IntKind.i64.wrap ((I : Int) + 2) = (I : Int) + 2 := IntWalk.i64_in _ (by omega)
  have hw2 : ((I : Int) + 2).toNat = I + 2 := by omega
  have hw3 : (0 : Int) ≤ (I : Int) + 2 := by omega
  have hw4 : (I : Int) + 2 ≤ (m : Int) := by omega
  go_still_tail 44, (by kernel_rfl)
  still_call E1.out
  repeat still_step
  still_call E2.out
  repeat still_step
  refine wpStill_nil ?_
  change wpList _ _ _ _ _ w2.drew
  clear hw1 hw2 hw3 hw4
  go_wp2_with fail
  all_goals
    refine (awake1_any _).mono ?_
    rintro e w3 ⟨rfl, hbel⟩
    have HB3 := hide hbel
    clear hbel
    go_wp2_with fail
    go_ret
    exact LawOk.of (below_step HB2.out.drew HB3.out)

theorem Put_4 {A : Option Addr} {m c : Nat} {l : List UInt8} {n : Int} (w : World) (ha : Bs w w.heap.size A m l) (hm : m ≤ 140737488355000) (h : fits n 4 = true) :
    Calls Try.prog 13 #[.slice A m c, .int .i64 n, .int .i64 4] w (BRet w 5 (m + 4) (l ++ nb 4 n.toNat)) := Put_yes (s := 4) w ha hm h
theorem Set_4 {A : Option Addr} {m c I : Nat} {l : List UInt8} {n : Int} (w : World) (ha : Bs w w.heap.size A m l) (hm : m ≤ 140737488355000) (h : fits n 4 = true) (h2 : I + 4 ≤ m) :
    Calls Try.prog 17 #[.slice A m c, .int .i64 I, .int .i64 n, .int .i64 4] w (BRet w 5 m (splice l I (nb 4 n.toNat))) :=
  Set_yes (s := 4) w ha hm h (by simp [hold, isz]; omega)
theorem Get1_4 {A : Option Addr} {m c B : Nat} {l : List UInt8} {n : Int} (w : World) (hl : l.length = m) (ha : Bs w B A (m + 4) (l ++ nb 4 n.toNat)) (hm : m ≤ 140737488354000) (hmc : m + 4 ≤ c) (h : fits n 4 = true) :
    Calls Try.prog 15 #[.slice A (m + 4) c, .int .i64 m, .int .i64 4] w fun e w' => e = .returned (.tuple #[.int .i64 n, .bool true]) ∧ w = w' := by
  have := Get_yes (c := c) (p := m) (s := 4) w ha (by omega) hmc (by simp [hold, isz])
  rw [show (getS (l ++ nb 4 n.toNat) m 4 : Int) = n from back_get1 hl h] at this
  exact this
theorem Get2_4 {A : Option Addr} {m c B I : Nat} {l : List UInt8} {n : Int} (w : World) (hl : l.length = m) (ha : Bs w B A m (splice l I (nb 4 n.toNat))) (hm : m ≤ 140737488354000) (hmc : m ≤ c) (h : fits n 4 = true) (h2 : I + 4 ≤ m) :
    Calls Try.prog 15 #[.slice A m c, .int .i64 I, .int .i64 4] w fun e w' => e = .returned (.tuple #[.int .i64 n, .bool true]) ∧ w = w' := by
  have := Get_yes (c := c) (p := I) (s := 4) w ha (by omega) hmc (by simp [hold, isz]; omega)
  rw [show (getS (splice l I (nb 4 n.toNat)) I 4 : Int) = n from back_get2 h (by rw [hl]; exact h2)] at this
  exact this

set_option maxHeartbeats 400000 in
theorem law_NumBack_4 {m c b o : Nat} {l : List UInt8} {n p r : Int} (w : World) (ha : Bs w w.heap.size (some ⟨b, o, none⟩) m l) (hmc : m ≤ c) (hm : ¬ 2000 < m) (hm4 : ¬ m < 4)
    (hn0 : 0 ≤ n) (hn1 : n < 4294967296) (hp0 : 0 ≤ p) (hp1 : p < 65536) (hr0 : 0 ≤ r) (hr1 : r < 256) (hr : r % 3 = 2) :
    Calls Try.prog 5 #[.slice (some ⟨b, o, none⟩) m c, .int .u32 n, .int .u16 p, .int .u8 r] w (LawOk w) := by
  have hd : decide ((2000 : Int) < (m : Int)) = false := by simp; omega
  have hd2 : decide ((m : Int) < 4) = false := by simp; omega
  have hm' : m ≤ 2000 := by omega
  have hm4' : 4 ≤ m := by omega
  have HA := hide ha
  obtain ⟨K, hK⟩ : ∃ K : Int, n % 4294967296 = K := ⟨_, rfl⟩
  obtain ⟨I, hI⟩ : ∃ I : Nat, p % ((m : Int) - 4 + 1) = (I : Int) := ⟨(p % ((m : Int) - 4 + 1)).toNat, by have := Int.emod_nonneg p (show ((m : Int) - 4 + 1) ≠ 0 by omega); omega⟩
  have hI2 : I + 4 ≤ m := by have := Int.emod_lt_of_pos p (show 0 < ((m : Int) - 4 + 1) by omega); omega
  have hf : fits K 4 = true := by simp [fits, isz]; omega
  have HF := hide hf
  clear ha hm hm4 hf
  go_enter Try.func5, Try.ntmps5
  go_wp2_with fail
  simp only [hK, hI]
  clear hK hI
  refine (Put_4 _ ((HA.out.alloc (Nat.le_refl _) _).more (by simp)) (by omega) HF.out).mono ?_
  rintro e w1 ⟨A1, c1, rfl, hown, hbel⟩
  have HO := hide hown
  have HB := hide (below_step (below_new (below_self w) _) hbel)
  clear hown hbel
  go_wp2_with fail
  refine (Get1_4 _ HA.out.len HO.out.bs (by omega) HO.out.cap HF.out).mono ?_
  rintro e w' ⟨rfl, rfl⟩
  go_wp2_with fail
  refine (Set_4 _ ((HA.out.below HB.out).more HB.out.size) (by omega) HF.out hI2).mono ?_
  rintro e w2 ⟨A2, c2, rfl, hown, hbel⟩
  have HO2 := hide hown
  have HB2 := hide (below_step HB.out hbel)
  clear hown hbel
  go_wp2_with fail
  refine (Get2_4 _ HA.out.len HO2.out.bs (by omega) HO2.out.cap HF.out hI2).mono ?_
  rintro e w' ⟨rfl, rfl⟩
  obtain ⟨g, cs, rfl, hg, hrow, hcl, hnc, hcm, htake⟩ := HO2.out.row (by omega)
  clear hrow hcl htake
  have hKK : (K == K) = true := by simp
  have hmm : ((m : Int) == (m : Int)) = true := by simp
  go_wp2_with fail
  have hIc2 : I ≤ c2 := by omega
  have hIc : I ≤ c := by omega
  have hlen : (nb 4 K.toNat).length = 4 := nb_length _ _
  have hle := HA.out.len
  have hIs2 : I + 4 ≤ c2 := by omega
  have hIs : I + 4 ≤ c := by omega
  have e1 := Equal_still w2.drew (c := c2) (d := c) (HO2.out.bs.pre (show I ≤ m by omega)) (((HA.out.below HB2.out).more HB2.out.size).pre (show I ≤ m by omega)) (take_splice_pre l I _ (by rw [hlen, hle]; exact hI2))
  have e2 := Equal_still w2.drew (c := c2 - (I + 4)) (d := c - (I + 4)) (HO2.out.bs.suf hI2 hnc (Nat.zero_add _)) (((HA.out.below HB2.out).more HB2.out.size).suf hI2 hmc rfl) (drop_splice_suf l I 4 _ hlen (by rw [hlen, hle]; exact hI2))
  have E1 := hide e1
  have E2 := hide e2
  clear e1 e2 hlen hle
  have hw1 : IntKind.i64.wrap ((I : Int) + 4) = (I : Int) + 4 := IntWalk.i64_in _ (by omega)
  have hw2 : ((I : Int) + 4).toNat = I + 4 := by omega
  have hw3 : (0 : Int) ≤ (I : Int) + 4 := by omega
  have hw4 : (I : Int) + 4 ≤ (m : Int) := by omega
  go_still_tail 44, (by kernel_rfl)
  still_call E1.out
  repeat still_step
  still_call E2.out
  repeat still_step
  refine wpStill_nil ?_
  change wpList _ _ _ _ _ w2.drew
  clear hw1 hw2 hw3 hw4
  go_wp2_with fail
  all_goals
    refine (awake1_any _).mono ?_
    rintro e w3 ⟨rfl, hbel⟩
    have HB3 := hide hbel
    clear hbel
    go_wp2_with fail
    go_ret
    exact LawOk.of (below_step HB2.out.drew HB3.out)

set_option maxHeartbeats 400000 in
theorem law_NumBack_out {m c : Nat} {A : Option Addr} {n p r : Int} (w : World) (h : 2000 < m ∨ m < 4) :
    Calls Try.prog 5 #[.slice A m c, .int .u32 n, .int .u16 p, .int .u8 r] w (LawOk w) := by
  by_cases h1 : 2000 < m
  · have hd : decide ((2000 : Int) < (m : Int)) = true := by simp; omega
    clear h h1
    go_enter Try.func5, Try.ntmps5
    go_wp2_with fail
    refine (awake1_any _).mono ?_
    rintro e w3 ⟨rfl, hbel⟩
    have HB3 := hide hbel
    clear hbel
    go_wp2_with fail
    go_ret
    exact LawOk.of HB3.out
  · have hd : decide ((2000 : Int) < (m : Int)) = false := by simp; omega
    have hd2 : decide ((m : Int) < 4) = true := by simp; omega
    clear h h1
    go_enter Try.func5, Try.ntmps5
    go_wp2_with fail
    refine (awake1_any _).mono ?_
    rintro e w3 ⟨rfl, hbel⟩
    have HB3 := hide hbel
    clear hbel
    go_wp2_with fail
    go_ret
    exact LawOk.of HB3.out

theorem law_NumBack {A : Option Addr} {m c : Nat} {l : List UInt8} {n p r : Int} (w : World) (ha : Bs w w.heap.size A m l) (hmc : m ≤ c)
    (hn0 : 0 ≤ n) (hn1 : n < 4294967296) (hp0 : 0 ≤ p) (hp1 : p < 65536) (hr0 : 0 ≤ r) (hr1 : r < 256) :
    Calls Try.prog 5 #[.slice A m c, .int .u32 n, .int .u16 p, .int .u8 r] w (LawOk w) := by
  by_cases h : 2000 < m ∨ m < 4
  · exact law_NumBack_out w h
  · obtain ⟨b, o, rfl, _⟩ := ha.2 (by omega)
    have h3 : r % 3 = 0 ∨ r % 3 = 1 ∨ r % 3 = 2 := by omega
    rcases h3 with h3 | h3 | h3
    · exact law_NumBack_1 w ha hmc (by omega) (by omega) hn0 hn1 hp0 hp1 hr0 hr1 h3
    · exact law_NumBack_2 w ha hmc (by omega) (by omega) hn0 hn1 hp0 hp1 hr0 hr1 h3
    · exact law_NumBack_4 w ha hmc (by omega) (by omega) hn0 hn1 hp0 hp1 hr0 hr1 h3
end Go.Proofs.Ytnhlneihbdohlaa
