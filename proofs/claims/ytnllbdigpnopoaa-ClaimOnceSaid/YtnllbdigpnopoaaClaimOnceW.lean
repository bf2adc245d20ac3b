/- The law ClaimOnce: its walk (layer 11). -/
import Derived.Test.YtnllbdigpnopoaaClaM
namespace Go.Proofs.Ytnllbdigpnopoaa
open Go.RowKit Go.Shelf Plain

theorem nCnt_le (ps : List Int) (m : Int) (j : Nat) : nCnt ps m j ≤ j := by
  have := List.countP_le_length (p := cntQ ps m) (l := List.range j)
  rw [List.length_range] at this
  exact this
theorem nUsed_le (ps : List Int) (j : Nat) : nUsed ps j ≤ j := by
  have := List.countP_le_length (p := id) (l := usedQ ps j)
  rw [usedQ_len] at this
  exact this
theorem nUsed_mono (ps : List Int) (j : Nat) : nUsed ps j ≤ nUsed ps (j + 1) := by rw [nUsed_succ]; omega
theorem nUsed_upto (ps : List Int) {j k : Nat} (h : j ≤ k) : nUsed ps j ≤ nUsed ps k := by
  induction k with
  | zero =>
    have e : j = 0 := by omega
    rw [e]
    exact Nat.le_refl _
  | succ k ih =>
    by_cases e : j = k + 1
    · subst e; exact Nat.le_refl _
    · exact Nat.le_trans (ih (by omega)) (nUsed_mono ps k)
theorem own_valid {l : List InoV} {m b : Int} {q : Nat} (h : ownQ (flatP l) m b = some q) : validS l m (ownI (some q)) (ownK (some q)) = true := by
  obtain ⟨h1, h2, h3⟩ := ownQ_some.1 h
  have hq := (List.getElem?_eq_some_iff.1 h2).1
  rw [flatP_len] at hq
  have := validS_in (l := l) (m := m) (i := q / 5) (k := q % 5) (by omega) (by omega)
  rw [show ownI (some q) = (((q / 5 : Nat)) : Int) + 1 from by simp only [ownI]; push_cast; rfl, show ownK (some q) = ((q % 5 : Nat) : Int) from rfl, this, show 5 * (q / 5) + q % 5 = q from by omega, cntQ_own h2, show b + 1 - 1 = b from by omega]
  exact h
set_option maxRecDepth 100000 in
set_option maxHeartbeats 1600000 in
theorem law_ClaimOnce {A : Option Addr} {n c : Nat} {l : List InoV} (many : Nat) (hm : many < 256) (w : World) (h : RdE inoEn w (Under w.heap.size) A n l) :
    Calls Try.prog 4 #[.slice A n c, .int .u8 many] w (LawOk w) := by
  have HLEN := hide h.len
  have H := hide h
  clear h
  by_cases hfew : n ≤ 30
  case neg =>
    have hf : decide (n ≤ 30) = false := by simpa using hfew
    clear H hfew
    go_enter Try.func4, Try.ntmps4
    go_wp2_with fail
    refine (few_any w hf).mono ?_
    rintro e w' ⟨rfl, rfl⟩
    go_wp2_with fail
    refine (awake11_any w).mono ?_
    rintro e w' ⟨rfl, hb1⟩
    go_wp2_with fail
    go_ret
    exact LawOk.of hb1
  have hf : decide (n ≤ 30) = true := by simpa using hfew
  obtain ⟨M, hM⟩ : ∃ M, M = 1 + many % 60 := ⟨_, rfl⟩
  have hM1 : 1 ≤ M := by omega
  have hM2 : M ≤ 60 := by omega
  have HMW := hide (show w64 (M : Int) by unfold w64; omega)
  have HE := hide (show (1 : Int) + (many : Int) % 60 = (M : Int) by omega)
  have hwr : IntKind.i64.wrap ((1 : Int) + (many : Int) % 60) = 1 + (many : Int) % 60 := IntWalk.i64_in _ (by omega)
  have hm0 : (0 : Int) ≤ (many : Int) := by omega
  have hm1 : (many : Int) < 256 := by omega
  have HUS := hide (usedS_yes (ps := flatP l) hM1 (by omega))
  go_enter Try.func4, Try.ntmps4
  go_wp2_with fail
  refine (few_any w hf).mono ?_
  rintro e w' ⟨rfl, rfl⟩
  clear hf
  go_wp2_with fail
  rw [HE.out]
  refine (Used_any w H.out (by omega)).mono ?_
  rintro e w1 ⟨A1, c1, rfl, ho1, hb1⟩
  rw [HUS.out, usedQ_len] at ho1 ⊢
  have HO1 := hide ho1.rd
  have HB1 := hide hb1
  have H1 := hide (H.out.on hb1)
  have hmm : ((M : Int) != (M : Int)) = false := by simp
  clear ho1 hb1 hwr hm0 hm1 hm hM HUS
  go_wp2_with fail
  go_loopw [7, 32] (fun v u wr => ∃ i : Nat, i ≤ n ∧ u = .int .i64 i ∧ v = .int .i64 (nCnt (flatP l) M (5 * i) : Nat) ∧ Below w1.heap.size w1 wr) (fun _ u _ => n - (intOf u).toNat)
  case atStart => exact ⟨0, by omega, rfl, rfl, below_self w1⟩
  case round =>
    obtain ⟨i, hi, rfl, rfl, hbr⟩ := hrel
    by_cases hlt : i < n
    · go_wp2_with fail
      go_loopw [7, 35] (fun v u wr => ∃ g : Nat, g ≤ 5 ∧ u = .int .i64 g ∧ v = .int .i64 (nCnt (flatP l) M (5 * i + g) : Nat) ∧ Below w1.heap.size w1 wr) (fun _ u _ => 5 - (intOf u).toNat)
      case atStart => exact ⟨0, by omega, rfl, rfl, hbr⟩
      case round =>
        clear hbr
        obtain ⟨g, hg, rfl, rfl, hbr⟩ := hrel
        by_cases hg5 : g < 5
        · have hle := nCnt_le (flatP l) M (5 * i + g)
          have hlo : (0 : Int) ≤ (i : Int) + 1 := by omega
          have hvi := validS_in (m := (M : Int)) (show i < l.length by have := HLEN.out; omega) hg5
          have HSU := hide (nCnt_succ (flatP l) M (5 * i + g))
          obtain ⟨V, hV⟩ : ∃ V, nCnt (flatP l) M (5 * i + g) = V := ⟨_, rfl⟩
          rw [hV] at hle HSU ⊢
          clear hV
          cases hc : cntQ (flatP l) M (5 * i + g) with
          | true =>
            rw [hc] at hvi HSU
            have HVI := hide hvi
            clear hvi hc
            go_wp2_with (go_at_call 9; refine (Valid_any _ (H1.out.on hbr) (by omega) HMW.out).mono ?_; rintro e w2 ⟨rfl, hb2⟩; rw [HVI.out])
            go_roundw
            case rel => exact ⟨g + 1, by omega, by go_num, by rw [show 5 * i + (g + 1) = 5 * i + g + 1 from rfl, HSU.out]; go_num, below_step hbr hb2⟩
            case measure => simp [intOf]; omega
          | false =>
            rw [hc] at hvi HSU
            have HVI := hide hvi
            clear hvi hc
            go_wp2_with (go_at_call 9; refine (Valid_any _ (H1.out.on hbr) (by omega) HMW.out).mono ?_; rintro e w2 ⟨rfl, hb2⟩; rw [HVI.out])
            go_roundw
            case rel => exact ⟨g + 1, by omega, by go_num, by rw [show 5 * i + (g + 1) = 5 * i + g + 1 from rfl, HSU.out]; go_num, below_step hbr hb2⟩
            case measure => simp [intOf]; omega
        · obtain rfl : g = 5 := by omega
          go_wp2_with fail
          go_roundw
          case rel => exact ⟨i + 1, by omega, by go_num, rfl, hbr⟩
          case measure => simp [intOf]; omega
    · obtain rfl : i = n := by omega
      have HALL := hide (show nCnt (flatP l) M (5 * i) = nUsed (flatP l) M by rw [show 5 * i = (flatP l).length by rw [flatP_len, HLEN.out]]; exact nCnt_all _ _)
      rw [HALL.out]
      clear HALL
      go_wp2_with fail
      go_loopw [7, 50] (fun v u wr => ∃ g : Nat, g ≤ M ∧ u = .int .i64 g ∧ v = .int .i64 ((nUsed (flatP l) M : Nat) - (nUsed (flatP l) g : Nat) : Int) ∧ Below w1.heap.size w1 wr) (fun _ u _ => M - (intOf u).toNat)
      case atStart => exact ⟨0, by omega, rfl, by rw [show nUsed (flatP l) 0 = 0 from rfl]; go_num, hbr⟩
      case round =>
        clear hbr
        obtain ⟨g, hg, rfl, rfl, hbr⟩ := hrel
        have hu1 := nUsed_le (flatP l) M
        by_cases hlt2 : g < M
        · have hu2 := nUsed_upto (flatP l) (show g + 1 ≤ M by omega)
          have hu3 := nUsed_upto (flatP l) (show g ≤ M by omega)
          have HSU := hide (nUsed_succ (flatP l) g)
          obtain ⟨r, hr⟩ : ∃ r, ownQ (flatP l) M g = r := ⟨_, rfl⟩
          have hus := ownQ_used (ps := flatP l) hlt2
          rw [hr] at hus
          rw [← hus] at HSU
          obtain ⟨b1, o1, rfl, hlb, hcl⟩ := HO1.out.2 (by omega)
          have hcl := hcl g _ (usedQ_get (flatP l) hlt2)
          rw [← hus] at hcl
          have hcr : wr.cell? ⟨b1, o1 + g, none⟩ = some (.bool r.isSome) := (hbr.cell (p := ⟨b1, _, none⟩) hlb).trans hcl
          have HG6 := hide (show w64 (g : Int) by unfold w64; omega)
          have HR := hide hr
          obtain ⟨UM, hUM⟩ : ∃ U, nUsed (flatP l) M = U := ⟨_, rfl⟩
          obtain ⟨UG, hUG⟩ : ∃ U, nUsed (flatP l) g = U := ⟨_, rfl⟩
          rw [hUM, hUG]
          rw [hUM] at hu1 hu2 hu3
          rw [hUG] at hu3 HSU

          clear hus hcl hUM hUG
          cases r with
          | none =>
            have HU2 := hide (HSU.out.trans (by simp : UG + (if (none : Option Nat).isSome = true then 1 else 0) = UG))
            rw [show (none : Option Nat).isSome = false from rfl] at hcr
            clear hr HSU hu2
            go_wp2_with (go_at_call 7; refine (Owner_any _ (H1.out.on hbr) (by omega) HMW.out HG6.out).mono ?_; rintro e w2 ⟨rfl, hb2⟩; rw [HR.out, show ownV none = .tuple #[.int .i64 0, .int .i64 0, .bool false] from rfl])
            go_roundw
            case rel => exact ⟨g + 1, by omega, by go_num, by rw [HU2.out], below_step hbr hb2⟩
            case measure => simp [intOf]; omega
          | some q =>
            have HVA := hide (own_valid hr)
            have HU2 := hide (HSU.out.trans (by simp : UG + (if (some q).isSome = true then 1 else 0) = UG + 1))
            rw [show (some q).isSome = true from rfl] at hcr
            have hu4 : UG + 1 ≤ UM := by rw [HU2.out] at hu2; exact hu2
            obtain ⟨oi, hoi⟩ : ∃ oi, ownI (some q) = oi := ⟨_, rfl⟩
            obtain ⟨ok, hok⟩ : ∃ ok, ownK (some q) = ok := ⟨_, rfl⟩
            have HO : Hid (ownV (some q) = .tuple #[.int .i64 oi, .int .i64 ok, .bool true]) := hide (by unfold ownV; rw [hoi, hok]; rfl)
            rw [hoi, hok] at HVA
            clear hr HSU hoi hok hu2
            go_wp2_with (first | (go_at_call 7; refine (Owner_any _ (H1.out.on hbr) (by omega) HMW.out HG6.out).mono ?_; rintro e w2 ⟨rfl, hb2⟩; rw [HR.out, HO.out]) | (go_at_call 9; refine (Valid_any _ (H1.out.on (below_step hbr hb2)) (by omega) HMW.out).mono ?_; rintro e w3 ⟨rfl, hb3⟩; rw [HVA.out]))
            go_roundw
            case rel => exact ⟨g + 1, by omega, by go_num, by rw [HU2.out]; go_num, below_step (below_step hbr hb2) hb3⟩
            case measure => simp [intOf]; omega
        · obtain rfl : g = M := by omega
          rw [show ((nUsed (flatP l) g : Nat) : Int) - (nUsed (flatP l) g : Nat) = 0 from by omega]
          go_wp2_with fail
          refine (awake11_any wr).mono ?_
          rintro e w9 ⟨rfl, hb9⟩
          have hb10 := below_step (below_step HB1.out hbr) hb9
          clear hbr hb9
          go_wp2_with fail
          go_ret
          exact LawOk.of hb10
end Go.Proofs.Ytnllbdigpnopoaa
