/- claim, the reference: Owner (layer 11). -/
import Derived.Test.YtnllbdigpnopoaaClaC
namespace Go.Proofs.Ytnllbdigpnopoaa
open Go.RowKit Go.Shelf Plain

/-- One more, in 64 bits. -/
def up1 (b : Int) : Int := if b = 9223372036854775807 then -9223372036854775808 else b + 1
theorem wrap_up1 {b : Int} (h : w64 b) : IntKind.i64.wrap (b + 1) = up1 b := by
  unfold up1
  unfold w64 at h
  split
  · rename_i e; subst e; decide
  · exact IntWalk.i64_in _ (by omega)
/-- It returns who owns a block. -/
def ownV (r : Option Nat) : Value := .tuple #[.int .i64 (ownI r), .int .i64 (ownK r), .bool r.isSome]
theorem own_hit {l : List InoV} {m b : Int} {i k : Nat} {x : InoV} (hx : l[i]? = some x) (hk : k < 5) (hv : validS l m (((i : Nat) : Int) + 1) k = true) (he : ptr x k = up1 b) : ownQ (flatP l) m b = some (5 * i + k) := by
  have hi := (List.getElem?_eq_some_iff.1 hx).1
  rw [validS_in hi hk] at hv
  have hp := flatP_ptr hx hk
  have h1 := (cntQ_true hp).1 hv
  have h2 := (cntQ_own hp).1 hv
  unfold up1 at he
  split at he
  · omega
  · rw [show b = ptr x k - 1 from by omega]; exact h2
theorem own_miss {l : List InoV} {m b : Int} {i k : Nat} {x : InoV} (hx : l[i]? = some x) (hk : k < 5) (hm : w64 m) (h : ¬ (0 ≤ b ∧ validS l m (((i : Nat) : Int) + 1) k = true ∧ ptr x k = up1 b)) : ownQ (flatP l) m b ≠ some (5 * i + k) := by
  intro e
  have hi := (List.getElem?_eq_some_iff.1 hx).1
  obtain ⟨h1, h2, h3⟩ := ownQ_some.1 e
  have hp := flatP_ptr hx hk
  rw [hp] at h2
  have h2 := Option.some.inj h2
  unfold w64 at hm
  refine h ⟨h1.1, ?_, ?_⟩
  · rw [validS_in hi hk, cntQ_own hp, h2, show b + 1 - 1 = b from by omega]
    exact e
  · rw [h2]
    unfold up1
    rw [if_neg (by omega)]
theorem own_end {l : List InoV} {m b : Int} (h : ∀ q, q < 5 * l.length → ownQ (flatP l) m b ≠ some q) : ownQ (flatP l) m b = none := by
  cases e : ownQ (flatP l) m b with
  | none => rfl
  | some q =>
    have h2 := (ownQ_some.1 e).2.1
    have := (List.getElem?_eq_some_iff.1 h2).1
    rw [flatP_len] at this
    exact absurd e (h q this)
theorem ownI_hit {r : Option Nat} {i k : Nat} (h : r = some (5 * i + k)) (hk : k < 5) : ownV r = .tuple #[.int .i64 (((i : Nat) : Int) + 1), .int .i64 k, .bool true] := by
  subst h
  have := q_parts (i := i) hk
  simp only [ownV, ownI, ownK, this.1, this.2, Option.isSome]
  rfl
set_option maxRecDepth 100000 in
set_option maxHeartbeats 1000000 in
theorem ROwner_any {A : Option Addr} {n c : Nat} {l : List InoV} {m b : Int} (w : World) (h : RdE inoEn w (Under w.heap.size) A n l) (hn : n ≤ 100) (hm : w64 m) (hb : w64 b) : Calls Try.prog 8 #[.slice A n c, .int .i64 m, .int .i64 b] w (VRet w (ownV (ownQ (flatP l) m b))) := by
  have hlen := h.len
  have H := hide h
  have HM := hide hm
  obtain ⟨r, hr⟩ : ∃ r, ownQ (flatP l) m b = r := ⟨_, rfl⟩
  rw [hr]
  have HR := hide hr
  obtain ⟨B1, hB1⟩ : ∃ B1, up1 b = B1 := ⟨_, rfl⟩
  have hw1 := (wrap_up1 hb).trans hB1
  have HB1 := hide hB1
  have HLEN := hide hlen
  clear h hr hB1 hb hm hlen
  go_enter Try.func8, Try.ntmps8
  go_wp2
  go_loopw [9] (fun u wr => ∃ j : Nat, j ≤ n ∧ u = .int .i64 j ∧ Hid (∀ q, q < 5 * j → r ≠ some q) ∧ Below w.heap.size w wr) (fun u _ => n - (intOf u).toNat)
  case atStart => exact ⟨0, by omega, rfl, hide (fun q hq => by omega), below_self w⟩
  case round =>
    obtain ⟨j, hj, rfl, HN, hbr⟩ := hrel
    by_cases hlt : j < n
    · go_wp2
      go_loopw [10] (fun u wr' => ∃ g : Nat, g ≤ 5 ∧ u = .int .i64 g ∧ Hid (∀ q, q < 5 * j + g → r ≠ some q) ∧ Below w.heap.size w wr') (fun u _ => 5 - (intOf u).toNat)
      case atStart => exact ⟨0, by omega, rfl, hide (fun q hq => HN.out q (by omega)), hbr⟩
      case round =>
        obtain ⟨g, hg, rfl, HN2, hbr2⟩ := hrel
        clear hbr HN
        by_cases hg5 : g < 5
        · have hjl : j < l.length := by have := HLEN.out; omega
          have hy := List.getElem?_eq_getElem hjl
          generalize l[j] = y at hy
          have HY := hide hy
          have hlo : (0 : Int) ≤ (j : Int) + 1 := by omega
          have HNX : Hid (∀ q, ¬ (0 ≤ b ∧ validS l m (((j : Nat) : Int) + 1) g = true ∧ ptr y g = up1 b) → q < 5 * j + (g + 1) → r ≠ some q) := hide (fun q h1 h2 => by
            by_cases e : q = 5 * j + g
            · subst e; rw [← HR.out]; exact own_miss HY.out hg5 HM.out h1
            · exact HN2.out q (by omega))
          by_cases hb0 : 0 ≤ b
          · cases hv : validS l m (((j : Nat) : Int) + 1) g with
            | false =>
              have HV := hide hv
              clear hv hy
              go_wp2_with (go_at_call 10; refine (RValid_any _ (H.out.on hbr2) (by omega)).mono ?_; rintro e w2 ⟨rfl, hb2⟩; rw [HV.out])
              go_roundw
              case rel => exact ⟨g + 1, by omega, by go_num, hide (fun q h1 => HNX.out q (by rw [HV.out]; simp) h1), below_step hbr2 hb2⟩
              case measure => simp [intOf]; omega
            | true =>
              have HV := hide hv
              clear hv
              obtain ⟨ba, oa, rfl, -, -, -⟩ := ino_at H.out (below_self w) HY.out
              clear hy
              have hjt : ((j : Nat) : Int).toNat = j := by omega
              by_cases heq : ptr y g = B1
              · have HOK : Hid (r = some (5 * j + g)) := hide (by rw [← HR.out]; exact own_hit HY.out hg5 HV.out (by rw [HB1.out]; exact heq))
                have hbeq : (ptr y g == B1) = true := by simpa using heq
                obtain ⟨pv, hpv⟩ : ∃ pv, ptr y g = pv := ⟨_, rfl⟩
                rw [hpv] at hbeq
                have HPV := hide hpv
                clear hpv heq HNX
                go_wp2_with (first | (go_at_call 10; refine (RValid_any _ (H.out.on hbr2) (by omega)).mono ?_; rintro e w2 ⟨rfl, hb2⟩; rw [HV.out]; obtain ⟨b2, o2, e2, -, -, hcy⟩ := ino_at H.out (below_step hbr2 hb2) HY.out; cases e2; obtain ⟨c0, c1, c2, c3, c4, c5, c6, c7, c8, c9⟩ := ino_cells hcy; clear hcy) | (go_at_call 18; refine (rpointer_any y hg5 _).mono ?_; rintro e w3 ⟨rfl, hb3⟩; rw [HPV.out]))
                exact bodyPost_ret (v := .tuple #[.int .i64 ((j : Int) + 1), .int .i64 g, .bool true]) (by simp [results, Try.results8, go_sem]) rfl (VRet.eq (ownI_hit HOK.out hg5).symm (below_step (below_step hbr2 hb2) hb3))
              · have hbeq : (ptr y g == B1) = false := by simpa using heq
                have HNE : Hid (¬ ptr y g = up1 b) := hide (by rw [HB1.out]; exact heq)
                obtain ⟨pv, hpv⟩ : ∃ pv, ptr y g = pv := ⟨_, rfl⟩
                rw [hpv] at hbeq
                have HPV := hide hpv
                clear hpv heq
                go_wp2_with (first | (go_at_call 10; refine (RValid_any _ (H.out.on hbr2) (by omega)).mono ?_; rintro e w2 ⟨rfl, hb2⟩; rw [HV.out]; obtain ⟨b2, o2, e2, -, -, hcy⟩ := ino_at H.out (below_step hbr2 hb2) HY.out; cases e2; obtain ⟨c0, c1, c2, c3, c4, c5, c6, c7, c8, c9⟩ := ino_cells hcy; clear hcy) | (go_at_call 18; refine (rpointer_any y hg5 _).mono ?_; rintro e w3 ⟨rfl, hb3⟩; rw [HPV.out]))
                go_roundw
                case rel => exact ⟨g + 1, by omega, by go_num, hide (fun q h1 => HNX.out q (fun h => HNE.out h.2.2) h1), below_step (below_step hbr2 hb2) hb3⟩
                case measure => simp [intOf]; omega
          · have hd0 : decide (0 ≤ b) = false := by simpa using hb0
            go_wp2
            go_roundw
            case rel => exact ⟨g + 1, by omega, by go_num, hide (fun q h1 => HNX.out q (fun h => hb0 h.1) h1), hbr2⟩
            case measure => simp [intOf]; omega
        · obtain rfl : g = 5 := by omega
          go_wp2
          go_roundw
          case rel => exact ⟨j + 1, by omega, by go_num, hide (fun q h1 => HN2.out q (by omega)), hbr2⟩
          case measure => simp [intOf]; omega
    · obtain rfl : j = n := by omega
      have HE : Hid (r = none) := hide (by rw [← HR.out]; exact own_end (fun q hq => by rw [HR.out]; exact HN.out q (by have := HLEN.out; omega)))
      clear HN
      go_wp2
      exact bodyPost_ret (v := .tuple #[.int .i64 0, .int .i64 0, .bool false]) (by simp [results, Try.results8, go_sem]) rfl (VRet.eq (by rw [HE.out]; rfl) hbr)
end Go.Proofs.Ytnllbdigpnopoaa
