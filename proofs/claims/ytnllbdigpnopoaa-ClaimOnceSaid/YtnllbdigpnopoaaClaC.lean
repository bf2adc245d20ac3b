/- claim, the reference: Valid (layer 11). -/
import Derived.Test.YtnllbdigpnopoaaClaB
import Derived.IntWalk
namespace Go.Proofs.Ytnllbdigpnopoaa
open Go.RowKit Go.Shelf Plain

theorem validS_bad {l : List InoV} {m : Int} {i k : Nat} {x : InoV} (hx : l[i]? = some x) (hk : k < 5) (h : ptr x k < 1 ∨ m < ptr x k) : validS l m (((i : Nat) : Int) + 1) k = false := by
  have hi := (List.getElem?_eq_some_iff.1 hx).1
  rw [validS_in hi hk, ← Bool.not_eq_true, cntQ_true (flatP_ptr hx hk)]
  omega
theorem validS_hit {l : List InoV} {m : Int} {i k q : Nat} {x : InoV} (hx : l[i]? = some x) (hk : k < 5) (hq : q < 5 * i + k) (h : (flatP l)[q]? = some (ptr x k)) : validS l m (((i : Nat) : Int) + 1) k = false := by
  have hi := (List.getElem?_eq_some_iff.1 hx).1
  rw [validS_in hi hk, ← Bool.not_eq_true, cntQ_true (flatP_ptr hx hk)]
  rintro ⟨-, -, h3⟩
  exact h3 q hq h
theorem validS_good {l : List InoV} {m : Int} {i k : Nat} {x : InoV} (hx : l[i]? = some x) (hk : k < 5) (h1 : 1 ≤ ptr x k) (h2 : ptr x k ≤ m) (h : ∀ q, q < 5 * i + k → (flatP l)[q]? ≠ some (ptr x k)) : validS l m (((i : Nat) : Int) + 1) k = true := by
  have hi := (List.getElem?_eq_some_iff.1 hx).1
  rw [validS_in hi hk, cntQ_true (flatP_ptr hx hk)]
  exact ⟨h1, h2, h⟩
theorem ino_at {A : Option Addr} {n : Nat} {l : List InoV} {w w' : World} (h : RdE inoEn w (Under w.heap.size) A n l) (hb : Below w.heap.size w w') {i : Nat} {x : InoV} (hx : l[i]? = some x) : ∃ b o, A = some ⟨b, o, none⟩ ∧ b < w.heap.size ∧ x.wf ∧ ∀ j v, (inoC x)[j]? = some v → w'.cell? ⟨b, o + i * 10 + j, none⟩ = some v := by
  obtain ⟨b, o, e, hD, hwf, hc⟩ := h.get_ino hx
  exact ⟨b, o, e, hD, hwf, fun j v hv => (hb.cell (p := ⟨b, _, none⟩) hD).trans (hc j v hv)⟩
theorem ino_cells {w : World} {b q : Nat} {x : InoV} (h : ∀ j v, (inoC x)[j]? = some v → w.cell? ⟨b, q + j, none⟩ = some v) :
    w.cell? ⟨b, q, none⟩ = some (.int .i64 x.k) ∧ w.cell? ⟨b, q + 1, none⟩ = some (.int .i64 x.i) ∧ w.cell? ⟨b, q + 2, none⟩ = some (.int .i64 x.n) ∧ w.cell? ⟨b, q + 3, none⟩ = some (.int .i64 x.g) ∧ w.cell? ⟨b, q + 4, none⟩ = some (.int .i64 x.s) ∧
    w.cell? ⟨b, q + 5, none⟩ = some (.int .i64 x.p) ∧ w.cell? ⟨b, q + 6, none⟩ = some (.int .i64 x.q) ∧ w.cell? ⟨b, q + 7, none⟩ = some (.int .i64 x.r) ∧ w.cell? ⟨b, q + 8, none⟩ = some (.int .i64 x.t) ∧ w.cell? ⟨b, q + 9, none⟩ = some (.int .i64 x.a) :=
  ⟨h 0 _ rfl, h 1 _ rfl, h 2 _ rfl, h 3 _ rfl, h 4 _ rfl, h 5 _ rfl, h 6 _ rfl, h 7 _ rfl, h 8 _ rfl, h 9 _ rfl⟩
set_option maxRecDepth 100000 in
set_option maxHeartbeats 1000000 in
theorem RValid_any {A : Option Addr} {n c : Nat} {l : List InoV} {m ino k : Int} (w : World) (h : RdE inoEn w (Under w.heap.size) A n l) (hn : n ≤ 100) : Calls Try.prog 10 #[.slice A n c, .int .i64 m, .int .i64 ino, .int .i64 k] w (VRet w (.bool (validS l m ino k))) := by
  have hlen := h.len
  by_cases h1 : ino < 1
  · rw [validS_no (by omega)]
    go_enter Try.func10, Try.ntmps10
    go_wp2
    go_ret
    exact VRet.of (below_self w)
  have d1 : decide (ino < 1) = false := by simpa using h1
  by_cases h2 : (n : Int) < ino
  · rw [validS_no (by omega)]
    go_enter Try.func10, Try.ntmps10
    go_wp2
    go_ret
    exact VRet.of (below_self w)
  have d2 : decide ((n : Int) < ino) = false := by simpa using h2
  by_cases h3 : k < 0
  · rw [validS_no (by omega)]
    go_enter Try.func10, Try.ntmps10
    go_wp2
    go_ret
    exact VRet.of (below_self w)
  have d3 : decide (k < 0) = false := by simpa using h3
  by_cases h4 : 4 < k
  · rw [validS_no (by omega)]
    go_enter Try.func10, Try.ntmps10
    go_wp2
    go_ret
    exact VRet.of (below_self w)
  have d4 : decide (4 < k) = false := by simpa using h4
  obtain ⟨i, hi⟩ : ∃ i : Nat, ino = (i : Int) + 1 := ⟨(ino - 1).toNat, by omega⟩
  obtain ⟨kk, hkk⟩ : ∃ kk : Nat, k = (kk : Int) := ⟨k.toNat, by omega⟩
  subst hi hkk
  have hil : i < l.length := by omega
  have hk5 : kk < 5 := by omega
  have hx := List.getElem?_eq_getElem hil
  generalize l[i] = x at hx
  obtain ⟨b, o, rfl, hb, hwf, hc⟩ := ino_at h (below_self w) hx
  have HC := hide hc
  have H := hide h
  have HX := hide hx
  have hbd := ptr_wf hwf hk5
  unfold w64 at hbd
  clear hc h hx hlen
  have hi1 : IntKind.i64.wrap (((i : Nat) : Int) + 1 - 1) = (i : Int) := by rw [show ((i : Nat) : Int) + 1 - 1 = i from by omega]; exact IntWalk.i64_in _ (by omega)
  have ht1 : ((i : Nat) : Int).toNat = i := by omega
  by_cases hp1 : ptr x kk < 1
  · rw [validS_bad HX.out hk5 (.inl hp1)]
    go_enter Try.func10, Try.ntmps10
    go_wp2_with (first | (refine wpList_loadX rfl 39 (.tmp 31) rfl 10 ino_agg ino_size b (o + i * 10) rfl (inoC x) HC.out rfl ?_) | (go_at_call 18; refine (rpointer_any x hk5 _).mono ?_; rintro e w1 ⟨rfl, hb1⟩))
    go_ret
    exact VRet.of hb1
  have d5 : decide (ptr x kk < 1) = false := by simpa using hp1
  by_cases hp2 : m < ptr x kk
  · rw [validS_bad HX.out hk5 (.inr hp2)]
    go_enter Try.func10, Try.ntmps10
    go_wp2_with (first | (refine wpList_loadX rfl 39 (.tmp 31) rfl 10 ino_agg ino_size b (o + i * 10) rfl (inoC x) HC.out rfl ?_) | (go_at_call 18; refine (rpointer_any x hk5 _).mono ?_; rintro e w1 ⟨rfl, hb1⟩))
    go_ret
    exact VRet.of hb1
  have d6 : decide (m < ptr x kk) = false := by simpa using hp2
  go_enter Try.func10, Try.ntmps10
  go_wp2_with (first | (refine wpList_loadX rfl 39 (.tmp 31) rfl 10 ino_agg ino_size b (o + i * 10) rfl (inoC x) HC.out rfl ?_) | (go_at_call 18; refine (rpointer_any x hk5 _).mono ?_; rintro e w1 ⟨rfl, hb1⟩))
  clear d1 d2 d3 d4 d5 d6 hi1 ht1
  obtain ⟨p, HP⟩ : ∃ p, Hid (ptr x kk = p) := ⟨_, hide rfl⟩
  rw [HP.out] at hbd hp1 hp2
  rw [HP.out]
  go_loopw [10] (fun u wr => ∃ j : Nat, j ≤ i + 1 ∧ u = .int .i64 j ∧ (∀ q, q < 5 * j → q < 5 * i + kk → (flatP l)[q]? ≠ some p) ∧ Below w.heap.size w wr) (fun u _ => i + 1 - (intOf u).toNat)
  case atStart => exact ⟨0, by omega, rfl, fun q hq => by omega, hb1⟩
  case round =>
    obtain ⟨j, hj, rfl, hno, hbr⟩ := hrel
    clear hb1
    by_cases hlt : j < i + 1
    · have hlt' : (j : Int) < (i : Int) + 1 := by omega
      have HN := hide hno
      clear hno
      go_wp2
      go_loopw [11] (fun u wr' => ∃ g : Nat, g ≤ 5 ∧ u = .int .i64 g ∧ Hid (∀ q, q < 5 * j + g → q < 5 * i + kk → (flatP l)[q]? ≠ some p) ∧ Below w.heap.size w wr') (fun u _ => 5 - (intOf u).toNat)
      case atStart => exact ⟨0, by omega, rfl, hide (fun q hq => HN.out q (by omega)), hbr⟩
      case round =>
        obtain ⟨g, hg, rfl, HN2, hbr2⟩ := hrel
        clear hbr HN
        by_cases hg5 : g < 5
        · have hjl : j < l.length := by omega
          have hy := List.getElem?_eq_getElem hjl
          generalize l[j] = y at hy
          obtain ⟨b', o', e, _, hwf', hcy⟩ := ino_at H.out hbr2 hy
          cases e
          obtain ⟨c0, c1, c2, c3, c4, c5, c6, c7, c8, c9⟩ := ino_cells hcy
          have HY := hide (flatP_ptr hy hg5)
          have ht1 : ((j : Nat) : Int).toNat = j := by omega
          clear hcy hy hwf' hwf
          have hi1 : IntKind.i64.wrap (((i : Nat) : Int) + 1 - 1) = (i : Int) := by rw [show ((i : Nat) : Int) + 1 - 1 = i from by omega]; exact IntWalk.i64_in _ (by omega)
          by_cases hq : 5 * j + g < 5 * i + kk
          · by_cases heq : ptr y g = p
            · have HRES : Hid (validS l m ((i : Int) + 1) kk = false) := hide (validS_hit HX.out hk5 hq (by rw [HY.out, heq, HP.out]))
              have hbeq : (ptr y g == p) = true := by simpa using heq
              obtain ⟨pv, hpv⟩ : ∃ pv, ptr y g = pv := ⟨_, rfl⟩
              rw [hpv] at hbeq
              have HPV := hide hpv
              clear hpv heq
              by_cases hji : j < i
              · go_wp2_with ((go_at_call 18; refine (rpointer_any y hg5 _).mono ?_; rintro e w2 ⟨rfl, hb2⟩; rw [HPV.out]))
                go_ret
                exact VRet.eq (congrArg Value.bool HRES.out.symm) (below_step hbr2 hb2)
              · have hgk : g < kk := by omega
                go_wp2_with ((go_at_call 18; refine (rpointer_any y hg5 _).mono ?_; rintro e w2 ⟨rfl, hb2⟩; rw [HPV.out]))
                go_ret
                exact VRet.eq (congrArg Value.bool HRES.out.symm) (below_step hbr2 hb2)
            · have hbeq : (ptr y g == p) = false := by simpa using heq
              obtain ⟨pv, hpv⟩ : ∃ pv, ptr y g = pv := ⟨_, rfl⟩
              rw [hpv] at hbeq
              have HNE : Hid (¬ ptr y g = p) := hide heq
              have HPV := hide hpv
              clear hpv heq
              by_cases hji : j < i
              · go_wp2_with ((go_at_call 18; refine (rpointer_any y hg5 _).mono ?_; rintro e w2 ⟨rfl, hb2⟩; rw [HPV.out]))
                go_roundw
                case rel => exact ⟨g + 1, by omega, by go_num, hide (fun q h1 h2 => by
                  by_cases e : q = 5 * j + g
                  · subst e; rw [HY.out]; intro e2; exact HNE.out (Option.some.inj e2)
                  · exact HN2.out q (by omega) h2), below_step hbr2 hb2⟩
                case measure => simp [intOf]; omega
              · have hgk : g < kk := by omega
                go_wp2_with ((go_at_call 18; refine (rpointer_any y hg5 _).mono ?_; rintro e w2 ⟨rfl, hb2⟩; rw [HPV.out]))
                go_roundw
                case rel => exact ⟨g + 1, by omega, by go_num, hide (fun q h1 h2 => by
                  by_cases e : q = 5 * j + g
                  · subst e; rw [HY.out]; intro e2; exact HNE.out (Option.some.inj e2)
                  · exact HN2.out q (by omega) h2), below_step hbr2 hb2⟩
                case measure => simp [intOf]; omega
          · have hji : ¬ j < i := by omega
            have hgk : ¬ g < kk := by omega
            have hd1 : decide (j < i) = false := by simpa using hji
            have hd2 : decide (g < kk) = false := by simpa using hgk
            go_wp2
            go_roundw
            case rel => exact ⟨g + 1, by omega, by go_num, hide (fun q h1 h2 => HN2.out q (by omega) h2), hbr2⟩
            case measure => simp [intOf]; omega
        · obtain rfl : g = 5 := by omega
          go_wp2
          go_roundw
          case rel => exact ⟨j + 1, by omega, by go_num, fun q h1 h2 => HN2.out q (by omega) h2, hbr2⟩
          case measure => simp [intOf]; omega
    · obtain rfl : j = i + 1 := by omega
      have hres : validS l m ((i : Int) + 1) kk = true := validS_good HX.out hk5 (by rw [HP.out]; omega) (by rw [HP.out]; omega) (fun q hq => by rw [HP.out]; exact hno q (by omega) hq)
      have HRES := hide hres
      clear hno hres
      go_wp2
      go_ret
      exact VRet.eq (congrArg Value.bool HRES.out.symm) hbr
end Go.Proofs.Ytnllbdigpnopoaa
