/- claim: the reference's Bad (layer 11). -/
import Derived.Test.YtnllbdigpnopoaaClaE
namespace Go.Proofs.Ytnllbdigpnopoaa
open Go.RowKit Go.Shelf Plain

theorem badQ_skip {l : List InoV} {m : Int} {i k : Nat} {x : InoV} (hx : l[i]? = some x) (hk : k < 5) (h : ptr x k = 0 ∨ validS l m (((i : Nat) : Int) + 1) k = true) : badQ (flatP l) m (5 * i + k + 1) = badQ (flatP l) m (5 * i + k) := by
  have hi := (List.getElem?_eq_some_iff.1 hx).1
  rw [validS_in hi hk] at h
  rw [badQ_succ, if_neg]
  rw [List.getD_eq_getElem?_getD, flatP_ptr hx hk]
  rcases h with h | h
  · simp [h]
  · simp [h]
theorem badQ_more {l : List InoV} {m : Int} {i k : Nat} {x : InoV} (hx : l[i]? = some x) (hk : k < 5) (h0 : ptr x k ≠ 0) (h : validS l m (((i : Nat) : Int) + 1) k = false) : badQ (flatP l) m (5 * i + k + 1) = badQ (flatP l) m (5 * i + k) ++ [5 * i + k] := by
  have hi := (List.getElem?_eq_some_iff.1 hx).1
  rw [validS_in hi hk] at h
  rw [badQ_succ, if_pos]
  rw [List.getD_eq_getElem?_getD, flatP_ptr hx hk]
  simp [h, h0]
set_option maxRecDepth 100000 in
set_option maxHeartbeats 1000000 in
theorem RBad_any {A : Option Addr} {n c : Nat} {l : List InoV} {m : Int} (w : World) (h : RdE inoEn w (Under w.heap.size) A n l) (hn : n ≤ 100) : Calls Try.prog 13 #[.slice A n c, .int .i64 m] w (PairRet w (badQ (flatP l) m (5 * n))) := by
  have HLEN := hide h.len
  have H := hide h
  clear h
  go_enter Try.func13, Try.ntmps13
  go_wp2
  go_loopw [5, 6] (fun v u wr => ∃ (j : Nat) (A1 : Option Addr) (n1 c1 : Nat), j ≤ n ∧ u = .int .i64 j ∧ v = .slice A1 n1 c1 ∧ wr.ownsRow w.heap.size 30 2 (.slice A1 n1 c1) n1 (flatB (badQ (flatP l) m (5 * j))) ∧ Below w.heap.size w wr) (fun _ u _ => n - (intOf u).toNat)
  case atStart => exact ⟨0, _, 0, 0, by omega, rfl, rfl, World.ownsRow_lit (base := w.heap.size) (size := 2) (e := 30) w #[] 0 (Nat.le_refl _) (by simp [maxLen]) (by simp), below_new (below_self w) _⟩
  case round =>
    obtain ⟨j, A1, n1, c1, hj, rfl, rfl, hown, hbr⟩ := hrel
    by_cases hlt : j < n
    · go_wp2
      go_loopw [5, 7] (fun v u wr => ∃ (g : Nat) (A1 : Option Addr) (n1 c1 : Nat), g ≤ 5 ∧ u = .int .i64 g ∧ v = .slice A1 n1 c1 ∧ wr.ownsRow w.heap.size 30 2 (.slice A1 n1 c1) n1 (flatB (badQ (flatP l) m (5 * j + g))) ∧ Below w.heap.size w wr) (fun _ u _ => 5 - (intOf u).toNat)
      case atStart => exact ⟨0, A1, n1, c1, by omega, rfl, rfl, hown, hbr⟩
      case round =>
        clear hown hbr
        obtain ⟨g, A2, n2, c2, hg, rfl, rfl, hown, hbr⟩ := hrel
        by_cases hg5 : g < 5
        · have hjl : j < l.length := by have := HLEN.out; omega
          have hy := List.getElem?_eq_getElem hjl
          generalize l[j] = y at hy
          have HY := hide hy
          obtain ⟨ba, oa, rfl, -, -, hcy⟩ := ino_at H.out hbr hy
          obtain ⟨q0, q1, q2, q3, q4, q5, q6, q7, q8, q9⟩ := ino_cells hcy
          have hjt : ((j : Nat) : Int).toNat = j := by omega
          have hlo : (0 : Int) ≤ (j : Int) + 1 := by omega
          clear hy hcy
          obtain ⟨pv, hpv⟩ : ∃ pv, ptr y g = pv := ⟨_, rfl⟩
          have HPV := hide hpv
          clear hpv
          by_cases hz : pv = 0
          · have HSK := hide (badQ_skip (m := m) HY.out hg5 (.inl (by rw [HPV.out]; exact hz)))
            subst hz
            go_wp2_with (go_at_call 18; refine (rpointer_any y hg5 _).mono ?_; rintro e w2 ⟨rfl, hb2⟩; rw [HPV.out])
            go_roundw
            case rel => exact ⟨g + 1, A2, n2, c2, by omega, by go_num, rfl, by rw [show 5 * j + (g + 1) = 5 * j + g + 1 from rfl, HSK.out]; exact ownsRow_below hown hb2, below_step hbr hb2⟩
            case measure => simp [intOf]; omega
          · have hz1 : (pv != 0) = true := by simpa using hz
            have hz2 : (pv == 0) = false := by simpa using hz
            cases hv : validS l m (((j : Nat) : Int) + 1) g with
            | true =>
              have HV := hide hv
              have HSK := hide (badQ_skip HY.out hg5 (.inr hv))
              clear hv hz
              go_wp2_with (first | (go_at_call 18; refine (rpointer_any y hg5 _).mono ?_; rintro e w2 ⟨rfl, hb2⟩; rw [HPV.out]) | (go_at_call 10; refine (RValid_any _ (H.out.on (below_step hbr hb2)) hn).mono ?_; rintro e w3 ⟨rfl, hb3⟩; rw [HV.out]))
              go_roundw
              case rel => exact ⟨g + 1, A2, n2, c2, by omega, by go_num, rfl, by rw [show 5 * j + (g + 1) = 5 * j + g + 1 from rfl, HSK.out]; exact ownsRow_below (ownsRow_below hown hb2) hb3, below_step (below_step hbr hb2) hb3⟩
              case measure => simp [intOf]; omega
            | false =>
              have HV := hide hv
              have HSK := hide (badQ_more HY.out hg5 (by rw [HPV.out]; exact hz) hv)
              have HN2 : Hid (n2 ≤ 1000) := hide (by
                have h1 := hown.1
                rw [flatB_len] at h1
                have := badQ_len (flatP l) m (5 * j + g)
                omega)
              have HPC := hide (pairC_at (i := j) hg5)
              clear hv hz
              go_wp2_with (first | (go_at_call 18; refine (rpointer_any y hg5 _).mono ?_; rintro e w2 ⟨rfl, hb2⟩; rw [HPV.out]) | (go_at_call 10; refine (RValid_any _ (H.out.on (below_step hbr hb2)) hn).mono ?_; rintro e w3 ⟨rfl, hb3⟩; rw [HV.out]) | (at_builtin; refine wpList_appP w3 w.heap.size rfl (.tmp 35) (.tmp 40) rfl A2 n2 c2 (badQ (flatP l) m (5 * j + g)) (5 * j + g) _ HPC.out rfl (ownsRow_below (ownsRow_below hown hb2) hb3) rfl HN2.out (by have := (below_step (below_step hbr hb2) hb3).size; omega) ?_; intro A5 c5 W5 ho5 hg5'; have HO5 := hide ho5; have HG5 := hide hg5'; clear ho5 hg5'))
              have hb4 := below_step (below_step hbr hb2) hb3
              go_roundw
              case rel => exact ⟨g + 1, A5, n2 + 1, c5, by omega, by go_num, rfl, by rw [show 5 * j + (g + 1) = 5 * j + g + 1 from rfl, HSK.out]; exact HO5.out, (hb4.alloc hb4.size _).grown HG5.out (by have := hb4.size; simp; omega) (fun k hk => (own_block hown k hk).1)⟩
              case measure => simp [intOf]; omega
        · obtain rfl : g = 5 := by omega
          go_wp2
          go_roundw
          case rel => exact ⟨j + 1, A2, n2, c2, by omega, by go_num, rfl, hown, hbr⟩
          case measure => simp [intOf]; omega
    · obtain rfl : j = n := by omega
      go_wp2
      go_ret
      exact ⟨_, _, _, rfl, hown, hbr⟩
end Go.Proofs.Ytnllbdigpnopoaa
