/- claim: Valid (layer 11). -/
import Derived.Test.YtnllbdigpnopoaaClaG
namespace Go.Proofs.Ytnllbdigpnopoaa
open Go.RowKit Go.Shelf Plain

/-- One less, in 64 bits. -/
def dn1 (b : Int) : Int := if b = -9223372036854775808 then 9223372036854775807 else b - 1
theorem wrap_dn1 {b : Int} (h : w64 b) : IntKind.i64.wrap (b - 1) = dn1 b := by
  unfold dn1
  unfold w64 at h
  split
  · rename_i e; subst e; decide
  · exact IntWalk.i64_in _ (by omega)
theorem dn1_wf {b : Int} (h : w64 b) : w64 (dn1 b) := by
  unfold dn1
  unfold w64 at h ⊢
  split <;> omega
theorem valid_own {l : List InoV} {m : Int} {i k : Nat} {x : InoV} (hx : l[i]? = some x) (hk : k < 5) (hm : w64 m) {r : Option Nat} (hr : ownQ (flatP l) m (dn1 (ptr x k)) = r) :
    validS l m (((i : Nat) : Int) + 1) k = (r.isSome && ((ownI r == ((i : Nat) : Int) + 1) && (ownK r == (k : Int)))) := by
  have hi := (List.getElem?_eq_some_iff.1 hx).1
  have hp := flatP_ptr hx hk
  rw [validS_in hi hk, Bool.eq_iff_iff, cntQ_own hp]
  unfold w64 at hm
  by_cases hmin : ptr x k = -9223372036854775808
  · have h1 : r = none := by
      rw [← hr]
      unfold dn1
      rw [if_pos hmin]
      exact own_early (.inr (by omega))
    subst h1
    constructor
    · intro h; have := (ownQ_some.1 h).1; omega
    · intro h; simp at h
  · have h1 : dn1 (ptr x k) = ptr x k - 1 := by unfold dn1; rw [if_neg hmin]
    rw [h1] at hr
    rw [hr]
    constructor
    · intro h
      subst h
      have := q_parts (i := i) hk
      simp only [ownI, ownK, this.1, this.2, Option.isSome, Bool.and_eq_true, beq_iff_eq, true_and]
      exact ⟨by push_cast; rfl, trivial⟩
    · intro h
      cases r with
      | none => simp at h
      | some q =>
        simp only [ownI, ownK, Option.isSome, Bool.and_eq_true, beq_iff_eq, true_and] at h
        congr 1
        omega
set_option maxRecDepth 100000 in
set_option maxHeartbeats 1000000 in
theorem Valid_any {A : Option Addr} {n c : Nat} {l : List InoV} {m ino k : Int} (w : World) (h : RdE inoEn w (Under w.heap.size) A n l) (hn : n ≤ 100) (hm : w64 m) : Calls Try.prog 9 #[.slice A n c, .int .i64 m, .int .i64 ino, .int .i64 k] w (VRet w (.bool (validS l m ino k))) := by
  have hlen := h.len
  by_cases h1 : ino < 1
  · rw [validS_no (by omega)]
    go_enter Try.func9, Try.ntmps9
    go_wp2
    go_ret
    exact VRet.of (below_self w)
  have d1 : decide (ino < 1) = false := by simpa using h1
  by_cases h2 : (n : Int) < ino
  · rw [validS_no (by omega)]
    go_enter Try.func9, Try.ntmps9
    go_wp2
    go_ret
    exact VRet.of (below_self w)
  have d2 : decide ((n : Int) < ino) = false := by simpa using h2
  by_cases h3 : k < 0
  · rw [validS_no (by omega)]
    go_enter Try.func9, Try.ntmps9
    go_wp2
    go_ret
    exact VRet.of (below_self w)
  have d3 : decide (k < 0) = false := by simpa using h3
  by_cases h4 : 4 < k
  · rw [validS_no (by omega)]
    go_enter Try.func9, Try.ntmps9
    go_wp2
    go_ret
    exact VRet.of (below_self w)
  have d4 : decide (4 < k) = false := by simpa using h4
  obtain ⟨i, hi⟩ : ∃ i : Nat, ino = (i : Int) + 1 := ⟨(ino - 1).toNat, by omega⟩
  obtain ⟨kk, hkk⟩ : ∃ kk : Nat, k = (kk : Int) := ⟨k.toNat, by omega⟩
  subst hi hkk
  have hil : i < l.length := by omega
  have hk5 : kk < 5 := by omega
  have hx := List.getElem?_eq_getElem hil
  generalize l[i] = x at hx
  obtain ⟨b, o, rfl, -, hwf, hc⟩ := ino_at h (below_self w) hx
  have HC := hide hc
  have H := hide h
  have hbd := ptr_wf hwf hk5
  have HDW := hide (dn1_wf hbd)
  have HM := hide hm
  have hi1 : IntKind.i64.wrap (((i : Nat) : Int) + 1 - 1) = (i : Int) := by rw [show ((i : Nat) : Int) + 1 - 1 = i from by omega]; exact IntWalk.i64_in _ (by omega)
  have ht1 : ((i : Nat) : Int).toNat = i := by omega
  obtain ⟨r, hr⟩ : ∃ r, ownQ (flatP l) m (dn1 (ptr x kk)) = r := ⟨_, rfl⟩
  rw [valid_own hx hk5 hm hr]
  obtain ⟨pv, hpv⟩ : ∃ pv, ptr x kk = pv := ⟨_, rfl⟩
  have hw1 := wrap_dn1 hbd
  rw [hpv] at hr HDW hw1
  obtain ⟨dv, hdv⟩ : ∃ dv, dn1 pv = dv := ⟨_, rfl⟩
  rw [hdv] at hr HDW hw1
  have HPV := hide hpv
  have HR := hide hr
  obtain ⟨oi, hoi⟩ : ∃ oi, ownI r = oi := ⟨_, rfl⟩
  obtain ⟨ok, hok⟩ : ∃ ok, ownK r = ok := ⟨_, rfl⟩
  obtain ⟨os, hos⟩ : ∃ os, r.isSome = os := ⟨_, rfl⟩
  rw [hoi, hok, hos]
  have HO : Hid (ownV r = .tuple #[.int .i64 oi, .int .i64 ok, .bool os]) := hide (by unfold ownV; rw [hoi, hok, hos])
  have hib : (i : Int) ≤ 100 := by omega
  have hi0 : (0 : Int) ≤ i := by omega
  have hin : i < n := by omega
  clear hc h hx hlen hm hbd hpv hdv hr hoi hok hos hwf h1 h2 h3 h4 hil
  cases e1 : (oi == (i : Int) + 1) <;> cases e2 : (ok == (kk : Int)) <;> cases os
  all_goals
    go_enter Try.func9, Try.ntmps9
    go_wp2_with (first | (refine wpList_loadX rfl 39 (.tmp 34) rfl 10 ino_agg ino_size b (o + i * 10) rfl (inoC x) HC.out rfl ?_) | (go_at_call 19; refine (pointer_any x hk5 _).mono ?_; rintro e w1 ⟨rfl, hb1⟩; rw [HPV.out]) | (go_at_call 7; refine (Owner_any _ (H.out.on hb1) hn HM.out HDW.out).mono ?_; rintro e w2 ⟨rfl, hb2⟩; rw [HR.out, HO.out]))
    go_ret
    exact VRet.of (below_step hb1 hb2)
end Go.Proofs.Ytnllbdigpnopoaa
