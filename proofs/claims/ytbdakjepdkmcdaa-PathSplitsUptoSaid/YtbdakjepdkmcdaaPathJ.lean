/- Contracts of the program's path.Join, Split, Clean, Redirect, Begins. -/
import Derived.Test.YtbdakjepdkmcdaaPathN
import Derived.Test.YtbdakjepdkmcdaaLibStr
import Derived.Test.YtbdakjepdkmcdaaRefNameC
import Derived.Test.YtbdakjepdkmcdaaRefPathA
import Derived.Test.YtbdakjepdkmcdaaRefPathE
import Derived.Lib.Join
namespace Go.Proofs.Ytbdakjepdkmcdaa
open Go.RowKit Plain

theorem joinS_lib (l : List (List UInt8)) : joinS l = 47 :: Lib.join l [47] := by
  induction l using snoc_ind with
  | h0 => rfl
  | h1 l x ih =>
    rw [joinS_snoc, ih]
    by_cases hl : l = []
    · subst hl
      simp [Lib.join, List.intercalate]
    · rw [if_neg (by intro e; exact hl (List.eq_nil_of_length_eq_zero e))]
      obtain ⟨y, r, rfl⟩ : ∃ y r, l = y :: r := by cases l with | nil => exact absurd rfl hl | cons y r => exact ⟨y, r, rfl⟩
      rw [Lib.join_cons, show (y :: r) ++ [x] = y :: (r ++ [x]) from rfl, Lib.join_cons]
      simp [Lib.joinTail]

set_option maxHeartbeats 400000 in
theorem PJoin_any {A : Option Addr} {m c : Nat} {l : List (List UInt8)} (w : World) (ha : Rd st w w.heap.size A m l) (hm : m ≤ 1000000) (hmc : m ≤ c) (ht : totL l ≤ 140737488355327) :
    Calls Try.prog 24 #[.slice A m c] w fun e w' => e = .returned (st (joinS l)) ∧ Below w.heap.size w w' := by
  have hjl := joinS_length l
  rw [joinS_lib, List.length_cons] at hjl
  have hcon : ∀ w : World, Rd st w w.heap.size A m l → Calls Try.prog 42 #[.slice A m c, .string ⟨#[47]⟩] w fun e w' => e = .returned (.string ⟨(Lib.join l [47]).toArray⟩) ∧ Below w.heap.size w w' := by
    intro w ha
    by_cases h0 : m = 0
    · subst h0
      obtain rfl : l = [] := List.eq_nil_of_length_eq_zero ha.len
      refine (Try.strings_Join_none A c ⟨#[47]⟩ w).mono ?_
      rintro e w' ⟨rfl, rfl⟩
      exact ⟨rfl, below_self _⟩
    · obtain ⟨b, o, rfl, hb, hc⟩ := ha.2 (by omega)
      have hl := ha.len
      have e1 : (l.map fun x => (⟨x.toArray⟩ : ByteArray)).map (·.data.toList) = l := by rw [List.map_map]; exact List.map_id l
      have hlen : (l.map fun x => (⟨x.toArray⟩ : ByteArray)).length = m := by simp [hl]
      have h := Try.strings_Join b o c (l.map fun x => ⟨x.toArray⟩) ⟨#[47]⟩ w (fun j x hx => by
        rw [List.getElem?_map, Option.map_eq_some_iff] at hx
        obtain ⟨y, hy, rfl⟩ := hx
        exact hc j y hy) hb (by omega) (by omega) (by rw [e1]; show (Lib.join l [47]).length ≤ _; omega)
      rw [e1, hlen] at h
      exact h
  have HC := hide hcon
  have HA := hide ha
  have hadd := fun W => add_lists (P := Try.prog) (x := [47]) (y := Lib.join l [47]) (z := joinS l) (by simp; omega) (by rw [joinS_lib]; rfl) W
  clear hcon ha hjl
  go_enter Try.func24, Try.ntmps24
  go_wp2_with fail
  refine (HC.out _ HA.out).mono ?_
  rintro e w1 ⟨rfl, hbel⟩
  have HB := hide hbel
  clear hbel
  go_wp2_with fail
  go_ret
  exact ⟨rfl, HB.out⟩
/-- What names answers joins to what is clean. -/
theorem names_clean {s : List UInt8} (h : cleanB s = true) : joinS (namesL s) = cleanS s ∧ (namesL s).all nameB = true ∧ (namesL s).length ≤ 1 + s.length ∧ totL (namesL s) ≤ (1 + s.length) * (s.length + 1) := by
  unfold cleanB at h
  rw [Bool.and_eq_true, Option.isSome_iff_exists] at h
  obtain ⟨hh, o, ho⟩ := h
  have e1 : namesL s = o := by simp [namesL, hh, ho]
  have e2 : cleanS s = joinS o := by unfold cleanS; rw [if_pos hh, ho]
  have hp := partsS_len s
  have hl := leftS_len _ _ ho
  have ht := totL_le hp.2
  have hm : (partsS s).length * (s.length + 1) ≤ (1 + s.length) * (s.length + 1) := Nat.mul_le_mul_right _ hp.1
  rw [e1, e2]
  exact ⟨rfl, left_all ho, by omega, by omega⟩
theorem split_iff (s : List UInt8) : splitB s = (cleanB s && (joinS (namesL s) == s)) ∧ splitS s = if splitB s = true then namesL s else [] := by
  cases hc : cleanB s with
  | false =>
    have hs : splitB s = false := by
      cases h : splitB s with
      | false => rfl
      | true => rw [(split_back h).2.1] at hc; cases hc
    refine ⟨by rw [hs]; rfl, ?_⟩
    rw [hs]
    unfold splitB at hs
    rw [Bool.or_eq_false_iff] at hs
    unfold splitS
    rw [if_neg (by simpa using hs.1), hs.2]
    rfl
  | true =>
    obtain ⟨hj, ha, _, _⟩ := names_clean hc
    by_cases he : joinS (namesL s) = s
    · obtain ⟨h1, h2⟩ := split_join ha
      rw [he] at h1 h2
      refine ⟨by rw [h1, he]; simp, by rw [h1, if_pos rfl, h2]⟩
    · have hs : splitB s = false := by
        cases h : splitB s with
        | false => rfl
        | true => rw [hj] at he; exact absurd (split_back h).2.2 he
      have he2 : (joinS (namesL s) == s) = false := by simpa using he
      refine ⟨by rw [hs, he2]; rfl, ?_⟩
      rw [hs]
      unfold splitB at hs
      rw [Bool.or_eq_false_iff] at hs
      unfold splitS
      rw [if_neg (by simpa using hs.1), hs.2]
      rfl

theorem mul_small {n : Nat} (h : n ≤ 100000) : (1 + n) * (n + 1) ≤ 10000200001 := by
  have : (1 + n) * (n + 1) ≤ 100001 * 100001 := Nat.mul_le_mul (by omega) (by omega)
  omega

set_option maxHeartbeats 800000 in
theorem PSplit_any {s : List UInt8} (w : World) (hs : s.length ≤ 100000) : Calls Try.prog 22 #[st s] w (LRet w 9 (splitS s) (splitB s)) := by
  unfold st
  obtain ⟨q1, q2⟩ := split_iff s
  rw [q2]
  cases hc : cleanB s with
  | false =>
    rw [hc] at q1
    have hb : splitB s = false := q1
    rw [hb]
    have HC := hide hc
    clear q1 q2 hb hc
    go_enter Try.func22, Try.ntmps22
    go_wp2_with fail
    refine (names_any _ (by omega)).mono ?_
    rw [HC.out]
    rintro e w1 ⟨A1, n1, c1, rfl, hown, hbel⟩
    have HB := hide hbel
    clear hown hbel
    go_wp2_with fail
    go_ret2
    exact LRet.nil HB.out
  | true =>
    obtain ⟨_, _, hn, ht⟩ := names_clean hc
    have hms := mul_small hs
    rw [hc, Bool.true_and] at q1
    rw [q1]
    obtain ⟨l, hl⟩ : ∃ l, namesL s = l := ⟨_, rfl⟩
    rw [hl] at hn ht ⊢
    obtain ⟨j, hj⟩ : ∃ j, joinS l = j := ⟨_, rfl⟩
    rw [hj]
    have HC := hide hc
    have HL := hide hl
    have HJ := hide hj
    have HN := hide hn
    have HT := hide (Nat.le_trans ht hms)
    clear hc hl hj hn ht q1 q2 hms
    by_cases hjs : j = s
    · have d1 : (j != s) = false := by simp [hjs]
      have d2 : (j == s) = true := by simp [hjs]
      rw [d2]
      clear hjs
      go_enter Try.func22, Try.ntmps22
      go_wp2_with fail
      refine (names_any _ (by omega)).mono ?_
      rw [HC.out, HL.out]
      rintro e w1 ⟨A1, n1, c1, rfl, hown, hbel⟩
      have HO := hide hown
      have HB := hide hbel
      have hnn := hown.len
      have hcap := hown.cap
      have HNN := hide hnn
      clear hown hbel hnn
      go_wp2_with fail
      refine (PJoin_any _ HO.out.rd (by have := HN.out; have := HNN.out; omega) hcap (by have := HT.out; omega)).mono ?_
      rw [HJ.out]
      unfold st
      rintro e w2 ⟨rfl, hbel⟩
      have HB2 := hide (below_step HB.out hbel)
      have HO2 := hide (HO.out.below hbel)
      clear hbel
      go_wp2_with fail
      go_ret2
      exact ⟨_, _, _, rfl, HO2.out, HB2.out⟩
    · have d1 : (j != s) = true := by simpa using hjs
      have d2 : (j == s) = false := by simpa using hjs
      rw [d2]
      have d3 : ¬ j = s := hjs
      clear hjs
      go_enter Try.func22, Try.ntmps22
      go_wp2_with fail
      refine (names_any _ (by omega)).mono ?_
      rw [HC.out, HL.out]
      rintro e w1 ⟨A1, n1, c1, rfl, hown, hbel⟩
      have HO := hide hown
      have HB := hide hbel
      have hnn := hown.len
      have hcap := hown.cap
      have HNN := hide hnn
      clear hown hbel hnn
      go_wp2_with fail
      refine (PJoin_any _ HO.out.rd (by have := HN.out; have := HNN.out; omega) hcap (by have := HT.out; omega)).mono ?_
      rw [HJ.out]
      unfold st
      rintro e w2 ⟨rfl, hbel⟩
      have HB2 := hide (below_step HB.out hbel)
      clear hbel
      go_wp2_with fail
      go_ret2
      exact LRet.nil HB2.out

set_option maxHeartbeats 800000 in
theorem PClean_any {s : List UInt8} (w : World) (hs : s.length ≤ 100000) : Calls Try.prog 28 #[st s] w (StRet w (cleanS s) (cleanB s)) := by
  unfold st
  cases hc : cleanB s with
  | false =>
    rw [clean_none hc]
    have HC := hide hc
    clear hc
    go_enter Try.func28, Try.ntmps28
    go_wp2_with fail
    refine (names_any _ (by omega)).mono ?_
    rw [HC.out]
    rintro e w1 ⟨A1, n1, c1, rfl, hown, hbel⟩
    have HB := hide hbel
    clear hown hbel
    go_wp2_with fail
    go_ret2
    exact StRet.of HB.out
  | true =>
    obtain ⟨hj, _, hn, ht⟩ := names_clean hc
    have hms := mul_small hs
    obtain ⟨l, hl⟩ : ∃ l, namesL s = l := ⟨_, rfl⟩
    obtain ⟨j, hje⟩ : ∃ j, cleanS s = j := ⟨_, rfl⟩
    rw [hl] at hn ht hj
    rw [hje] at hj ⊢
    have HC := hide hc
    have HL := hide hl
    have HJ := hide hj
    have HN := hide hn
    have HT := hide (Nat.le_trans ht hms)
    clear hc hl hj hje hn ht hms
    go_enter Try.func28, Try.ntmps28
    go_wp2_with fail
    refine (names_any _ (by omega)).mono ?_
    rw [HC.out, HL.out]
    rintro e w1 ⟨A1, n1, c1, rfl, hown, hbel⟩
    have HO := hide hown
    have HB := hide hbel
    have hnn := hown.len
    have hcap := hown.cap
    have HNN := hide hnn
    clear hown hbel hnn
    go_wp2_with fail
    refine (PJoin_any _ HO.out.rd (by have := HN.out; have := HNN.out; omega) hcap (by have := HT.out; omega)).mono ?_
    rw [HJ.out]
    unfold st
    rintro e w2 ⟨rfl, hbel⟩
    have HB2 := hide (below_step HB.out hbel)
    clear hbel
    go_wp2_with fail
    go_ret2
    exact StRet.of HB2.out
end Go.Proofs.Ytbdakjepdkmcdaa
