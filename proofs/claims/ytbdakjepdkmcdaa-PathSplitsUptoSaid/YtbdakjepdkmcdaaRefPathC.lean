/- The contract of the reference's Split (layer 4). -/
import Derived.Test.YtbdakjepdkmcdaaRefPathB
namespace Go.Proofs.Ytbdakjepdkmcdaa
open Go.RowKit Plain

/-- It returns a row of its own with the texts, and a bool; nothing that was there has turned. -/
def LRet (w : World) (e : Nat) (l : List (List UInt8)) (b : Bool) (x : Ending) (w' : World) : Prop :=
  ∃ A n c, x = .returned (.tuple #[.slice A n c, .bool b]) ∧ Ow st w' w.heap.size e A n c l ∧ Below w.heap.size w w'
theorem LRet.nil {w w' : World} {e : Nat} {b : Bool} (h : Below w.heap.size w w') : LRet w e [] b (.returned (.tuple #[.slice none 0 0, .bool b])) w' := ⟨none, 0, 0, rfl, Ow.nil_ _ _ _ _, h⟩

set_option maxHeartbeats 800000 in
theorem RSplit_one (w : World) : Calls Try.prog 23 #[st [47]] w (LRet w 9 [] true) := by
  show Calls _ _ #[.string ⟨#[47]⟩] _ _
  go_enter Try.func23, Try.ntmps23
  go_wp2
  go_ret2
  exact LRet.nil (below_self w)

set_option maxHeartbeats 800000 in
theorem RSplit_no {s : List UInt8} (w : World) (h1 : s ≠ [47]) (h : headB s = false) : Calls Try.prog 23 #[st s] w (LRet w 9 [] false) := by
  show Calls _ _ #[.string ⟨s.toArray⟩] _ _
  have hb : (s == [47]) = false := by simpa using h1
  cases s with
  | nil =>
    clear h h1
    go_enter Try.func23, Try.ntmps23
    go_wp2
    go_ret2
    exact LRet.nil (below_self w)
  | cons c r =>
    have hc : c ≠ 47 := by simpa [headB] using h
    have hj : 0 < ByteArray.size ⟨(c :: r).toArray⟩ := by simp [ByteArray.size]
    have hbj : (⟨(c :: r).toArray⟩ : ByteArray)[0]'hj = c := rfl
    have htest : ((c.toNat : Int) != 47) = true := by
      simp only [bne_iff_ne, ne_eq]
      intro e
      apply hc
      apply UInt8.toNat_inj.1
      have : c.toNat = 47 := by omega
      rw [this]
      rfl
    clear h h1 hc
    go_enter Try.func23, Try.ntmps23
    go_wp2
    go_ret2
    exact LRet.nil (below_self w)

theorem headB_get {s : List UInt8} (h : headB s = true) : ∃ hj : 0 < ByteArray.size ⟨s.toArray⟩, (⟨s.toArray⟩ : ByteArray)[0]'hj = 47 := by
  cases s with
  | nil => simp [headB] at h
  | cons c r =>
    have hc : c = 47 := by simpa [headB] using h
    exact ⟨by simp [ByteArray.size], hc⟩
theorem lall_take_succ {l : List (List UInt8)} {p : List UInt8 → Bool} {k : Nat} (h : k < l.length) : (l.take (k + 1)).all p = ((l.take k).all p && p l[k]) := by
  rw [List.take_succ_eq_append_getElem h, List.all_append]
  simp
theorem lall_false {l : List (List UInt8)} {p : List UInt8 → Bool} {k : Nat} (h : k < l.length) (hp : p l[k] = false) : l.all p = false := by
  rw [List.all_eq_false]
  exact ⟨l[k], List.getElem_mem h, by simp [hp]⟩

/-- The texts, or none. -/
def orNil (b : Bool) (l : List (List UInt8)) : List (List UInt8) := if b = true then l else []

set_option maxHeartbeats 1600000 in
theorem RSplit_in {s : List UInt8} (w : World) (hm : s.length ≤ 1000000) (h1 : s ≠ [47]) (h : headB s = true) :
    Calls Try.prog 23 #[st s] w (LRet w 9 (orNil ((partsS s).all nameB) (partsS s)) ((partsS s).all nameB)) := by
  show Calls _ _ #[.string ⟨s.toArray⟩] _ _
  obtain ⟨r, hr⟩ : ∃ r, (partsS s).all nameB = r := ⟨_, rfl⟩
  rw [hr]
  have HR := hide hr
  have hb : (s == [47]) = false := by simpa using h1
  obtain ⟨hj, hbj⟩ := headB_get h
  have hl0 : 0 < s.length := by cases s with | nil => simp [headB] at h | cons c r => simp
  have hl1 : ((s.length : Int) == 0) = false := by rw [beq_eq_false_iff_ne]; omega
  obtain ⟨hpl1, hpl2⟩ := partsS_len s
  have HPL := hide hpl2
  clear hr h1 h hpl2
  have HJ1 := hide hpl1
  clear hpl1
  go_enter Try.func23, Try.ntmps23
  go_wp2_with fail
  have hpl1 := HJ1.out
  refine (Rparts_any _ hm).mono ?_
  rintro e w1 ⟨A1, c1, rfl, hown, hbel⟩
  obtain ⟨P, hP⟩ : ∃ P, partsS s = P := ⟨_, rfl⟩
  rw [hP] at hown hpl1
  have HO := hide hown
  have HB := hide hbel
  have HP := hide hP
  rw [hP]
  clear hown hbel hP hb hbj hl1
  go_wp2_with fail
  go_loop [5] (fun i => ∃ k : Nat, k ≤ P.length ∧ i = .int .i64 k ∧ ((P.take k).all nameB) = true) (fun i => P.length - (intOf i).toNat)
  case atStart => exact ⟨0, Nat.zero_le _, rfl, rfl⟩
  case round =>
    obtain ⟨k, hk, rfl, hall⟩ := hrel
    have HALL := hide hall
    clear hall
    by_cases hlt : k < P.length
    · obtain ⟨g, rfl, hg, hgl, hcg, hfz⟩ := HO.out.at_ (by omega)
      obtain ⟨x, hx⟩ : ∃ x, x = P[k] := ⟨_, rfl⟩
      have hcell := hcg k x (by rw [hx]; exact List.getElem?_eq_getElem hlt)
      have hxl : x.length ≤ s.length := HPL.out x (by rw [HP.out, hx]; exact List.getElem_mem hlt)
      have HX := hide hx
      clear hcg hfz hx
      cases hb2 : nameB x with
      | true =>
        have HB2 := hide hb2
        clear hb2
        unfold st at hcell
        go_wp2_with fail
        refine (RNRight_b HB2.out _ (by omega)).mono ?_
        rintro e w' ⟨rfl, rfl⟩
        go_wp2_with fail
        go_round
        case rel => exact ⟨k + 1, by omega, by go_num, by rw [lall_take_succ hlt, HALL.out, ← HX.out, HB2.out]; rfl⟩
        case measure => simp [intOf]; omega
      | false =>
        have hrf : r = false := by rw [← HR.out, HP.out]; exact lall_false hlt (by rw [← HX.out]; exact hb2)
        have HRF := hide hrf
        have HB2 := hide hb2
        clear hb2 hrf
        unfold st at hcell
        go_wp2_with fail
        refine (RNRight_b HB2.out _ (by omega)).mono ?_
        rintro e w' ⟨rfl, rfl⟩
        go_wp2_with fail
        go_ret2
        rw [HRF.out]
        exact LRet.nil HB.out
    · have hrt : r = true := by
        rw [← HR.out, HP.out]
        have := HALL.out
        rwa [List.take_of_length_le (by omega)] at this
      have HRT := hide hrt
      clear hrt
      go_wp2
      go_ret2
      have ho := HO.out
      rw [HRT.out]
      exact ⟨_, _, _, rfl, by rw [show orNil true (partsS s) = P from HP.out]; exact ho, HB.out⟩

theorem RSplit_any {s : List UInt8} (w : World) (hm : s.length ≤ 1000000) : Calls Try.prog 23 #[st s] w (LRet w 9 (splitS s) (splitB s)) := by
  by_cases h1 : s = [47]
  · subst h1
    rw [show splitS [47] = [] from rfl, show splitB [47] = true from rfl]
    exact RSplit_one w
  cases h : headB s with
  | false =>
    rw [show splitS s = [] from by simp [splitS, h1, h], show splitB s = false from by simp [splitB, h1, h]]
    exact RSplit_no w h1 h
  | true =>
    rw [show splitS s = orNil ((partsS s).all nameB) (partsS s) from by unfold splitS; rw [if_neg h1, h]; rfl, show splitB s = (partsS s).all nameB from by unfold splitB; rw [h, show (s == [47]) = false from by simpa using h1]; rfl]
    exact RSplit_in w hm h1 h
end Go.Proofs.Ytbdakjepdkmcdaa
