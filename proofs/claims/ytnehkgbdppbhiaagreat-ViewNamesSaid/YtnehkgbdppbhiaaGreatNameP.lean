/- The plain mathematics of names (layer 3): which bytes may stand in a name, which texts are names, a name's 14 bytes. Nothing here speaks of a program. -/
import Derived.Test.YtnehkgbdppbhiaaGreatPlain
import Derived.Test.YtnehkgbdppbhiaaGreatMem
namespace Go.Proofs.YtnehkgbdppbhiaaGreat.Plain
/-- May the byte stand in a name? -/
def letB (x : Nat) : Bool := decide ((97 ≤ x ∧ x ≤ 122) ∨ (48 ≤ x ∧ x ≤ 57) ∨ x = 46 ∨ x = 95 ∨ x = 45)
/-- May the text be a name? -/
def nameB (l : List UInt8) : Bool := (decide (1 ≤ l.length ∧ l.length ≤ 12) && (!(l == [46]) && !(l == [46, 46]))) && l.all fun x => letB x.toNat
theorem all_take_succ {l : List UInt8} {p : UInt8 → Bool} {k : Nat} (h : k < l.length) : (l.take (k + 1)).all p = ((l.take k).all p && p l[k]) := by
  rw [List.take_succ_eq_append_getElem h, List.all_append]
  simp
theorem all_false {l : List UInt8} {p : UInt8 → Bool} {k : Nat} (h : k < l.length) (hp : p l[k] = false) : l.all p = false := by
  rw [List.all_eq_false]
  exact ⟨l[k], List.getElem_mem h, by simp [hp]⟩
theorem nameB_len {l : List UInt8} (h : nameB l = true) : 1 ≤ l.length ∧ l.length ≤ 12 := by
  simp only [nameB, Bool.and_eq_true, decide_eq_true_eq] at h
  exact h.1.1
/-- A name's 14 bytes: how many it has, these, and bytes 0; nothing of what is no name. -/
def packS (l : List UInt8) : List UInt8 := if nameB l = true then UInt8.ofNat l.length :: (l ++ zeros (13 - l.length)) else []
theorem packS_yes {l : List UInt8} (h : nameB l = true) : packS l = UInt8.ofNat l.length :: (l ++ zeros (13 - l.length)) := by simp [packS, h]
theorem packS_no {l : List UInt8} (h : nameB l = false) : packS l = [] := by simp [packS, h]
theorem packS_length {l : List UInt8} (h : nameB l = true) : (packS l).length = 14 := by
  have := nameB_len h
  rw [packS_yes h]
  simp [zeros]
  omega
theorem packS_get {l : List UInt8} (h : nameB l = true) {k : Nat} (hk : k < 13) : (packS l)[k + 1]? = some (if h : k < l.length then l[k] else 0) := by
  have := nameB_len h
  rw [packS_yes h, List.getElem?_cons_succ, List.getElem?_append]
  split
  · rename_i hl
    rw [List.getElem?_eq_getElem hl]
  · rename_i hl
    simp only [zeros, List.getElem?_replicate]
    rw [if_pos (by omega)]
/-- The text that the first byte tells the length of. -/
def innerS (b : List UInt8) : List UInt8 := (b.drop 1).take (b.headD 0).toNat
/-- Are the bytes a name's? -/
def isPackB (b : List UInt8) : Bool := (b.length == 14 && decide ((b.headD 0).toNat ≤ 12)) && (packS (innerS b) == b)
/-- The name whose bytes they are. -/
def unpackS (b : List UInt8) : List UInt8 := if isPackB b = true then innerS b else []
theorem isPackB_packS {l : List UInt8} (h : nameB l = true) : isPackB (packS l) = true ∧ innerS (packS l) = l := by
  obtain ⟨h1, h2⟩ := nameB_len h
  have hi : innerS (packS l) = l := by
    rw [packS_yes h]
    unfold innerS
    rw [List.drop_one, List.tail_cons, List.headD_cons]
    have : (UInt8.ofNat l.length).toNat = l.length := by simp; omega
    rw [this, List.take_left']
    rfl
  refine ⟨?_, hi⟩
  unfold isPackB
  rw [hi, packS_length h, packS_yes h, List.headD_cons]
  have : (UInt8.ofNat l.length).toNat = l.length := by simp; omega
  rw [this]
  simp
  omega
theorem isPackB_name {b : List UInt8} (h : isPackB b = true) : nameB (innerS b) = true ∧ packS (innerS b) = b := by
  simp only [isPackB, Bool.and_eq_true, beq_iff_eq, decide_eq_true_eq] at h
  obtain ⟨⟨h1, _⟩, h2⟩ := h
  refine ⟨?_, h2⟩
  cases hn : nameB (innerS b) with
  | true => rfl
  | false =>
    rw [packS_no hn] at h2
    rw [← h2] at h1
    simp at h1
end Go.Proofs.YtnehkgbdppbhiaaGreat.Plain
