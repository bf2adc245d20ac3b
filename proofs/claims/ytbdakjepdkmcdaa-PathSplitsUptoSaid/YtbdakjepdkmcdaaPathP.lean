/- The plain mathematics of paths (layer 4). Nothing here speaks of a program. -/
import Derived.Test.YtbdakjepdkmcdaaNameP
namespace Go.Proofs.Ytbdakjepdkmcdaa.Plain
def stepJ (s : List UInt8 × Bool) (x : List UInt8) : List UInt8 × Bool := ((if s.2 = true then s.1 else s.1 ++ [47]) ++ x, false)
/-- The path of names. -/
def joinS (l : List (List UInt8)) : List UInt8 := (l.foldl stepJ ([47], true)).1
/-- How many bytes texts have, and one more each. -/
def totL (l : List (List UInt8)) : Nat := (l.map fun x => x.length + 1).sum
theorem totL_snoc (l : List (List UInt8)) (x : List UInt8) : totL (l ++ [x]) = totL l + (x.length + 1) := by simp [totL]
theorem totL_append (a b : List (List UInt8)) : totL (a ++ b) = totL a + totL b := by simp [totL]
theorem totL_take (l : List (List UInt8)) (k : Nat) : totL (l.take k) ≤ totL l := by
  have h := totL_append (l.take k) (l.drop k)
  rw [List.take_append_drop] at h
  omega
theorem flagJ (l : List (List UInt8)) : (l.foldl stepJ ([47], true)).2 = decide (l.length = 0) := by
  suffices h : ∀ (l : List (List UInt8)) (s : List UInt8 × Bool), (l.foldl stepJ s).2 = (s.2 && decide (l.length = 0)) from by rw [h]; simp
  intro l
  induction l with
  | nil => intro s; simp
  | cons x r ih => intro s; rw [List.foldl_cons, ih]; simp [stepJ]
theorem joinS_snoc (l : List (List UInt8)) (x : List UInt8) : joinS (l ++ [x]) = (if l.length = 0 then joinS l else joinS l ++ [47]) ++ x := by
  unfold joinS
  rw [List.foldl_append, List.foldl_cons, List.foldl_nil]
  show (if (l.foldl stepJ ([47], true)).2 = true then _ else _) ++ x = _
  rw [flagJ]
  simp
theorem joinS_length (l : List (List UInt8)) : (joinS l).length ≤ 1 + totL l := by
  suffices h : ∀ (l : List (List UInt8)) (s : List UInt8 × Bool), ((l.foldl stepJ s).1).length ≤ s.1.length + totL l from h l ([47], true)
  intro l
  induction l with
  | nil => intro s; simp
  | cons x r ih =>
    intro s
    rw [List.foldl_cons]
    have h1 := ih (stepJ s x)
    have h2 : (stepJ s x).1.length ≤ s.1.length + (x.length + 1) := by
      unfold stepJ
      simp only [List.length_append]
      split <;> simp <;> omega
    have h3 : totL (x :: r) = (x.length + 1) + totL r := by simp [totL]
    omega
/-- One byte more of a path: a stroke begins a part, others go behind the last one. -/
def stepP (o : List (List UInt8)) (c : UInt8) : List (List UInt8) := if c = 47 then o ++ [[]] else o.set (o.length - 1) (o.getD (o.length - 1) [] ++ [c])
/-- The parts of the first j bytes, the first one of which is a stroke. -/
def partsTo (s : List UInt8) (j : Nat) : List (List UInt8) := ((s.take j).drop 1).foldl stepP [[]]
/-- What stands between strokes behind the first one. -/
def partsS (s : List UInt8) : List (List UInt8) := (s.drop 1).foldl stepP [[]]
theorem partsTo_one (s : List UInt8) : partsTo s 1 = [[]] := by
  unfold partsTo
  rw [List.drop_eq_nil_of_le (by rw [List.length_take]; omega)]
  rfl
theorem partsTo_succ {s : List UInt8} {j : Nat} (h1 : 1 ≤ j) (h : j < s.length) : partsTo s (j + 1) = stepP (partsTo s j) s[j] := by
  unfold partsTo
  rw [List.take_succ_eq_append_getElem h, List.drop_append_of_le_length (by rw [List.length_take]; omega), List.foldl_append]
  rfl
theorem partsTo_all {s : List UInt8} {j : Nat} (h : s.length ≤ j) : partsTo s j = partsS s := by
  unfold partsTo partsS
  rw [List.take_of_length_le h]
theorem stepP_length (o : List (List UInt8)) (c : UInt8) : (stepP o c).length = if c = 47 then o.length + 1 else o.length := by
  unfold stepP
  split <;> simp
theorem partsTo_len (s : List UInt8) (j : Nat) : 1 ≤ (partsTo s j).length ∧ (partsTo s j).length ≤ 1 + j ∧ ∀ y ∈ partsTo s j, y.length ≤ j := by
  unfold partsTo
  suffices h : ∀ (r : List UInt8) (o : List (List UInt8)) (b : Nat), 1 ≤ o.length → (∀ y ∈ o, y.length ≤ b) →
      1 ≤ (r.foldl stepP o).length ∧ (r.foldl stepP o).length ≤ o.length + r.length ∧ ∀ y ∈ r.foldl stepP o, y.length ≤ b + r.length by
    have hl : ((s.take j).drop 1).length ≤ j := by simp; omega
    obtain ⟨h1, h2, h3⟩ := h ((s.take j).drop 1) [[]] 0 (by simp) (by simp)
    refine ⟨h1, by simp only [List.length_singleton] at h2; omega, fun y hy => ?_⟩
    have := h3 y hy
    omega
  intro r
  induction r with
  | nil => intro o b h1 h2; exact ⟨h1, by simp, fun y hy => by have := h2 y hy; simpa using this⟩
  | cons c r ih =>
    intro o b h1 h2
    rw [List.foldl_cons]
    have h3 : ∀ y ∈ stepP o c, y.length ≤ b + 1 := by
      intro y hy
      unfold stepP at hy
      split at hy
      · rw [List.mem_append] at hy
        rcases hy with hy | hy
        · have := h2 y hy; omega
        · simp at hy; subst hy; simp
      · rcases List.mem_or_eq_of_mem_set hy with hy | hy
        · have := h2 y hy; omega
        · subst hy
          have hm : o.getD (o.length - 1) [] ∈ o := by
            simp only [List.getD]
            rw [List.getElem?_eq_getElem (by omega)]
            exact List.getElem_mem (by omega)
          have := h2 _ hm
          rw [List.length_append, List.length_singleton]
          omega
    have h4 := stepP_length o c
    obtain ⟨a1, a2, a3⟩ := ih (stepP o c) (b + 1) (by rw [h4]; split <;> omega) h3
    refine ⟨a1, ?_, fun y hy => ?_⟩
    · rw [List.length_cons]
      have : (stepP o c).length ≤ o.length + 1 := by rw [h4]; split <;> omega
      omega
    · have := a3 y hy
      rw [List.length_cons]
      omega
theorem partsS_len (s : List UInt8) : (partsS s).length ≤ 1 + s.length ∧ ∀ y ∈ partsS s, y.length ≤ s.length := by
  have h := partsTo_len s s.length
  rw [partsTo_all (Nat.le_refl _)] at h
  exact h.2
/-- Does a text begin with a stroke? -/
def headB (s : List UInt8) : Bool := match s with | [] => false | c :: _ => c == 47
/-- Is it a path of names? -/
def splitB (s : List UInt8) : Bool := s == [47] || (headB s && (partsS s).all nameB)
/-- Its names. -/
def splitS (s : List UInt8) : List (List UInt8) := if s = [47] then [] else if (headB s && (partsS s).all nameB) = true then partsS s else []
/-- One part more. -/
def stepC (o : Option (List (List UInt8))) (y : List UInt8) : Option (List (List UInt8)) :=
  match o with
  | none => none
  | some o => if y = [] ∨ y = [46] then some o else if y = [46, 46] then (if o = [] then none else some o.dropLast) else if nameB y = true then some (o ++ [y]) else none
/-- What is left of parts. -/
def leftS (l : List (List UInt8)) : Option (List (List UInt8)) := l.foldl stepC (some [])
theorem leftS_snoc (l : List (List UInt8)) (y : List UInt8) : leftS (l ++ [y]) = stepC (leftS l) y := by simp [leftS]
theorem leftS_none {l r : List (List UInt8)} (h : leftS l = none) : leftS (l ++ r) = none := by
  unfold leftS at h ⊢
  rw [List.foldl_append, h]
  induction r with
  | nil => rfl
  | cons y r ih => rw [List.foldl_cons]; exact ih
/-- Is there a path without what is needless? -/
def cleanB (s : List UInt8) : Bool := headB s && (leftS (partsS s)).isSome
/-- A path without what is needless. -/
def cleanS (s : List UInt8) : List UInt8 := if headB s = true then (match leftS (partsS s) with | none => [] | some o => joinS o) else []
theorem leftS_len (l : List (List UInt8)) : ∀ o, leftS l = some o → o.length ≤ l.length ∧ totL o ≤ totL l := by
  suffices h : ∀ (l : List (List UInt8)) (o0 : List (List UInt8)), ∀ o, l.foldl stepC (some o0) = some o → o.length ≤ o0.length + l.length ∧ totL o ≤ totL o0 + totL l by
    intro o ho
    have := h l [] o ho
    simpa [totL] using this
  intro l
  induction l with
  | nil => intro o0 o ho; cases ho; exact ⟨Nat.le_refl _, Nat.le_refl _⟩
  | cons y r ih =>
    intro o0 o ho
    rw [List.foldl_cons] at ho
    have hy : totL (y :: r) = (y.length + 1) + totL r := by simp [totL]
    rw [hy, List.length_cons]
    unfold stepC at ho
    simp only at ho
    split at ho
    · have := ih _ _ ho; omega
    · split at ho
      · split at ho
        · exfalso
          clear ih hy
          induction r with
          | nil => cases ho
          | cons z r ih2 => exact ih2 ho
        · have h1 := ih _ _ ho
          have h2 : totL o0.dropLast ≤ totL o0 := by rw [List.dropLast_eq_take]; exact totL_take _ _
          rw [List.length_dropLast] at h1
          omega
      · split at ho
        · have h1 := ih _ _ ho
          rw [totL_snoc, List.length_append, List.length_singleton] at h1
          omega
        · exfalso
          clear ih hy
          induction r with
          | nil => cases ho
          | cons z r ih2 => exact ih2 ho
theorem totL_le {l : List (List UInt8)} {b : Nat} (h : ∀ y ∈ l, y.length ≤ b) : totL l ≤ l.length * (b + 1) := by
  induction l with
  | nil => simp [totL]
  | cons y r ih =>
    have h1 := ih (fun z hz => h z (List.mem_cons_of_mem _ hz))
    have h2 := h y (List.mem_cons_self)
    have : totL (y :: r) = (y.length + 1) + totL r := by simp [totL]
    rw [this, List.length_cons, Nat.add_mul]
    omega
theorem leftS_stop {l : List (List UInt8)} {k : Nat} (hk : k < l.length) (h : stepC (leftS (l.take k)) l[k] = none) : leftS l = none := by
  have e : leftS (l.take (k + 1)) = none := by rw [List.take_succ_eq_append_getElem hk, leftS_snoc]; exact h
  have := leftS_none (r := l.drop (k + 1)) e
  rwa [List.take_append_drop] at this
/-- The names of a redirect; whether it is absolute; whether it is one. -/
def redL (s : List UInt8) : List (List UInt8) := if 24 < s.length then [] else if headB s = true then splitS s else if nameB s = true then [s] else []
def redA (s : List UInt8) : Bool := if 24 < s.length then false else if headB s = true then splitB s else false
def redB (s : List UInt8) : Bool := if 24 < s.length then false else if headB s = true then splitB s else nameB s
end Go.Proofs.Ytbdakjepdkmcdaa.Plain
