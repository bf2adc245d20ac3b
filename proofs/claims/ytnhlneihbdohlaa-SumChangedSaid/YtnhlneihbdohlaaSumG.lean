/- One byte that is changed is found: bytes that were sealed, and of which one is another one, are not sealed. Nothing here walks the program. -/
import Derived.Test.YtnhlneihbdohlaaSumF
namespace Go.Proofs.Ytnhlneihbdohlaa
open Go.RowKit Plain

def tot : List UInt8 → Nat
  | [] => 0
  | x :: r => x.toNat + tot r
theorem tot_set (l : List UInt8) (p : Nat) (y : UInt8) (h : p < l.length) : tot (l.set p y) + l[p].toNat = tot l + y.toNat := by
  induction l generalizing p with
  | nil => simp at h
  | cons x r ih =>
    cases p with
    | zero => simp [tot]; omega
    | succ p =>
      simp only [List.set_cons_succ, tot, List.getElem_cons_succ]
      have := ih p (by simpa using h)
      omega
theorem fst_sums (l : List UInt8) : (sumsS l).1 = (1 + tot l) % 65521 := by
  suffices h : ∀ (l : List UInt8) (s : Nat × Nat), s.1 < 65521 → (l.foldl stepS s).1 = (s.1 + tot l) % 65521 from h l _ (by decide)
  intro l
  induction l with
  | nil => intro s h; simp [tot]; omega
  | cons x r ih =>
    intro s h
    rw [List.foldl_cons, ih _ (Nat.mod_lt _ (by omega))]
    simp only [stepS, tot]
    omega
theorem of_fst {l k : List UInt8} (h : ofS l = ofS k) : (sumsS l).1 = (sumsS k).1 := by
  have h1 := sumsS_lt l
  have h2 := sumsS_lt k
  unfold ofS at h
  omega
theorem nb4_inj {a b : Nat} (ha : a < 4294967296) (hb : b < 4294967296) (h : nb 4 a = nb 4 b) : a = b := by
  have := congrArg val h
  rwa [val_nb 4 a (by omega), val_nb 4 b (by omega)] at this

theorem changed_not (l : List UInt8) (p : Nat) (y : UInt8) (hp : p < 64) (hy : ∀ x, (sealS l)[p]? = some x → x ≠ y) : ((sealS l).set p y == sealS ((sealS l).set p y)) = false := by
  simp only [beq_eq_false_iff_ne, ne_eq]
  intro e
  have hl := sealS_length l
  have hpl : p < (sealS l).length := by omega
  have hne : (sealS l)[p] ≠ y := hy _ (List.getElem?_eq_getElem hpl)
  have hb : bodyS ((sealS l).set p y) = ((sealS l).set p y).take 60 := bodyS_full (by rw [List.length_set]; omega)
  have ht : (sealS l).take 60 = bodyS l := List.take_left' (bodyS_length l)
  by_cases h60 : p < 60
  · have hb2 : bodyS ((sealS l).set p y) = (bodyS l).set p y := by rw [hb, List.take_set, ht]
    have e2 : nb 4 (ofS (bodyS l)) = nb 4 (ofS ((bodyS l).set p y)) := by
      have d := congrArg (List.drop 60) e
      have d1 : ((sealS l).set p y).drop 60 = nb 4 (ofS (bodyS l)) := by
        rw [List.drop_set_of_lt h60]
        exact List.drop_left' (bodyS_length l)
      have d2 : (sealS ((sealS l).set p y)).drop 60 = nb 4 (ofS ((bodyS l).set p y)) := by
        rw [← hb2]
        exact List.drop_left' (bodyS_length _)
      rw [d1, d2] at d
      exact d
    have e3 := of_fst (nb4_inj (ofS_lt _) (ofS_lt _) e2)
    have hbl : p < (bodyS l).length := by rw [bodyS_length]; exact h60
    have hts := tot_set (bodyS l) p y hbl
    rw [fst_sums, fst_sums] at e3
    have hg : (bodyS l)[p] = (sealS l)[p] := by
      have : (sealS l)[p]? = (bodyS l)[p]? := by
        unfold sealS
        rw [List.getElem?_append_left hbl]
      rw [List.getElem?_eq_getElem hpl, List.getElem?_eq_getElem hbl] at this
      exact (Option.some.inj this).symm
    have h1 := (bodyS l)[p].toNat_lt
    have h2 := y.toNat_lt
    have h3 : (bodyS l)[p].toNat ≠ y.toNat := by
      rw [hg]
      intro h
      exact hne (UInt8.toNat_inj.1 h)
    omega
  · have hb2 : bodyS ((sealS l).set p y) = bodyS l := by rw [hb, List.take_set, ht, List.set_eq_of_length_le (by rw [bodyS_length]; omega)]
    have e2 : sealS ((sealS l).set p y) = sealS l := by
      show bodyS ((sealS l).set p y) ++ nb 4 (ofS (bodyS ((sealS l).set p y))) = sealS l
      rw [hb2]
      rfl
    rw [e2] at e
    have : ((sealS l).set p y)[p]? = (sealS l)[p]? := by rw [e]
    rw [List.getElem?_set_self hpl, List.getElem?_eq_getElem hpl] at this
    exact hne (Option.some.inj this).symm
theorem xor_ne (x t : Nat) (hx : x < 256) (ht : t < 256) (h0 : t ≠ 0) : UInt8.ofNat (x ^^^ t) ≠ UInt8.ofNat x := by
  intro e
  have e1 := congrArg UInt8.toNat e
  have hx2 : x ^^^ t < 256 := Nat.xor_lt_two_pow (n := 8) hx ht
  simp only [UInt8.toNat_ofNat'] at e1
  rw [Nat.mod_eq_of_lt hx2, Nat.mod_eq_of_lt hx] at e1
  have e2 : x ^^^ (x ^^^ t) = x ^^^ x := by rw [e1]
  rw [← Nat.xor_assoc, Nat.xor_self, Nat.zero_xor] at e2
  exact h0 e2
end Go.Proofs.Ytnhlneihbdohlaa
