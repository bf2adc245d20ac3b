/- Entries: their values, how they lie in cells (layer 8). Nothing here speaks of a program. -/
import Derived.Test.YtnehkgbdppbhiaaGreatMemF
namespace Go.Proofs.YtnehkgbdppbhiaaGreat
open Go.RowKit Plain

/-- An entry. -/
structure EntV where
  (slot ino : Int)
  name : List UInt8
  deriving DecidableEq
def ent0 : EntV := ⟨0, 0, []⟩
/-- An entry in three cells. -/
def entEn : Enc EntV := (Enc.pair Enc.int (Enc.pair Enc.int Enc.text)).as (fun x => (x.slot, x.ino, x.name))
theorem ent_cells {w : World} {D : Nat → Prop} {cs : List Value} {x : EntV} (h : entEn.R w D cs x) : cs = [.int .i64 x.slot, .int .i64 x.ino, .string ⟨x.name.toArray⟩] := by
  obtain ⟨c1, c2, rfl, h1, c3, c4, rfl, h2, h3⟩ := h
  have e1 : c1 = [.int .i64 x.slot] := h1
  have e2 : c3 = [.int .i64 x.ino] := h2
  have e3 : c4 = [.string ⟨x.name.toArray⟩] := h3
  rw [e1, e2, e3]
  rfl
theorem ent_get {w : World} {D : Nat → Prop} {A : Option Addr} {n k : Nat} {l : List EntV} {x : EntV} (h : RdE entEn w D A n l) (hx : l[k]? = some x) :
    ∃ b o, A = some ⟨b, o, none⟩ ∧ D b ∧ ∀ j v, [Value.int .i64 x.slot, .int .i64 x.ino, .string ⟨x.name.toArray⟩][j]? = some v → w.cell? ⟨b, o + k * 3 + j, none⟩ = some v := by
  have hk := (List.getElem?_eq_some_iff.1 hx).1
  obtain ⟨b, o, e, hb, hc⟩ := h.2 (by rw [← h.1]; omega)
  obtain ⟨cs, hR, hcs⟩ := hc k x hx
  have e2 := ent_cells hR
  subst e2
  refine ⟨b, o, e, hb, fun j v hv => ?_⟩
  have := hcs j v hv
  rw [Nat.add_assoc]
  exact this
/-- An entry's cells. -/
def cellsE (x : EntV) : List Value := [.int .i64 x.slot, .int .i64 x.ino, .string ⟨x.name.toArray⟩]
def flatE (l : List EntV) : List Value := l.flatMap cellsE
theorem flatE_snoc (l : List EntV) (x : EntV) : flatE (l ++ [x]) = flatE l ++ cellsE x := by simp [flatE]
theorem flatE_len (l : List EntV) : (flatE l).length = l.length * 3 := by
  induction l with
  | nil => rfl
  | cons x r ih => rw [show flatE (x :: r) = cellsE x ++ flatE r from rfl, List.length_append, ih, List.length_cons]; simp only [cellsE, List.length_cons, List.length_nil]; omega
end Go.Proofs.YtnehkgbdppbhiaaGreat
