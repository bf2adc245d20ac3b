/- Words for bytes in memory, over any program: a slice that reads as bytes (nil and empty too), and what its conversion to a string gives. -/
import Derived.Test.YtnehkgbdppbhiaaGreatPlain
import Derived.WalkKit
import Derived.WalkSpells
import Derived.WalkLawsBesides
import Derived.Laws.BytesArg
import Derived.Laws.CopyOwn
namespace Go.Proofs.YtnehkgbdppbhiaaGreat
open Go.RowKit

/-- A byte as a cell. -/
def bv (x : UInt8) : Value := .int .u8 (x.toNat : Int)
/-- Bytes as cells. -/
def bvs (l : List UInt8) : List Value := l.map bv
theorem bvs_length (l : List UInt8) : (bvs l).length = l.length := by simp [bvs]
theorem bvs_get {l : List UInt8} {i : Nat} {x : UInt8} (h : l[i]? = some x) : (bvs l)[i]? = some (bv x) := by simp [bvs, h]
theorem bvs_append (a b : List UInt8) : bvs (a ++ b) = bvs a ++ bvs b := by simp [bvs]
theorem bvs_one (l : List UInt8) : ∀ u ∈ bvs l, u.oneCell' = true := by
  intro u hu
  obtain ⟨x, _, rfl⟩ := List.mem_map.1 hu
  rfl
theorem bvs_of_get {l : List UInt8} {i : Nat} {u : Value} (h : (bvs l)[i]? = some u) : ∃ x, l[i]? = some x ∧ u = bv x := by
  simp only [bvs, List.getElem?_map, Option.map_eq_some_iff] at h
  obtain ⟨x, hx, rfl⟩ := h
  exact ⟨x, hx, rfl⟩

/-- The slice of n elements at A reads as the bytes l, and lies below block B. -/
def Bs (w : World) (B : Nat) (A : Option Addr) (n : Nat) (l : List UInt8) : Prop :=
  l.length = n ∧ (0 < n → ∃ b o, A = some ⟨b, o, none⟩ ∧ b < B ∧ ∀ i x, l[i]? = some x → w.cell? ⟨b, o + i, none⟩ = some (bv x))

section
variable {w w' : World} {B B' n c : Nat} {A : Option Addr} {l : List UInt8}
theorem Bs.none_ (w : World) (B : Nat) (A : Option Addr) : Bs w B A 0 [] := ⟨rfl, fun h => absurd h (by omega)⟩
theorem Bs.len (h : Bs w B A n l) : l.length = n := h.1
theorem Bs.below (h : Bs w B A n l) (hb : Below B w w') : Bs w' B A n l := ⟨h.1, fun hn => by
  obtain ⟨b, o, e, hlt, hc⟩ := h.2 hn
  exact ⟨b, o, e, hlt, fun i x hx => (hb.cell hlt).trans (hc i x hx)⟩⟩
theorem Bs.more (h : Bs w B A n l) (hB : B ≤ B') : Bs w B' A n l := ⟨h.1, fun hn => by
  obtain ⟨b, o, e, hlt, hc⟩ := h.2 hn
  exact ⟨b, o, e, by omega, hc⟩⟩
theorem Bs.grown {row : Option Nat} (h : Bs w B A n l) (hg : w.grownBy w' row) (hB : B ≤ w.heap.size) (hr : ∀ g, row = some g → B ≤ g) : Bs w' B A n l := ⟨h.1, fun hn => by
  obtain ⟨b, o, e, hlt, hc⟩ := h.2 hn
  exact ⟨b, o, e, hlt, fun i x hx => (World.cell?_of_block (hg.block b (by omega) (fun e => by have := hr _ e.symm; omega))).trans (hc i x hx)⟩⟩
theorem Bs.alloc (h : Bs w B A n l) (hB : B ≤ w.heap.size) (o : Obj) : Bs (w.alloc o) B A n l := h.grown (World.grownBy_alloc w o none) hB (by simp)
theorem Bs.drew (h : Bs w B A n l) : Bs w.drew B A n l := h
theorem Bs.drewN (h : Bs w B A n l) (k : Nat) : Bs (w.drewN k) B A n l := h
theorem Bs.of_own {base : Nat} {e : TypeId} (h : w.ownsRow base e 1 (.slice A n c) n (bvs l)) : Bs w w.heap.size A n l := by
  have hlen : l.length = n := by have := h.1; rw [bvs_length] at this; omega
  refine ⟨hlen, fun hn => ?_⟩
  rcases h.2 with ⟨_, h0⟩ | ⟨g, cap, cur, he, _, hg, hnc, _, hcs, ht⟩
  · omega
  · simp only [Value.slice.injEq] at he
    obtain ⟨rfl, _, rfl⟩ := he
    refine ⟨g, 0, rfl, ?_, fun i x hx => ?_⟩
    · rcases Nat.lt_or_ge g w.heap.size with hlt | hge
      · exact hlt
      · rw [Array.getElem?_eq_none hge] at hg; cases hg
    · rw [Nat.zero_add]
      exact (h.cellAt (g := g) i (by have := (List.getElem?_eq_some_iff.1 hx).1; omega)).trans (bvs_get hx)
theorem Bs.cut {lo hi : Nat} (h : Bs w B A n l) (h1 : lo ≤ hi) (h2 : hi ≤ n) {m : Nat} (h3 : hi ≤ m) :
    Bs w B (if m = lo then A else A.map (·.add (lo * 1))) (hi - lo) ((l.drop lo).take (hi - lo)) := by
  refine ⟨by have := h.1; simp; omega, fun hn => ?_⟩
  obtain ⟨b, o, rfl, hlt, hc⟩ := h.2 (by omega)
  rw [if_neg (by omega)]
  refine ⟨b, o + lo, ?_, hlt, fun i x hx => ?_⟩
  · by_cases h0 : lo = 0 <;> simp [Addr.add, h0]
  · rw [List.getElem?_take] at hx
    split at hx
    · rw [List.getElem?_drop] at hx
      have := hc _ _ hx
      rwa [← Nat.add_assoc] at this
    · cases hx
end

/-- 'string(b)' of bytes. -/
theorem run_string_Bs {P : Program} (W : World) (src e dst : TypeId) (hs : P.underlying src = some (.slice e)) (he : P.underlying e = some (.int .u8)) (hd : P.underlying dst = some .string)
    {B n c : Nat} {A : Option Addr} {l : List UInt8} (h : Bs W B A n l) : (convert src dst (.slice A n c)).run P W = .ok (.string ⟨l.toArray⟩) W := by
  obtain ⟨hl, hp⟩ := h
  by_cases hn : n = 0
  · subst hn
    obtain rfl : l = [] := List.eq_nil_of_length_eq_zero hl
    rw [run_convert_bytes_string W src dst e A 0 c hs he hd]
    cases A with
    | none => simp [Conv.bytesToString]; rfl
    | some a =>
      have := run_bytesToString (P := P) W a 0 c [] (by simp [loadCells, loadCellsFrom])
      rw [this]; rfl
  · obtain ⟨b, o, rfl, _, hc⟩ := hp (by omega)
    have := run_convert_bytes_arg (P := P) W src e hs he b o n c (l.map fun x => (x.toNat : Int)) (by simpa using hl) (fun i hi => by
      have hx : l[i]? = some l[i] := List.getElem?_eq_getElem (by omega)
      rw [hc i _ hx]
      simp [bv, List.getD, hx]) dst hd
    rw [this]
    simp only [strOfNums, List.map_map]
    congr 4
    conv => rhs; rw [← List.map_id l]
    apply List.map_congr_left
    intro x _
    simp

/-- A row that is known whole. -/
def RowL (w : World) (g : Nat) (t : TypeId) (cs : List Value) : Prop := w.heap[g]? = some (.cells cs.toArray t (0, 0))
section
variable {w w' : World} {g t : Nat} {cs : List Value}
theorem RowL.lt (h : RowL w g t cs) : g < w.heap.size := by
  rcases Nat.lt_or_ge g w.heap.size with hlt | hge
  · exact hlt
  · unfold RowL at h; rw [Array.getElem?_eq_none hge] at h; cases h
theorem RowL.cell (h : RowL w g t cs) (i : Nat) : w.cell? ⟨g, i, none⟩ = cs[i]? := by rw [cell_of_row w g i _ t _ h]; simp
theorem RowL.frozen (h : RowL w g t cs) (i : Nat) : w.frozen? ⟨g, i, none⟩ = false := frozen_of_row w g i _ t h
theorem RowL.set_ (h : RowL w g t cs) (i : Nat) (u : Value) : RowL (w.setCell ⟨g, i, none⟩ u) g t (cs.set i u) := by
  unfold RowL
  rw [heap_setCell_same w g i _ t u h]
  simp
theorem RowL.grown {row : Option Nat} (h : RowL w g t cs) (hb : w.grownBy w' row) (hg : some g ≠ row) : RowL w' g t cs := (hb.block g h.lt hg).trans h
theorem RowL.own (h : RowL w g t cs) {base n cap : Nat} (hb : base ≤ g) (hn : n ≤ cap) (hm : cap ≤ maxLen) (hc : cs.length = cap) : w.ownsRow base t 1 (.slice (some ⟨g, 0, none⟩) n cap) n (cs.take n) :=
  ⟨by simp; omega, .inr ⟨g, cap, cs.toArray, rfl, hb, h, hn, hm, by simpa using hc, by simp⟩⟩
theorem only_setCell (h : w.grownBy w' (some g)) (i : Nat) (u : Value) : w.grownBy (w'.setCell ⟨g, i, none⟩ u) (some g) :=
  ⟨h.os, h.tape, h.output, by simpa [World.setCell] using h.size, fun k hk hne => (Below.heap_setCell w' ⟨g, i, none⟩ u k (by rintro rfl; exact hne rfl)).trans (h.block k hk hne)⟩
end
/-- The slice of n elements at A is a row of the call's own (its block is not below base), and holds the bytes l. -/
def Own (w : World) (base e : Nat) (A : Option Addr) (n c : Nat) (l : List UInt8) : Prop := w.ownsRow base e 1 (.slice A n c) n (bvs l)
theorem Own.of {w : World} {base e n : Nat} {v : Value} {l : List UInt8} (h : w.ownsRow base e 1 v n (bvs l)) : ∃ A c, v = .slice A n c ∧ Own w base e A n c l := by
  rcases h.2 with ⟨rfl, rfl⟩ | ⟨g, cap, cur, rfl, _⟩
  · exact ⟨none, 0, rfl, h⟩
  · exact ⟨_, cap, rfl, h⟩
section
variable {w w' : World} {base e n c : Nat} {A : Option Addr} {l : List UInt8}
theorem Own.bs (h : Own w base e A n c l) : Bs w w.heap.size A n l := Bs.of_own h
theorem Own.len (h : Own w base e A n c l) : l.length = n := h.bs.1
theorem Own.below (h : Own w base e A n c l) (hb : Below w.heap.size w w') : Own w' base e A n c l := by
  refine ⟨h.1, ?_⟩
  rcases h.2 with h0 | ⟨g, cap, cur, h1, h2, h3, h4⟩
  · exact .inl h0
  · refine .inr ⟨g, cap, cur, h1, h2, ?_, h4⟩
    rw [hb.block g ?_]
    · exact h3
    · rcases Nat.lt_or_ge g w.heap.size with hlt | hge
      · exact hlt
      · rw [Array.getElem?_eq_none hge] at h3; cases h3
theorem Own.cap (h : Own w base e A n c l) : n ≤ c := by
  rcases h.2 with ⟨h0, h1⟩ | ⟨g, cap, cur, h1, _, _, h4, _⟩
  · omega
  · cases h1; exact h4
theorem Own.row (h : Own w base e A n c l) (hn : 0 < n) : ∃ g cs, A = some ⟨g, 0, none⟩ ∧ base ≤ g ∧ RowL w g e cs ∧ cs.length = c ∧ n ≤ c ∧ c ≤ maxLen ∧ cs.take n = bvs l := by
  rcases h.2 with ⟨_, h1⟩ | ⟨g, cap, cur, h1, h2, h3, h4, h5, h6, h7⟩
  · omega
  · cases h1
    exact ⟨g, cur.toList, rfl, h2, by simpa [RowL] using h3, by simpa using h6, h4, h5, by simpa using h7⟩
end
/-- It returns a row of its own with the bytes l, and nothing that was there has turned. -/
def BRet (w : World) (e n : Nat) (l : List UInt8) (x : Ending) (w' : World) : Prop := ∃ A c, x = .returned (.slice A n c) ∧ Own w' w.heap.size e A n c l ∧ Below w.heap.size w w'
theorem BRet.of {w w' : World} {e n : Nat} {v : Value} {l : List UInt8} (h : w'.ownsRow w.heap.size e 1 v n (bvs l)) (hb : Below w.heap.size w w') : BRet w e n l (.returned v) w' := by
  obtain ⟨A, c, rfl, ho⟩ := Own.of h
  exact ⟨A, c, rfl, ho, hb⟩
theorem Own.ret {w w' : World} {e n c : Nat} {A : Option Addr} {l : List UInt8} (h : Own w' w.heap.size e A n c l) (hb : Below w.heap.size w w') : BRet w e n l (.returned (.slice A n c)) w' := ⟨A, c, rfl, h, hb⟩

/-- append onto nothing of nil. -/
theorem run_append_nil0 {P : Program} (w : World) (base : Nat) (t ty e : TypeId) (i : TypeInfo) (size : Nat) (ht : P.underlying t = some (.slice e)) (hi : P.info? e = some i)
    (v : Value) (n : Nat) (xs : List Value) (hown : w.ownsRow base e size v n xs) (c : Nat) : (Builtin.append_ #[t, t] ty #[v, .slice none 0 c]).run P w = .ok v w := by
  rcases hown.2 with ⟨rfl, rfl⟩ | ⟨g, cap, cur, rfl, _, _, hnc, _⟩
  · simp [Builtin.append_, run_underlying ht, sizeOf, typeInfo, hi, Builtin.lenOf, Builtin.firstCells]
  · simp [Builtin.append_, run_underlying ht, sizeOf, typeInfo, hi, Builtin.lenOf, Builtin.firstCells, hnc, storeCells]

theorem Below.of_grown_own {w w' : World} {base e size n : Nat} {v : Value} {xs : List Value} (hown : w.ownsRow base e size v n xs) (hg : w.grownBy w' v.ownBlock) (hb : base ≤ w.heap.size) : Below base w w' :=
  (Below.refl _ _).grown hg hb (fun k hk => (hown.lt k hk).1)

/-- append(v, b...) of bytes: v a row of the call's own, b any bytes. -/
theorem run_append_Bs {P : Program} (w : World) (base : Nat) (t ty e : TypeId) (ht : P.underlying t = some (.slice e)) (hinfo : (P.info? e).map (fun i => (i.zero, i.size, i.bytes)) = some (some (.int .u8 0), 1, 1))
    (v : Value) (n : Nat) (l0 : List UInt8) (hown : w.ownsRow base e 1 v n (bvs l0)) (B : Nat) (A : Option Addr) (m c : Nat) (l1 : List UInt8) (hb : Bs w B A m l1)
    (hbytes : n + m ≤ 140737488355328) (hbase : base ≤ w.heap.size) :
    ∃ v' w', (Builtin.append_ #[t, t] ty #[v, .slice A m c]).run P w = .ok v' w' ∧ w'.ownsRow base e 1 v' (n + m) (bvs (l0 ++ l1)) ∧ Below base w w' := by
  obtain ⟨i, hi, hz, hsz, hby⟩ := info_parts hinfo
  rw [bvs_append]
  cases A with
  | none =>
    have hm : m = 0 := by
      rcases Nat.eq_zero_or_pos m with h0 | h0
      · exact h0
      · obtain ⟨_, _, h, _⟩ := hb.2 h0; cases h
    subst hm
    obtain rfl : l1 = [] := List.eq_nil_of_length_eq_zero hb.1
    exact ⟨v, w, run_append_nil0 w base t ty e i 1 ht hi v n _ hown c, by simpa [bvs] using hown, Below.refl _ _⟩
  | some ad =>
    have hcells : ∀ j u, (bvs l1)[j]? = some u → w.cell? (ad.add j) = some u := by
      intro j u hu
      obtain ⟨x, hx, rfl⟩ := bvs_of_get hu
      have hj : j < l1.length := (List.getElem?_eq_some_iff.1 hx).1
      obtain ⟨b, o, e, _, hc⟩ := hb.2 (by have := hb.1; omega)
      injection e with e
      subst e
      rw [← hc j x hx]
      congr 1
      unfold Addr.add
      split
      · rename_i h0; subst h0; rfl
      · rfl
    obtain ⟨v', w', hr, h2, h3, _⟩ := run_append_own (P := P) w base t ty e i (.int .u8 0) 1 1 ht hi hz hsz hby rfl (by omega) v n _ hown ad m c (bvs l1) (by rw [bvs_length]; have := hb.1; omega) hcells (bvs_one _)
      (by simp only [maxLen]; omega) (by omega) hbase
    exact ⟨v', w', hr, h2, Below.of_grown_own hown h3 hbase⟩

theorem wpList_append_Bs {P : Program} (w : World) {ops : Array Oper} {rest : List Oper} {o : Oper} {a : Act} {Q : Exit → Act → World → Prop} (hgd : o.guard = none) (s x : Operand) (t : TypeId)
    (ho : o.op = .call { callee := .builtin .append, args := #[s, x], argTypes := #[t, t] })
    (base : Nat) (e : TypeId) (ht : P.underlying t = some (.slice e)) (hinfo : (P.info? e).map (fun i => (i.zero, i.size, i.bytes)) = some (some (.int .u8 0), 1, 1))
    (A0 : Option Addr) (n c0 : Nat) (l0 : List UInt8) (hs : a.eval s = .slice A0 n c0) (hown : Own w base e A0 n c0 l0) (B : Nat) (A : Option Addr) (m c : Nat) (l1 : List UInt8) (hx : a.eval x = .slice A m c) (hb : Bs w B A m l1)
    (N : Nat) (hN : n + m = N) (hbytes : N ≤ 140737488355328) (hbase : base ≤ w.heap.size)
    (h : ∀ A' c' w', Own w' base e A' N c' (l0 ++ l1) → Below base w w' → wpList P ops Q rest (a.put o.dst (.slice A' N c')) w') : wpList P ops Q (o :: rest) a w := by
  subst hN
  refine wpList_plain hgd fun K hK => ?_
  obtain ⟨v', w', hr, h2, h3⟩ := run_append_Bs (P := P) w base t o.type e ht hinfo _ n l0 hown B A m c l1 hb hbytes hbase
  unfold Oper.wp execOp
  simp only [ho, resolve, invoke, builtin, Sem.run_bind, Sem.run_pure, Result.andThen_ok, List.map_toArray, List.map_cons, List.map_nil, hs, hx, hr]
  obtain ⟨A', c', rfl, h4⟩ := Own.of h2
  exact hK _ _ (h A' c' w' h4 h3)

theorem splice_nil {α : Type} (L : List α) (off : Nat) : splice L off [] = L := by simp [splice]
theorem splice_get {α : Type} (L : List α) (off : Nat) (cs : List α) (i : Nat) (h : off + cs.length ≤ L.length) :
    (splice L off cs)[i]? = if i < off then L[i]? else if i < off + cs.length then cs[i - off]? else L[i]? := by
  have h1 : (L.take off).length = off := by simp; omega
  simp only [splice, List.getElem?_append, h1, List.getElem?_drop, List.getElem?_take]
  by_cases e1 : i < off
  · simp [e1]
  · by_cases e2 : i < off + cs.length
    · rw [if_neg e1, if_pos (by omega), if_neg e1, if_pos e2]
    · rw [if_neg e1, if_neg (by omega), if_neg e1, if_neg e2]
      congr 1
      omega
theorem splice_snoc {α : Type} (L : List α) (off : Nat) (cs : List α) (x : α) (h : off + cs.length < L.length) : splice L off (cs ++ [x]) = (splice L off cs).set (off + cs.length) x := by
  apply List.ext_getElem?
  intro i
  have hl : (splice L off cs).length = L.length := length_splice L off cs (by omega)
  rw [List.getElem?_set, hl, splice_get L off _ i (by simp; omega), splice_get L off _ i (by omega), List.length_append, List.length_singleton, List.getElem?_append]
  by_cases e1 : i < off
  · have a3 : ¬ off + cs.length = i := by omega
    simp only [if_pos e1, if_neg a3]
  · by_cases e2 : i < off + cs.length
    · have a1 : i < off + (cs.length + 1) := by omega
      have a2 : i - off < cs.length := by omega
      have a3 : ¬ off + cs.length = i := by omega
      simp only [if_neg e1, if_pos a1, if_pos a2, if_pos e2, if_neg a3]
    · by_cases e3 : off + cs.length = i
      · subst e3
        have a1 : off + cs.length < off + (cs.length + 1) := by omega
        have a2 : ¬ off + cs.length - off < cs.length := by omega
        simp only [if_neg e1, if_pos a1, if_neg a2, if_pos h, if_true]
        simp
      · have a1 : ¬ i < off + (cs.length + 1) := by omega
        simp only [if_neg e1, if_neg a1, if_neg e2, if_neg e3]
theorem RowL.of_made {w : World} {base g e n : Nat} {xs : List Value} (h : w.ownsRow base e 1 (.slice (some ⟨g, 0, none⟩) n n) n xs) : RowL w g e xs := by
  rcases h.2 with ⟨h', _⟩ | ⟨g', cap, cur, h', _, hg, _, _, hcs, ht⟩
  · cases h'
  · simp only [Value.slice.injEq, Option.some.injEq, Addr.mk.injEq, and_true, true_and] at h'
    obtain ⟨rfl, rfl⟩ := h'
    have e1 : xs = cur.toList := by rw [← ht]; exact List.take_of_length_le (by rw [Array.length_toList, hcs]; exact Nat.le_refl _)
    subst e1
    simpa [RowL] using hg
/-- What is written whole over a row from its head on, and behind it. -/
theorem splice_two {α : Type} (Z a b : List α) (h : Z.length = a.length + b.length) : splice (splice Z 0 a) a.length b = a ++ b := by
  have h1 : splice Z 0 a = a ++ Z.drop a.length := by simp [splice]
  rw [h1]
  simp only [splice]
  rw [List.take_left', List.drop_eq_nil_of_le (by simp; omega)]
  · simp
  · rfl
theorem splice_all {α : Type} (Z a : List α) (h : Z.length = a.length) : splice Z 0 a = a := by
  simp [splice]; omega
theorem Bs.of_row {w : World} {g t B o : Nat} {cs : List Value} {l : List UInt8} (h : RowL w g t cs) (hg : g < B) (hl : ∀ i x, l[i]? = some x → cs[o + i]? = some (bv x)) : Bs w B (some ⟨g, o, none⟩) l.length l :=
  ⟨rfl, fun _ => ⟨g, o, rfl, hg, fun i x hx => (h.cell _).trans (hl i x hx)⟩⟩

/-- copy(dst, b): b's bytes laid over a row's head, where all of them have room. -/
theorem wpList_copy_Bs {P : Program} {w : World} {ops : Array Oper} {rest : List Oper} {o : Oper} {a : Act} {Q : Exit → Act → World → Prop} (hgd : o.guard = none) (d s : Operand) (dT sT : TypeId)
    (ho : o.op = .call { callee := .builtin .copy, args := #[d, s], argTypes := #[dT, sT] }) (elem : TypeId) (hu : P.underlying dT = some (.slice elem)) (hsz : (P.info? elem).map (·.size) = some 1)
    (g N dCap : Nat) (hd : a.eval d = .slice (some ⟨g, 0, none⟩) N dCap) (cur : List Value) (t : TypeId) (hr : RowL w g t cur)
    (A : Option Addr) (m c : Nat) (hs : a.eval s = .slice A m c) (BB : Nat) (l : List UInt8) (hbs : Bs w BB A m l) (hmN : m ≤ N) (hcur : m ≤ cur.length) (B : Nat) (w0 : World) (hb : Below B w0 w) (hBg : B ≤ g)
    (h : ∀ w', RowL w' g t (splice cur 0 (bvs l)) → Below B w0 w' → wpList P ops Q rest (a.put o.dst (goInt m)) w') : wpList P ops Q (o :: rest) a w := by
  have hlen : (bvs l).length = m := by rw [bvs_length]; exact hbs.1
  refine wpList_copy_splice hgd d s dT sT ho elem hu hsz (some ⟨g, 0, none⟩) A N dCap m c hd hs g 0 cur t hr (bvs l) (by rw [hlen]; exact (Nat.min_eq_left hmN).symm) (fun hp => ⟨rfl, ?_⟩) (by omega) (bvs_one _) B w0 hb hBg ?_
  · obtain ⟨b, o', e, _, hc⟩ := hbs.2 (by omega)
    refine ⟨⟨b, o', none⟩, e, fun j u hu => ?_⟩
    obtain ⟨x, hx, rfl⟩ := bvs_of_get hu
    rw [← hc j x hx]
    congr 1
    unfold Addr.add
    split
    · rename_i h0; subst h0; rfl
    · rfl
  · intro w' h1 h2
    have := h w' h1.out h2
    rwa [← hlen] at this

/-- Bytes 0. -/
def zeros (n : Nat) : List UInt8 := List.replicate n 0
theorem zeros_length (n : Nat) : (zeros n).length = n := by simp [zeros]
/-- make([]byte, n). -/
theorem wpList_make_Bs {P : Program} (w : World) {ops : Array Oper} {rest : List Oper} {o : Oper} {a : Act} {Q : Exit → Act → World → Prop}
    (hg : o.guard = none) (l c : Operand) (t : TypeId) (hop : o.op = Op.makeSlice t l c) (e : TypeId) (h1 : P.underlying t = some (.slice e))
    (hinfo : (P.info? e).map (fun i => (i.zero, i.size, i.bytes)) = some (some (.int .u8 0), 1, 1))
    (kl kc : IntKind) (L C : Int) (n : Nat) (hl : a.eval l = .int kl L) (hc : a.eval c = .int kc C) (hL : L = (n : Int)) (hC : C = (n : Int)) (hn : n ≤ 140737488355328)
    (hK : ∀ w', RowL w' w.heap.size e (bvs (zeros n)) → Below w.heap.size w w' → wpList P ops Q rest (a.put o.dst (.slice (some ⟨w.heap.size, 0, none⟩) n n)) w') :
    wpList P ops Q (o :: rest) a w := by
  obtain ⟨i, hi, hz, hsz, hby⟩ := info_parts hinfo
  refine wpList_make_full w hg l c t hop w.heap.size e i (.int .u8 0) 1 h1 hi hz hsz kl kc L C n hl hc hL hC (by rw [hby]; omega) (by simp only [maxLen]; omega) (Nat.le_refl _) ?_
  intro w' hown hgr
  refine hK w' ?_ ((Below.refl _ _).grown hgr (Nat.le_refl _) (by simp))
  have := RowL.of_made hown
  rw [show (Value.int .u8 0).cells = #[Value.int .u8 0] from rfl, toList_madeCells_one, Nat.mul_one] at this
  simpa [bvs, zeros, bv] using this
theorem RowL.own_bvs {w : World} {g t base n : Nat} {l : List UInt8} {cs : List Value} (h : RowL w g t cs) (hc : cs = bvs l) (hl : l.length = n) (hb : base ≤ g) (hm : n ≤ 140737488355328) : Own w base t (some ⟨g, 0, none⟩) n n l := by
  subst hc
  have := h.own (n := n) (cap := n) hb (Nat.le_refl _) (by simp only [maxLen]; omega) (by rw [bvs_length]; exact hl)
  rw [List.take_of_length_le (by rw [bvs_length, hl]; exact Nat.le_refl _)] at this
  exact this
theorem RowL.new (w : World) (t : TypeId) (cs : List Value) : RowL (w.alloc (.cells cs.toArray t)) w.heap.size t cs := heap_alloc_new w _
theorem Bs.lit (w : World) (t : TypeId) {cs : List Value} {l : List UInt8} {n : Nat} (h : cs = bvs l) (hn : l.length = n) : Bs (w.alloc (.cells cs.toArray t)) (w.heap.size + 1) (some ⟨w.heap.size, 0, none⟩) n l := by
  subst hn
  subst h
  exact Bs.of_row (RowL.new w t _) (by omega) (fun i x hx => by rw [Nat.zero_add]; exact bvs_get hx)
theorem Bs.one (w : World) (t : TypeId) {u : Value} {x : UInt8} (h : u = bv x) : Bs (w.alloc (.cells #[u] t)) (w.heap.size + 1) (some ⟨w.heap.size, 0, none⟩) 1 [x] :=
  Bs.lit w t (cs := [u]) (by rw [h]; rfl) rfl
theorem Own.alloc {w : World} {base e n c : Nat} {A : Option Addr} {l : List UInt8} (h : Own w base e A n c l) (o : Obj) : Own (w.alloc o) base e A n c l := h.below ((Below.refl _ _).alloc (Nat.le_refl _) o)
theorem own_empty (w : World) (e : TypeId) : Own (w.alloc (.cells #[] e)) w.heap.size e (some ⟨w.heap.size, 0, none⟩) 0 0 [] := World.ownsRow_lit w #[] 0 (Nat.le_refl _) (by simp [maxLen]) (by simp)
theorem ofInt64 (a : Nat) (ha : a < 9223372036854775808) : (BitVec.ofInt 64 (a : Int)).toNat = a := by
  rw [BitVec.ofInt_natCast, BitVec.toNat_ofNat]; exact Nat.mod_eq_of_lt (by omega)
theorem or_nat (a b : Nat) (ha : a < 9223372036854775808) (hb : b < 9223372036854775808) : bits .or .i64 (a : Int) (b : Int) = ((a ||| b : Nat) : Int) := by
  have hx : a ||| b < 2 ^ 63 := Nat.or_lt_two_pow (by omega) (by omega)
  show IntKind.i64.wrap ((BitVec.ofInt 64 (a : Int) ||| BitVec.ofInt 64 (b : Int)).toNat : Int) = _
  rw [BitVec.toNat_or, ofInt64 a ha, ofInt64 b hb, IntKind.wrap_i64]
  omega
theorem or_byte (k : Nat) (hk : k ≤ 24) (v x : Nat) (hv : v < 2 ^ k) (hx : x < 256) (X : Int) (hX : X = (x : Int) * ((2 ^ k : Nat) : Int)) : bits .or .i64 (v : Int) X = ((v + 2 ^ k * x : Nat) : Int) := by
  have h1 : 2 ^ k ≤ 16777216 := Nat.pow_le_pow_right (n := 2) (by omega) hk
  have h2 : x * 2 ^ k ≤ 255 * 16777216 := Nat.mul_le_mul (by omega) h1
  have hX' : X = ((x * 2 ^ k : Nat) : Int) := by rw [hX, Int.natCast_mul]
  rw [hX', or_nat _ _ (by omega) (by omega), Plain.or_shift _ _ _ hv]
theorem take_splice {α : Type} (L : List α) (off m : Nat) (X : List α) (h1 : off + X.length ≤ m) (h2 : m ≤ L.length) : (splice L off X).take m = splice (L.take m) off X := by
  apply List.ext_getElem?
  intro i
  have h3 : (L.take m).length = m := by simp; omega
  rw [splice_get _ _ _ _ (by omega), List.getElem?_take, splice_get _ _ _ _ (by omega)]
  by_cases a : i < m
  · rw [if_pos a, List.getElem?_take_of_lt a]
  · have e1 : ¬ i < off := by omega
    have e2 : ¬ i < off + X.length := by omega
    rw [if_neg a, if_neg e1, if_neg e2, List.getElem?_eq_none (by omega)]
theorem bvs_splice (l x : List UInt8) (off : Nat) : bvs (splice l off x) = splice (bvs l) off (bvs x) := by
  simp [splice, bvs, List.map_take, List.map_drop]
/-- A row of the call's own, over which bytes were laid. -/
theorem Own.spliced {w : World} {base e n c g p : Nat} {cs : List Value} {l x : List UInt8} (hr : RowL w g e (splice cs p (bvs x))) (hb : base ≤ g) (hc : cs.length = c) (hn : n ≤ c) (hm : c ≤ maxLen) (ht : cs.take n = bvs l) (hp : p + x.length ≤ n) :
    Own w base e (some ⟨g, 0, none⟩) n c (splice l p x) := by
  have hl : (splice cs p (bvs x)).length = c := by rw [length_splice _ _ _ (by rw [bvs_length]; omega), hc]
  have := hr.own (n := n) (cap := c) hb hn hm hl
  rw [take_splice _ _ _ _ (by rw [bvs_length]; exact hp) (by omega), ht, ← bvs_splice] at this
  exact this
/-- A law's end: it is true, and nothing that was there has turned. -/
def LawOk (w : World) (x : Ending) (w' : World) : Prop := x = .returned (.bool true) ∧ Below w.heap.size w w'
theorem LawOk.of {w w' : World} (h : Below w.heap.size w w') : LawOk w (.returned (.bool true)) w' := ⟨rfl, h⟩
/-- A slice of bytes that came in, as a row's proof opens it. -/
theorem Bs.came {w : World} {A : Option Addr} {len cap : Nat} {zs : List Int}
    (h : (A = none ∧ len = 0 ∧ cap = 0 ∧ zs = []) ∨ ∃ x, A = some x ∧ len ≤ cap ∧ cap ≤ maxLen ∧ zs.length = cap ∧ (∀ i, i < zs.length → w.cell? (x.add i) = some (.int .u8 (zs.getD i 0))) ∧ ∀ n ∈ zs, (Lit.int .u8 n).wf = true) :
    (∃ l, Bs w w.heap.size A len l) ∧ len ≤ cap := by
  rcases h with ⟨rfl, rfl, rfl, rfl⟩ | ⟨x, rfl, hl, _, hz, hcell, hwf⟩
  · exact ⟨⟨[], Bs.none_ _ _ _⟩, Nat.le_refl _⟩
  · refine ⟨⟨(zs.take len).map fun z => UInt8.ofNat z.toNat, by simp; omega, fun hn => ?_⟩, hl⟩
    obtain ⟨b, off, spot⟩ := x
    have hspot : spot = none := by simpa [Addr.add] using World.cell?_spot (hcell 0 (by omega))
    subst hspot
    have hadd : ∀ i, (⟨b, off, none⟩ : Addr).add i = ⟨b, off + i, none⟩ := by
      intro i
      unfold Addr.add
      split
      · rename_i h0; subst h0; rfl
      · rfl
    refine ⟨b, off, rfl, ?_, fun i y hy => ?_⟩
    · have := block_lt_of_cell (hcell 0 (by omega))
      rwa [hadd] at this
    · simp only [List.getElem?_map, Option.map_eq_some_iff] at hy
      obtain ⟨z, hz1, rfl⟩ := hy
      rw [List.getElem?_take] at hz1
      split at hz1
      · have hi := (List.getElem?_eq_some_iff.1 hz1).1
        rw [← hadd, hcell i hi]
        have hmem : z ∈ zs := List.mem_of_getElem? hz1
        have hw := hwf z hmem
        have hb : 0 ≤ z ∧ z < 256 := by
          simp [Lit.wf, IntKind.min, IntKind.max, IntKind.signed, IntKind.bits] at hw
          omega
        simp only [List.getD, hz1, Option.getD_some, bv]
        congr 2
        simp
        omega
      · cases hz1
theorem below_step {w w1 w2 : World} (h : Below w.heap.size w w1) (k : Below w1.heap.size w1 w2) : Below w.heap.size w w2 := h.trans (k.mono h.size)
theorem below_new {w w1 : World} (h : Below w.heap.size w w1) (o : Obj) : Below w.heap.size w (w1.alloc o) := h.alloc h.size o
theorem below_self (w : World) : Below w.heap.size w w := Below.refl _ _
theorem Bs.pre {w : World} {B n i : Nat} {A : Option Addr} {l : List UInt8} (h : Bs w B A n l) (hi : i ≤ n) : Bs w B A i (l.take i) := by
  refine ⟨by have := h.1; simp; omega, fun hn => ?_⟩
  obtain ⟨b, o, e, hb, hc⟩ := h.2 (by omega)
  refine ⟨b, o, e, hb, fun j x hx => hc j x ?_⟩
  rw [List.getElem?_take] at hx
  split at hx
  · exact hx
  · cases hx
theorem Bs.suf {w : World} {B n i c b o o' : Nat} {l : List UInt8} (h : Bs w B (some ⟨b, o, none⟩) n l) (hi : i ≤ n) (hc : n ≤ c) (ho : o + i = o') : Bs w B (if c = i then some ⟨b, o, none⟩ else some ⟨b, o', none⟩) (n - i) (l.drop i) := by
  subst ho
  refine ⟨by have := h.1; simp; omega, fun hn => ?_⟩
  rw [if_neg (by omega)]
  obtain ⟨b', o', e, hb, hc⟩ := h.2 (by omega)
  cases e
  refine ⟨_, _, rfl, hb, fun j x hx => ?_⟩
  rw [List.getElem?_drop] at hx
  rw [Nat.add_assoc]
  exact hc _ x hx
theorem take_splice_pre {α : Type} (L : List α) (off : Nat) (X : List α) (h : off + X.length ≤ L.length) : (splice L off X).take off = L.take off := by
  have : (L.take off).length = off := by simp; omega
  simp only [splice]
  rw [List.take_left' this]
theorem drop_splice_suf {α : Type} (L : List α) (off n : Nat) (X : List α) (hX : X.length = n) (h : off + X.length ≤ L.length) : (splice L off X).drop (off + n) = L.drop (off + n) := by
  subst hX
  apply List.ext_getElem?
  intro i
  rw [List.getElem?_drop, List.getElem?_drop, splice_get _ _ _ _ h]
  have e1 : ¬ off + X.length + i < off := by omega
  have e2 : ¬ off + X.length + i < off + X.length := by omega
  rw [if_neg e1, if_neg e2]
/-- copy(dst, b): as many of b's bytes as have room, laid over a whole row. -/
theorem wpList_copy_min {P : Program} {w : World} {ops : Array Oper} {rest : List Oper} {o : Oper} {a : Act} {Q : Exit → Act → World → Prop} (hgd : o.guard = none) (d s : Operand) (dT sT : TypeId)
    (ho : o.op = .call { callee := .builtin .copy, args := #[d, s], argTypes := #[dT, sT] }) (elem : TypeId) (hu : P.underlying dT = some (.slice elem)) (hsz : (P.info? elem).map (·.size) = some 1)
    (g N dCap : Nat) (hd : a.eval d = .slice (some ⟨g, 0, none⟩) N dCap) (cur : List Value) (t : TypeId) (hr : RowL w g t cur)
    (A : Option Addr) (m c : Nat) (hs : a.eval s = .slice A m c) (BB : Nat) (l : List UInt8) (hbs : Bs w BB A m l) (hcur : cur.length = N) (B : Nat) (w0 : World) (hb : Below B w0 w) (hBg : B ≤ g)
    (h : ∀ w', RowL w' g t (splice cur 0 (bvs (l.take N))) → Below B w0 w' → wpList P ops Q rest (a.put o.dst (goInt (min m N : Nat))) w') : wpList P ops Q (o :: rest) a w := by
  have hlen : (bvs (l.take N)).length = min m N := by rw [bvs_length, List.length_take, hbs.1, Nat.min_comm]
  refine wpList_copy_splice hgd d s dT sT ho elem hu hsz (some ⟨g, 0, none⟩) A N dCap m c hd hs g 0 cur t hr (bvs (l.take N)) hlen (fun hp => ⟨rfl, ?_⟩) (by rw [hlen, hcur]; omega) (bvs_one _) B w0 hb hBg ?_
  · obtain ⟨b, o', e, _, hc⟩ := hbs.2 (by omega)
    refine ⟨⟨b, o', none⟩, e, fun j u hu => ?_⟩
    obtain ⟨x, hx, rfl⟩ := bvs_of_get hu
    rw [List.getElem?_take] at hx
    split at hx
    · rw [← hc j x hx]
      congr 1
      unfold Addr.add
      split
      · rename_i h0; subst h0; rfl
      · rfl
    · cases hx
  · intro w' h1 h2
    have := h w' h1.out h2
    rwa [← hlen] at this
theorem Own.rebase {w : World} {b b' e n c : Nat} {A : Option Addr} {l : List UInt8} (h : Own w b e A n c l) (hb : b' ≤ b) : Own w b' e A n c l := by
  refine ⟨h.1, ?_⟩
  rcases h.2 with h0 | ⟨g, cap, cur, h1, h2, h3⟩
  · exact .inl h0
  · exact .inr ⟨g, cap, cur, h1, Nat.le_trans hb h2, h3⟩
/-- A literal's row, marked: bytes of a constant text. -/
theorem Bs.litm (w : World) (t : TypeId) (fr : Nat × Nat) {cs : List Value} {l : List UInt8} {n : Nat} (h : cs = bvs l) (hn : l.length = n) : Bs (w.alloc (.cells cs.toArray t fr)) (w.heap.size + 1) (some ⟨w.heap.size, 0, none⟩) n l := by
  subst hn
  subst h
  refine ⟨rfl, fun _ => ⟨_, _, rfl, by omega, fun i x hx => ?_⟩⟩
  rw [Nat.zero_add, cell_of_row _ _ _ _ _ fr (heap_alloc_new w _)]
  simpa using bvs_get hx
theorem bvs_set (l : List UInt8) (p : Nat) (y : UInt8) : bvs (l.set p y) = (bvs l).set p (bv y) := by simp [bvs, List.map_set]
theorem Own.set_ {w : World} {base e n c g : Nat} {l : List UInt8} (h : Own w base e (some ⟨g, 0, none⟩) n c l) (p : Nat) {u : Value} {y : UInt8} (hu : u = bv y) : Own (w.setCell ⟨g, p, none⟩ u) base e (some ⟨g, 0, none⟩) n c (l.set p y) := by
  subst hu
  unfold Own
  rw [bvs_set]
  exact (World.ownsRow.stored h p (bv y)).1
theorem ofInt8 (a : Nat) (ha : a < 256) : (BitVec.ofInt 8 (a : Int)).toNat = a := by
  rw [BitVec.ofInt_natCast, BitVec.toNat_ofNat]; exact Nat.mod_eq_of_lt (by omega)
theorem xor_u8 (a b : Nat) (ha : a < 256) (hb : b < 256) : bits .xor .u8 (a : Int) (b : Int) = ((a ^^^ b : Nat) : Int) := by
  have hx : a ^^^ b < 2 ^ 8 := Nat.xor_lt_two_pow (by omega) (by omega)
  show IntKind.u8.wrap ((BitVec.ofInt 8 (a : Int) ^^^ BitVec.ofInt 8 (b : Int)).toNat : Int) = _
  rw [BitVec.toNat_xor, ofInt8 a ha, ofInt8 b hb]
  simp [IntKind.wrap, IntKind.bits, IntKind.signed]
  omega
theorem Own.lit (w : World) (e : TypeId) {cs : List Value} {l : List UInt8} {n : Nat} (h : cs = bvs l) (hn : l.length = n) (hm : n ≤ 140737488355328) : Own (w.alloc (.cells cs.toArray e)) w.heap.size e (some ⟨w.heap.size, 0, none⟩) n n l := by
  subst hn
  subst h
  have := World.ownsRow_lit (base := w.heap.size) (size := 1) (e := e) w (bvs l).toArray l.length (Nat.le_refl _) (by simp only [maxLen]; omega) (by simp [bvs_length])
  simpa [Own] using this
theorem Own.one (w : World) (e : TypeId) {u : Value} {x : UInt8} (h : u = bv x) : Own (w.alloc (.cells #[u] e)) w.heap.size e (some ⟨w.heap.size, 0, none⟩) 1 1 [x] :=
  Own.lit w e (cs := [u]) (by rw [h]; rfl) rfl (by omega)
theorem Own.nil_ (w : World) (base e : Nat) : Own w base e none 0 0 [] := World.ownsRow_nil _ _ _ _
theorem below_drewN {B : Nat} {a w : World} (h : Below B a w) (n : Nat) : Below B a (w.drewN n) := ⟨h.os, h.tape, h.output, h.size, h.block⟩
end Go.Proofs.YtnehkgbdppbhiaaGreat
