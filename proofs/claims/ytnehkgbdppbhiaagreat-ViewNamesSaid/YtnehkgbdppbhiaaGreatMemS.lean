/- Words for texts: '[]byte(s)', copy from a text, a bool that is returned. Nothing here speaks of a program. -/
import Derived.Test.YtnehkgbdppbhiaaGreatMemR
import Derived.Lib.ConvBytes
import Derived.Lib.BufferWrite
namespace Go.Proofs.YtnehkgbdppbhiaaGreat
open Go.RowKit

/-- It returns a bool, and nothing that was there has turned. -/
def BoolB (w : World) (b : Bool) (x : Ending) (w' : World) : Prop := x = .returned (.bool b) ∧ Below w.heap.size w w'
theorem BoolB.of {w w' : World} {b : Bool} (h : Below w.heap.size w w') : BoolB w b (.returned (.bool b)) w' := ⟨rfl, h⟩
theorem BoolB.eq {w w' : World} {a b : Bool} (e : a = b) (h : Below w.heap.size w w') : BoolB w b (.returned (.bool a)) w' := ⟨by rw [e], h⟩

theorem below_bytesWorld (w : World) (e : TypeId) (s : ByteArray) : Below w.heap.size w (Lib.bytesWorld w e s) :=
  ⟨rfl, rfl, rfl, by rw [Lib.bytesWorld_size]; omega, fun k hk => Lib.bytesWorld_at_old w e s k hk⟩
theorem Bs.bytesWorld (w : World) (e : TypeId) (l : List UInt8) : Bs (Lib.bytesWorld w e ⟨l.toArray⟩) (w.heap.size + 1) (some ⟨w.heap.size, 0, none⟩) l.length l := by
  refine ⟨rfl, fun _ => ⟨_, _, rfl, by omega, fun i x hx => ?_⟩⟩
  have hi := (List.getElem?_eq_some_iff.1 hx).1
  rw [Nat.zero_add, Lib.bytesWorld_cell w e ⟨l.toArray⟩ i (by simpa [ByteArray.size] using hi)]
  simp only [List.getD, hx, Option.getD_some, bv]

/-- '[]byte(s)'. -/
theorem wpList_bytes_Bs {P : Program} (w : World) {ops : Array Oper} {rest : List Oper} {o : Oper} {a : Act} {Q : Exit → Act → World → Prop} (hgd : o.guard = none) (x : Operand) (src dst e : TypeId)
    (ho : o.op = .convert src dst x) (hs : P.underlying src = some .string) (hd : P.underlying dst = some (.slice e)) (he : P.underlying e = some (.int .u8))
    (l : List UInt8) (n : Nat) (hn : l.length = n) (hx : a.eval x = .string ⟨l.toArray⟩)
    (h : ∀ c w', Bs w' w'.heap.size (some ⟨w.heap.size, 0, none⟩) n l → Below w.heap.size w w' → wpList P ops Q rest (a.put o.dst (.slice (some ⟨w.heap.size, 0, none⟩) n c)) w') : wpList P ops Q (o :: rest) a w := by
  subst hn
  refine wpList_plain hgd fun K hK => ?_
  have hr := Lib.run_convert_string_bytes (P := P) w src dst e ⟨l.toArray⟩ hs hd he
  unfold Oper.wp execOp
  simp only [ho, Sem.run_bind, Sem.run_pure, Result.andThen_ok, hx, hr]
  refine hK _ _ (h _ _ ((Bs.bytesWorld w e l).more (by rw [Lib.bytesWorld_size]; omega)) (below_bytesWorld _ _ _))

/-- copy(dst, s): a text that has room, laid over a row. -/
theorem wpList_copy_text {P : Program} {w : World} {ops : Array Oper} {rest : List Oper} {o : Oper} {a : Act} {Q : Exit → Act → World → Prop} (hgd : o.guard = none) (d s : Operand) (dT sT : TypeId)
    (ho : o.op = .call { callee := .builtin .copy, args := #[d, s], argTypes := #[dT, sT] }) (elem : TypeId) (hu : P.underlying dT = some (.slice elem)) (hsz : (P.info? elem).map (·.size) = some 1)
    (g p N dCap : Nat) (hd : a.eval d = .slice (some ⟨g, p, none⟩) N dCap) (cur : List Value) (t : TypeId) (hr : RowL w g t cur)
    (l : List UInt8) (hs : a.eval s = .string ⟨l.toArray⟩) (hlN : l.length ≤ N) (hfit : p + l.length ≤ cur.length) (B : Nat) (w0 : World) (hb : Below B w0 w) (hBg : B ≤ g)
    (h : ∀ w', RowL w' g t (splice cur p (bvs l)) → Below B w0 w' → wpList P ops Q rest (a.put o.dst (goInt l.length)) w') : wpList P ops Q (o :: rest) a w := by
  refine wpList_plain hgd fun K hK => ?_
  have hrun := Lib.run_copy_row_string (P := P) w dT sT o.type elem g p N dCap ⟨l.toArray⟩ cur.toArray t hu hsz hr (by simpa [ByteArray.size] using hlN) (by simpa [ByteArray.size] using hfit)
  unfold Oper.wp execOp
  simp only [ho, resolve, invoke, builtin, Sem.run_bind, Sem.run_pure, Result.andThen_ok, List.map_toArray, List.map_cons, List.map_nil, hd, hs, hrun]
  refine hK _ _ (h _ ?_ (below_setRow hb hBg _))
  have := setRow_heap w g cur.toArray (cur.take p ++ Lib.byteCells l ++ cur.drop (p + l.length)).toArray t _ hr
  have e : ({ data := l.toArray } : ByteArray).size = l.length := by simp [ByteArray.size]
  have e2 : Lib.byteCells l = bvs l := rfl
  rw [e2] at this
  rw [e]
  simpa [RowL, splice, e2, bvs_length] using this
end Go.Proofs.YtnehkgbdppbhiaaGreat
