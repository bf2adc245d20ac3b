/- walk: the walker in memory; add (layer 13). -/
import Derived.Test.YtnehkgbdppbhiaaWalF
import Derived.Test.YtnehkgbdppbhiaaPlanN
import Derived.Test.YtnehkgbdppbhiaaMemQ
import Derived.Great.BuildSlice
namespace Go.Proofs.Ytnehkgbdppbhiaa
open Go.RowKit Go.Shelf Plain

/-- A way's cells; those of a name by where it stands. -/
def wayC (y : WayV) : List Value := [.int .i64 y.ino, .int .i64 y.up, .string ⟨y.name.toArray⟩]
def twC (q : Int × Nat) : List Value := [.int .i64 q.1, .int .i64 (q.2 : Int)]
def flatW (l : List WayV) : List Value := l.flatMap wayC
def flatT (l : List (Int × Nat)) : List Value := l.flatMap twC
theorem flatW_snoc (l : List WayV) (y : WayV) : flatW (l ++ [y]) = flatW l ++ wayC y := by simp [flatW]
theorem flatT_snoc (l : List (Int × Nat)) (q : Int × Nat) : flatT (l ++ [q]) = flatT l ++ twC q := by simp [flatT]
theorem flatW_len (l : List WayV) : (flatW l).length = l.length * 3 := by
  induction l with
  | nil => rfl
  | cons x r ih => rw [show flatW (x :: r) = wayC x ++ flatW r from rfl, List.length_append, ih, List.length_cons]; simp only [wayC, List.length_cons, List.length_nil]; omega
theorem flatT_len (l : List (Int × Nat)) : (flatT l).length = l.length * 2 := by
  induction l with
  | nil => rfl
  | cons x r ih => rw [show flatT (x :: r) = twC x ++ flatT r from rfl, List.length_append, ih, List.length_cons]; simp only [twC, List.length_cons, List.length_nil]; omega
theorem SetW.not_own {W : World} {b c base e s n : Nat} {f : Int → Bool} {v : Value} {xs : List Value} (h : SetW W b c f) (ho : W.ownsRow base e s v n xs) : v.ownBlock = none ∨ v.ownBlock ≠ some b := by
  obtain ⟨o, h1, -, h2⟩ := h.obj
  refine .inr fun e => ?_
  obtain ⟨-, -, o', h3, h4⟩ := own_block ho b e
  rw [h1] at h3
  cases Option.some.inj h3
  rw [h2] at h4
  cases h4
theorem SetW.not_row {W : World} {b c g t : Nat} {f : Int → Bool} {cs : List Value} (h : SetW W b c f) (hr : RowL W g t cs) : some g ≠ some b := by
  obtain ⟨o, h1, -, h2⟩ := h.obj
  intro e
  have e := Option.some.inj e
  subst e
  rw [show W.heap[g]? = _ from hr] at h1
  cases Option.some.inj h1
  cases h2
section
variable {B g b : Nat} {A C E : World}
theorem heap_lt {W : World} {k : Nat} {o : Obj} (h : W.heap[k]? = some o) : k < W.heap.size := (Array.getElem?_eq_some_iff.1 h).1
end
section
variable {B g b : Nat} {ns : List NodV} {s : StW} {W W' : World}
end
def zway : Value := .agg #[.int .i64 0, .int .i64 0, .string ⟨#[]⟩]
/-- One element behind a row, as a step of a drawn region. -/
theorem wp_appF {P : Program} {o : Oper} {a : Act} {K : Act → World → Prop} {Q : Exit → Act → World → Prop} (W3 : World) (base B3 : Nat) (hB3 : W3.heap.size = B3) (s x : Operand) (t e : TypeId)
    (hop : o.op = Op.call { callee := Callee.builtin Builtin.append, args := #[s, x], argTypes := #[t, t] }) (ht : P.underlying t = some (.slice e)) (z : Value) (k k8 : Nat) (hinfo : (P.info? e).map (fun i => (i.zero, i.size, i.bytes)) = some (some z, k, k8)) (hz : z.cells.size = k) (hk : 0 < k) (hk2 : k8 ≤ 1000)
    (A1 : Option Addr) (n1 c1 : Nat) (L1 cs : List Value) (hlen : cs.length = k) (h1c : ∀ u ∈ cs, u.oneCell' = true) (hs : a.eval s = .slice A1 n1 c1) (ho1 : W3.ownsRow base e k (.slice A1 n1 c1) n1 L1)
    (hx : a.eval x = .slice (some ⟨B3, 0, none⟩) 1 1) (hm : n1 ≤ 100000) (hb : base ≤ W3.heap.size)
    (hK : ∀ A5 c5 W5, W5.ownsRow base e k (.slice A5 (n1 + 1) c5) (n1 + 1) (L1 ++ cs) → (W3.alloc (.cells cs.toArray e)).grownBy W5 (Value.slice A1 n1 c1).ownBlock → K (a.put o.dst (.slice A5 (n1 + 1) c5)) W5) :
    o.wp P a (W3.alloc (.cells cs.toArray e)) K Q := by
  subst hB3
  obtain ⟨ie, hie, hze, hse, hbe⟩ := info_parts hinfo
  have hc := (RowL.new W3 e cs).src (off := 0) (m := k) (l := cs) (by simp [← hlen]) hlen
  obtain ⟨v', W5, hr, ho5, hg5, _⟩ := run_append_own (P := P) (W3.alloc (.cells cs.toArray e)) base t o.type e ie z k k8 ht hie hze hse hbe hz hk (.slice A1 n1 c1) n1 L1 (ho1.alloc _) ⟨W3.heap.size, 0, none⟩ 1 1 cs (by rw [Nat.one_mul]; exact hlen) hc h1c (by simp only [maxLen]; omega) (by have : (n1 + 1) * k8 ≤ 100001 * 1000 := Nat.mul_le_mul (by omega) hk2; omega) (by rw [World.size_alloc]; omega)
  obtain ⟨A5, c5, rfl⟩ := owns_slice ho5
  unfold Oper.wp execOp
  simp only [hop, resolve, invoke, builtin, Sem.run_bind, Sem.run_pure, Result.andThen_ok, List.map_toArray, List.map_cons, List.map_nil, hs, hx, hr]
  exact hK A5 c5 W5 ho5 hg5
theorem came_snoc (l : List WayV) (y : WayV) : cameW (l ++ [y]) = fun x => cameW l x || x == y.ino := by
  funext x
  unfold cameW
  rw [List.any_append, List.any_cons, List.any_nil, Bool.or_false]
  congr 1
  exact BEq.comm
end Go.Proofs.Ytnehkgbdppbhiaa
