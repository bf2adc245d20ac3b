/- walk: Prune (layer 13). -/
import Derived.Test.YtnehkgbdppbhiaaWalR
namespace Go.Proofs.Ytnehkgbdppbhiaa
open Go.RowKit Go.Shelf Plain

theorem setB_get {bs : List Bool} {i : Int} (hi : 1 ≤ i) (j : Nat) : (setB bs i)[j]? = (bs[j]?).map (fun x => x || i == (j : Int) + 1) := by
  unfold setB
  rw [List.getElem?_set]
  split
  · rename_i h
    have e : i = (j : Int) + 1 := by omega
    rw [e]
    split
    · rename_i hl
      rw [List.getElem?_eq_getElem (by omega)]
      simp
    · rename_i hl
      rw [List.getElem?_eq_none (by omega)]
      rfl
  · rename_i h
    have e : (i == (j : Int) + 1) = false := by rw [beq_eq_false_iff_ne]; omega
    rw [e]
    cases bs[j]? <;> simp
theorem entF_get {ns : List NodV} {bs : List Bool} {e : EntV} {j : Nat} (hj : j < ns.length) : (entF ns bs e)[j]? = (bs[j]?).map (fun x => x || e.ino == (j : Int) + 1) := by
  unfold entF
  split
  · rename_i h
    unfold inN at h
    simp only [Bool.and_eq_true, decide_eq_true_eq] at h
    exact setB_get h.1 j
  · rename_i h
    have e1 : (e.ino == (j : Int) + 1) = false := by
      rw [beq_eq_false_iff_ne]
      intro e2
      apply h
      unfold inN
      simp only [Bool.and_eq_true, decide_eq_true_eq]
      omega
    rw [e1]
    cases bs[j]? <;> simp
theorem entsF_get {ns : List NodV} {j : Nat} (hj : j < ns.length) : ∀ (l : List EntV) (bs : List Bool), (l.foldl (entF ns) bs)[j]? = (bs[j]?).map (fun x => x || l.any (fun e => e.ino == (j : Int) + 1)) := by
  intro l
  induction l with
  | nil => intro bs; cases h : bs[j]? <;> simp [h]
  | cons e r ih =>
    intro bs
    rw [List.foldl_cons, ih, entF_get hj]
    cases bs[j]? <;> simp [Bool.or_assoc]
theorem wayF_get {ns : List NodV} {bs : List Bool} {y : WayV} {j : Nat} (hj : j < ns.length) (hy : 1 ≤ y.ino) : (wayF ns bs y)[j]? = (bs[j]?).map (fun x => x || (y.ino == (j : Int) + 1 || (nodAt ns y.ino).ents.any (fun e => e.ino == (j : Int) + 1))) := by
  unfold wayF
  rw [entsF_get hj, setB_get hy]
  cases bs[j]? <;> simp [Bool.or_assoc]
theorem waysF_get {ns : List NodV} {j : Nat} (hj : j < ns.length) : ∀ (l : List WayV) (_ : ∀ y ∈ l, 1 ≤ y.ino) (bs : List Bool), (l.foldl (wayF ns) bs)[j]? = (bs[j]?).map (fun x => x || reachW ns l ((j : Int) + 1)) := by
  intro l
  induction l with
  | nil => intro _ bs; cases h : bs[j]? <;> simp [h, reachW]
  | cons y r ih =>
    intro hy bs
    rw [List.foldl_cons, ih (fun z hz => hy z (List.mem_cons_of_mem _ hz)), wayF_get hj (hy y List.mem_cons_self)]
    cases bs[j]? <;> simp [Bool.or_assoc, reachW]
theorem reachL_get {ns : List NodV} {l : List WayV} (hok : OkW ns l) {j : Nat} (hj : j < ns.length) : (reachL ns l)[j]? = some (reachW ns l ((j : Int) + 1)) := by
  unfold reachL
  rw [waysF_get hj l (fun y hy => by have := isDir_in (hok.1 y hy); omega), List.getElem?_replicate, if_pos hj]
  simp
theorem cell_same {W W' : World} {b o : Nat} (h : W'.heap[b]? = W.heap[b]?) : W'.cell? ⟨b, o, none⟩ = W.cell? ⟨b, o, none⟩ := by
  unfold World.cell?
  simp only [h]
/-- A key put into a map, as the walk meets it. -/
theorem wpList_put {P : Program} {w w' : World} {ops : Array Oper} {rest : List Oper} {o : Oper} {a : Act} {Q : Exit → Act → World → Prop} (hgd : o.guard = none) (t : Nat) (x y z : Operand) (ho : o.op = .mapUpdate t x y z) (vx vy vz : Value) (hx : a.eval x = vx) (hy : a.eval y = vy) (hz : a.eval z = vz) (hr : (Instr.mapUpdate t vx vy vz).run P w = .ok () w') (hK : wpList P ops Q rest (a.put o.dst undef) w') : wpList P ops Q (o :: rest) a w := by
  refine wpList_plain hgd fun K hK' => ?_
  unfold Oper.wp execOp
  simp only [ho, Sem.run_bind, Sem.run_pure, Result.andThen_ok, hx, hy, hz, hr]
  exact hK' _ _ hK
/-- It returns a layer. -/
def LayRet (w : World) (ns : List NodV) (e : Ending) (w' : World) : Prop := ∃ A n c, e = .returned (.agg #[.slice A n c]) ∧ n ≤ c ∧ RdE nodEn w' (fun b => w.heap.size ≤ b ∧ b < w'.heap.size) A n ns ∧ Below w.heap.size w w'
set_option maxRecDepth 100000 in
theorem lay_agg : ∀ w, (isAgg 26).run Try.prog w = .ok true w := fun w => by kernel_rfl
set_option maxRecDepth 100000 in
theorem lay_size : ∀ w, (Go.sizeOf 26).run Try.prog w = .ok 1 w := fun w => by kernel_rfl
end Go.Proofs.Ytnehkgbdppbhiaa
