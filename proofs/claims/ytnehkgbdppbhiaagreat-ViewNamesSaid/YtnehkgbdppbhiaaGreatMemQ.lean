/- Words: a whole variable, loaded in a region that draws its order; three results, the first one in memory. Nothing here speaks of a program. -/
import Derived.Test.YtnehkgbdppbhiaaGreatMemI
namespace Go.Proofs.YtnehkgbdppbhiaaGreat
open Go.RowKit Plain

section
variable {P : Program} {T : TypeId}
theorem execOp_load {ρ : Operand → Value} {o : Oper} {x : Operand} {k : Nat} {w : World} (ho : o.op = .load T x) (hag : ∀ w, (isAgg T).run P w = .ok true w) (hsz : ∀ w, (sizeOf T).run P w = .ok k w) {g off : Nat} {cs : List Value} (hx : ρ x = .pointer (some ⟨g, off, none⟩)) (h : ∀ j v, cs[j]? = some v → w.cell? ⟨g, off + j, none⟩ = some v) (hk : cs.length = k) :
    (execOp ρ o).run P w = .ok (.value (.agg cs.toArray)) w := by
  have hr := run_loadAt_cells (P := P) hag hsz h hk
  unfold execOp
  simp only [ho, Sem.run_bind, Sem.run_pure, Result.andThen_ok, hx, hr]
theorem res_cell3 {fn : Func} {tmps : Array Value} {w : World} {s u u' g t k : Nat} {cs : List Value} {v v' : Value} (hr : fn.results = #[.cell s T, .tmp u, .tmp u']) (ht : tmps.getD s undef = .pointer (some ⟨g, 0, none⟩)) (hu : tmps.getD u undef = v) (hu' : tmps.getD u' undef = v') (hag : ∀ w, (isAgg T).run P w = .ok true w) (hsz : ∀ w, (sizeOf T).run P w = .ok k w)
    (h : RowL w g t cs) (hk : cs.length = k) : (results fn tmps).run P w = .ok (.tuple #[.agg cs.toArray, v, v']) w := by
  have hl := run_loadRow (P := P) h hk
  have ht' : tmps[s]?.getD undef = .pointer (some ⟨g, 0, none⟩) := by simpa using ht
  have hu1 : tmps[u]?.getD undef = v := by simpa using hu
  have hu2 : tmps[u']?.getD undef = v' := by simpa using hu'
  simp [results, hr, ht', hu1, hu2, hag, hsz, hl, go_sem]
/-- A row's cells, as a whole load asks for them. -/
theorem RowL.at0 {w : World} {g t : Nat} {cs : List Value} (h : RowL w g t cs) : ∀ j v, cs[j]? = some v → w.cell? ⟨g, 0 + j, none⟩ = some v := fun j v hv => by rw [Nat.zero_add, h.cell]; exact hv
end
end Go.Proofs.YtnehkgbdppbhiaaGreat
