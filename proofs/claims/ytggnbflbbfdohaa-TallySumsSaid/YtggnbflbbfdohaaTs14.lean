import Derived.Test.YtggnbflbbfdohaaTs7

namespace Go.Proofs.Ytggnbflbbfdohaa
open Go.RowKit Plain

section
variable {P : Program} {T : TypeId}
theorem execOp_load {ρ:Operand→Value} {o:Oper} {x:Operand} {k:Nat} {w:World} (ho:o.op=.load T x) (hag:∀w,(isAgg T).run P w=.ok true w) (hsz:∀w,(sizeOf T).run P w=.ok k w) {g off:Nat} {cs:List Value} (hx:ρ x=.pointer (some ⟨g,off,none⟩)) (h:∀j v,cs[j]?=some v→w.cell? ⟨g,off+j,none⟩=some v) (hk:cs.length=k) :
  (execOp ρ o).run P w=.ok (.value (.agg cs.toArray)) w:=by
 have hr:=run_loadAt_cells (P:=P) hag hsz h hk
 unfold execOp
 simp only [ho,Sem.run_bind,Sem.run_pure,Result.andThen_ok,hx,hr]
theorem RowL.at0 {w:World} {g t:Nat} {cs:List Value} (h:RowL w g t cs):∀j v,cs[j]?=some v→w.cell? ⟨g,0+j,none⟩=some v:=fun j v hv=>by rw [Nat.zero_add,h.cell];exact hv
end
end Go.Proofs.Ytggnbflbbfdohaa

