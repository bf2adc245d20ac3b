/- walk: comparisons of lists, path.Join (layer 13). -/
import Derived.Test.YtnehkgbdppbhiaaWalS
import Derived.Test.YtnehkgbdppbhiaaLibStr
import Derived.Lib.Join
import Derived.BigQuiet
import Derived.BigRegion
import Derived.Deep.QuietTactic
import Derived.StillTailTactics
namespace Go.Proofs.Ytnehkgbdppbhiaa
open Go.RowKit Go.Shelf Plain

theorem RdE.cellsR {α : Type} {E : Enc α} {w : World} {D : Nat → Prop} {A : Option Addr} {n : Nat} {l : List α} (h : RdE E w D A n l) (hn : 0 < n) : ∃ b o, A = some ⟨b, o, none⟩ ∧ ∀ i x, l[i]? = some x → ∃ cs, E.R w D cs x ∧ ∀ j v, cs[j]? = some v → w.cell? ⟨b, o + i * E.k + j, none⟩ = some v := by
  obtain ⟨b, o, e, -, hc⟩ := h.2 hn
  refine ⟨b, o, e, fun i x hx => ?_⟩
  obtain ⟨cs, h1, h2⟩ := hc i x hx
  exact ⟨cs, h1, fun j v hv => by rw [Nat.add_assoc]; exact h2 j v hv⟩
theorem quietL {P : Program} {C : World → Prop} {o : Oper} {a : Act} {K : Act → Prop} (T : Nat) (x : Operand) (ho : o.op = .load T x) (p v : Value) (hx : a.eval x = p) (hl : ∀ w, C w → (Instr.loadAt T p).run P w = .ok v w) (hk : K (a.put o.dst v)) : o.quiet P a C K :=
  ⟨v, fun w hw => by
    unfold Oper.quietAt execOp
    simp only [ho, Sem.run_bind, Sem.run_pure, Result.andThen_ok, hx, hl w hw]
    exact ⟨rfl, rfl⟩, hk⟩
end Go.Proofs.Ytnehkgbdppbhiaa
