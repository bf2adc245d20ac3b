import Derived.Test.YtggnbflbbfdohaaTs4
import Derived.BigQuiet
import Derived.Deep.QuietTactic
import Derived.Test.YtggnbflbbfdohaaTs23
import Derived.Test.YtggnbflbbfdohaaTs1
import Derived.Test.YtggnbflbbfdohaaTs13
import Derived.Test.YtggnbflbbfdohaaTs24
import Derived.Lib.Join
import Derived.BigRegion
import Derived.StillTailTactics
import Derived.Deep.Cut
import Derived.Deep.CutRange

namespace Go.Proofs.Ytggnbflbbfdohaa
open Go.RowKit

theorem quietL {P:Program} {C:World→Prop} {o:Oper} {a:Act} {K:Act→Prop} (T:Nat) (x:Operand) (ho:o.op=.load T x) (p v:Value) (hx:a.eval x=p) (hl:∀w,C w→(Instr.loadAt T p).run P w=.ok v w) (hk:K (a.put o.dst v)):o.quiet P a C K :=
 ⟨v,fun w hw=>by
  unfold Oper.quietAt execOp
  simp only [ho,Sem.run_bind,Sem.run_pure,Result.andThen_ok,hx,hl w hw]
  exact ⟨rfl,rfl⟩,hk⟩
end Go.Proofs.Ytggnbflbbfdohaa

namespace Go.Proofs.Ytggnbflbbfdohaa
open Go.RowKit Plain

def BRt (w:World) (b:Bool) (x:Ending) (w':World):Prop:=x=.returned (.bool b)∧Below w.heap.size w w'
theorem BRt.of {w w':World} {b c:Bool} (h:Below w.heap.size w w') (hb:b=c):BRt w c (.returned (.bool b)) w':=by subst hb;exact ⟨rfl,h⟩

end Go.Proofs.Ytggnbflbbfdohaa

namespace Go.Proofs.Ytggnbflbbfdohaa
open Go

inductive PT (α : Type) where
 | leaf:PT α
 | take:α→PT α→PT α
 | alt:α→PT α→PT α→PT α
 | stop:PT α
def PT.map {α β : Type} (f : α → β) : PT α → PT β
 | .leaf=>.leaf
 | .take x t=>.take (f x) (t.map f)
 | .alt x t u=>.alt (f x) (t.map f) (u.map f)
 | .stop=>.stop
section
variable {P : Program} {ops : Array Oper} {Q : Exit → Act → World → Prop} {S : World → Prop}
end
end Go.Proofs.Ytggnbflbbfdohaa

namespace Go.Proofs.Ytggnbflbbfdohaa
open Go.RowKit Go.Shelf Plain

def RdN {α:Type} (E:Enc α) (W:World) (g:Nat) (A:Option Addr) (n:Nat) (l:List α):Prop:=RdE E W (fun b=>b < W.heap.size∧b≠g) A n l
section
variable {α : Type} {E : Enc α} {W W' : World} {g n : Nat} {A : Option Addr} {l : List α}
theorem RdN.on (h:RdN E W g A n l) (hb:Below W.heap.size W W'):RdN E W' g A n l:=RdE.mono h (fun _ hb'=>hb.block _ hb'.1) (fun _ hb'=>⟨Nat.lt_of_lt_of_le hb'.1 hb.size,hb'.2⟩)
theorem RdN.grown (h:RdN E W g A n l) (hg:W.grownBy W' (some g)):RdE E W' (Under W'.heap.size) A n l:=RdE.mono h (fun _ hb=>hg.block _ hb.1 (fun e=>hb.2 (Option.some.inj e))) (fun _ hb=>Nat.lt_of_lt_of_le hb.1 hg.size)
end
theorem ent_row {W:World} {g t:Nat} {l:List EntV} {D:Nat→Prop} (h:RowL W g t (flatE l)) (hD:D g):RdE entEn W D (some ⟨g,0,none⟩) l.length l:=by
 refine ⟨rfl,fun _=>⟨g,0,rfl,hD,fun i x hx=>⟨cellsE x,⟨[_],[_,_],rfl,rfl,[_],[_],rfl,rfl,rfl⟩,fun j v hv=>?_⟩⟩⟩
 have hj:j < 3:=by have:=(List.getElem?_eq_some_iff.1 hv).1;simpa [cellsE] using this
 rw [Nat.zero_add,h.cell]
 have:=flat_get (k:=3) (css:=l.map cellsE) (fun cs hc=>by obtain ⟨z,_,rfl⟩:=List.mem_map.1 hc;rfl) (i:=i) (j:=j) (cs:=cellsE x) (by rw [List.getElem?_map,hx];rfl) hj
 rw [show flatE l=(l.map cellsE).flatten from by simp [flatE,List.flatMap]]
 exact this.trans hv
end Go.Proofs.Ytggnbflbbfdohaa

