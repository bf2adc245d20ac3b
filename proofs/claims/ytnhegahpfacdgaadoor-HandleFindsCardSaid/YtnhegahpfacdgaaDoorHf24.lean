import Derived.Test.YtnhegahpfacdgaaDoorHf22
import Derived.Test.YtnhegahpfacdgaaDoorHf23
import Derived.Test.YtnhegahpfacdgaaDoorHf17
import Derived.Deep.Cut
import Derived.Deep.CutRange

namespace Go.Proofs.YtnhegahpfacdgaaDoor
open Go.RowKit Go.Shelf Plain

section
variable {P : Program} {T T' k k' : Nat}
end
def FirstBS (w9:World) (base ge gn r1 r2:Nat) (ec nc:List Value) (W:World):Prop:=RowL W ge 76 ec∧RowL W gn 44 nc∧(∃cu,RowL W r1 76 cu∧cu.length=3)∧(∃cu,RowL W r2 44 cu∧cu.length=13)∧Below base w9 W
theorem FirstBS.drew {w9:World} {base ge gn r1 r2:Nat} {ec nc:List Value} {W:World} (h:FirstBS w9 base ge gn r1 r2 ec nc W):FirstBS w9 base ge gn r1 r2 ec nc W.drew:=⟨h.1,h.2.1,h.2.2.1,h.2.2.2.1,⟨h.2.2.2.2.os,h.2.2.2.2.tape,h.2.2.2.2.output,h.2.2.2.2.size,h.2.2.2.2.block⟩⟩
end Go.Proofs.YtnhegahpfacdgaaDoor

namespace Go.Proofs.YtnhegahpfacdgaaDoor
open Go.RowKit Go.Shelf Plain

def FirstS (wc:World) (base g8 g9 r2 r3:Nat) (p:Int×Int) (ec nc:List Value) (W:World):Prop:=(RowL W g8 76 ec∧RowL W (base+1) 71 (prC p))∧RowL W g9 44 nc∧(∃cu,RowL W r2 71 cu∧cu.length=2)∧(∃cu,RowL W r3 44 cu∧cu.length=13)∧Below base wc W
theorem FirstS.drew {wc:World} {base g8 g9 r2 r3:Nat} {p:Int×Int} {ec nc:List Value} {W:World} (h:FirstS wc base g8 g9 r2 r3 p ec nc W):FirstS wc base g8 g9 r2 r3 p ec nc W.drew:=⟨h.1,h.2.1,h.2.2.1,h.2.2.2.1,⟨h.2.2.2.2.os,h.2.2.2.2.tape,h.2.2.2.2.output,h.2.2.2.2.size,h.2.2.2.2.block⟩⟩
end Go.Proofs.YtnhegahpfacdgaaDoor

namespace Go.Proofs.YtnhegahpfacdgaaDoor
open Go.RowKit Go.Shelf Plain

theorem fr_on {α:Type} {E:Enc α} {w w':World} {lo:Nat} {A:Option Addr} {n:Nat} {l:List α} (h:RdE E w (fun b=>lo≤b∧b < w.heap.size) A n l) (hb:Below w.heap.size w w'):RdE E w' (fun b=>lo≤b∧b < w'.heap.size) A n l :=
 h.mono (Kept.of_below hb fun _ h=>h.2) fun _ h=>⟨h.1,Nat.lt_of_lt_of_le h.2 hb.size⟩
theorem fr_grown {α:Type} {E:Enc α} {w w':World} {lo g:Nat} {A:Option Addr} {n:Nat} {l:List α} (h:RdE E w (fun b=>lo≤b∧b < w.heap.size) A n l) (hg:w.grownBy w' (some g)) (hlo:g < lo):RdE E w' (fun b=>lo≤b∧b < w'.heap.size) A n l :=
 h.mono (fun b hb=>hg.block b hb.2 (pu5 (by omega))) fun _ h=>⟨h.1,Nat.lt_of_lt_of_le h.2 hg.size⟩
theorem und_grown {α:Type} {E:Enc α} {w w':World} {B g:Nat} {A:Option Addr} {n:Nat} {l:List α} (h:RdE E w (Under B) A n l) (hg:w.grownBy w' (some g)) (hB:B≤w.heap.size) (hlo:B≤g):RdE E w' (Under B) A n l :=
 h.mono (fun b hb=>hg.block b (Nat.lt_of_lt_of_le hb hB) (fun e=>by have:=Option.some.inj e;unfold Under at hb;omega)) fun _ h=>h
theorem fr_low {α:Type} {E:Enc α} {w:World} {lo lo':Nat} {A:Option Addr} {n:Nat} {l:List α} (h:RdE E w (fun b=>lo≤b∧b < w.heap.size) A n l) (hl:lo'≤lo):RdE E w (fun b=>lo'≤b∧b < w.heap.size) A n l:=h.mono (fun _ _=>rfl) fun _ h=>⟨Nat.le_trans hl h.1,h.2⟩
theorem splice_one (l:List Value) (p:Nat) (v:Value) (h:p < l.length):splice l p [v]=l.set p v:=by
 apply List.ext_getElem?
 intro i
 rw [splice_get _ _ _ _ (by simp;omega),List.getElem?_set]
 by_cases h1:p=i
 ·subst h1
  simp [h]
 ·rw [if_neg h1]
  by_cases h2:i < p
  ·rw [if_pos h2]
  ·have h3:¬i < p+[v].length:=by simp;omega
   rw [if_neg h2,if_neg h3]
theorem wpList_storeV {P : Program} {w : World} {ops : Array Oper} {rest : List Oper} {o : Oper} {a : Act} {Q : Exit → Act → World → Prop} (hgd : o.guard = none) (T : Nat) (x y : Operand) (ho : o.op = .store T x y)
  (hsz:∀w,(sizeOf T).run P w=.ok 1 w) (g off t:Nat) (hx:a.eval x=.pointer (some ⟨g,off,none⟩)) (v:Value) (hy:a.eval y=v) (hv:v.cells=#[v]) (h1:v.oneCell'=true) (cur:List Value) (h:RowL w g t cur) (hfit:off < cur.length)
  (hK:∀w',RowL w' g t (cur.set off v)→w.grownBy w' (some g)→w'.heap.size=w.heap.size→wpList P ops Q rest (a.put o.dst undef) w'):wpList P ops Q (o::rest) a w:=by
 refine wpList_plain hgd fun K hK'=>?_
 have hst:=run_storeCells_at P g off t [v] 0 cur.toArray w h (by simp;omega) (by simp [h1])
 simp only [Nat.add_zero] at hst
 have hr:(Instr.storeAt T (.pointer (some ⟨g,off,none⟩)) v).run P w=.ok () (w.setRow g (splice cur off [v]).toArray):=by
  simp [Instr.storeAt,Instr.sureAddr,storeVar,hsz,hv,hst,splice]
 unfold Oper.wp execOp
 simp only [ho,Sem.run_bind,Sem.run_pure,Result.andThen_ok,hx,hy,hr]
 have hrow:=h.setRow_ (splice cur off [v])
 rw [splice_one _ _ _ hfit] at hrow ⊢
 exact hK' _ _ (hK _ hrow (grownBy_setRow _ _ _) (by simp))
theorem und_up {α:Type} {E:Enc α} {w:World} {B:Nat} {A:Option Addr} {n:Nat} {l:List α} (h:RdE E w (Under B) A n l) (hB:B≤w.heap.size):RdE E w (Under w.heap.size) A n l:=h.mono (fun _ _=>rfl) fun _ h=>Nat.lt_of_lt_of_le h hB
theorem rowA1 (w:World) (c1:List Value) (t1:Nat) {W:World} (hW:w.alloc (.cells c1.toArray t1)=W):RowL W w.heap.size t1 c1∧Below w.heap.size w W∧W.heap.size=w.heap.size+1:=by
 subst hW
 exact ⟨RowL.new w t1 c1,below_new (below_self w) _,by simp⟩
theorem rowA2 (w:World) (c1:List Value) (t1:Nat) (c2:List Value) (t2:Nat) {W:World} (hW:(w.alloc (.cells c1.toArray t1)).alloc (.cells c2.toArray t2)=W):RowL W w.heap.size t1 c1∧RowL W (w.heap.size+1) t2 c2∧Below w.heap.size w W∧W.heap.size=w.heap.size+2:=by
 subst hW
 exact rows2 w c1 c2 t1 t2
theorem rowA3 (w:World) (c1:List Value) (t1:Nat) (c2:List Value) (t2:Nat) (c3:List Value) (t3:Nat) {W:World} (hW:((w.alloc (.cells c1.toArray t1)).alloc (.cells c2.toArray t2)).alloc (.cells c3.toArray t3)=W):RowL W w.heap.size t1 c1∧RowL W (w.heap.size+1) t2 c2∧RowL W (w.heap.size+1+1) t3 c3∧Below w.heap.size w W∧W.heap.size=w.heap.size+3:=by
 subst hW
 exact rows3 w c1 c2 c3 t1 t2 t3
end Go.Proofs.YtnhegahpfacdgaaDoor

