import Derived.Test.YtggnbflbbfdohaaTs30
import Derived.Test.YtggnbflbbfdohaaTs26
import Derived.Deep.Cut
import Derived.Deep.CutRange
import Derived.Test.YtggnbflbbfdohaaTs31
import Derived.Shelf.Small.Strs
import Derived.Shelf.Small.Wraps
import Derived.Shelf.Strings.Prefix
import Derived.Shelf.Slices.Equal
import Derived.Shelf.Slices.Clone
import Derived.Shelf.Slices.Cells
import Derived.Shelf.SlicesE.Clone
import Derived.Test.YtggnbflbbfdohaaProg
import Derived.Test.YtggnbflbbfdohaaTs1
import Derived.Lib.SlicesCompact
import Derived.Sort.Row
import Derived.Sort.OwnSorted
import Derived.Lib.RowBridge
import Derived.Test.YtggnbflbbfdohaaTs23
import Derived.BigQuiet
import Derived.Deep.QuietTactic
import Derived.Test.YtggnbflbbfdohaaTs13
import Derived.StillTailTactics
import Derived.IntWalk
import Derived.Lib.CutLaws
import Derived.Test.YtggnbflbbfdohaaTs3
import Derived.ScopeJumps
import Derived.WalkMore
import Derived.Lib.Join
import Derived.Test.YtggnbflbbfdohaaRows
import Derived.Laws.Cover3
import Derived.Test.YtggnbflbbfdohaaTs29

namespace Go.Proofs.Ytggnbflbbfdohaa
open Go.RowKit Go.Shelf Plain

theorem und_grown {α:Type} {E:Enc α} {w w':World} {B g:Nat} {A:Option Addr} {n:Nat} {l:List α} (h:RdE E w (Under B) A n l) (hg:w.grownBy w' (some g)) (hB:B≤w.heap.size) (hlo:B≤g):RdE E w' (Under B) A n l :=
 h.mono (fun b hb=>hg.block b (Nat.lt_of_lt_of_le hb hB) (fun e=>by have:=Option.some.inj e;unfold Under at hb;omega)) fun _ h=>h
theorem splice_one (l:List Value) (p:Nat) (v:Value) (h:p < l.length):splice l p [v]=l.set p v:=by
 apply List.ext_getElem?
 intro i
 rw [splice_get _ _ _ _ (by simp;omega),List.getElem?_set]
 by_cases h1:p=i
 ·subst h1
  simp [h]
 ·rw [if_neg h1]
  by_cases h2:i < p
  ·rw [if_pos h2]
  ·have h3:¬i < p+[v].length:=by simp;omega
   rw [if_neg h2,if_neg h3]
theorem wpList_storeV {P : Program} {w : World} {ops : Array Oper} {rest : List Oper} {o : Oper} {a : Act} {Q : Exit → Act → World → Prop} (hgd : o.guard = none) (T : Nat) (x y : Operand) (ho : o.op = .store T x y)
  (hsz:∀w,(sizeOf T).run P w=.ok 1 w) (g off t:Nat) (hx:a.eval x=.pointer (some ⟨g,off,none⟩)) (v:Value) (hy:a.eval y=v) (hv:v.cells=#[v]) (h1:v.oneCell'=true) (cur:List Value) (h:RowL w g t cur) (hfit:off < cur.length)
  (hK:∀w',RowL w' g t (cur.set off v)→w.grownBy w' (some g)→w'.heap.size=w.heap.size→wpList P ops Q rest (a.put o.dst undef) w'):wpList P ops Q (o::rest) a w:=by
 refine wpList_plain hgd fun K hK'=>?_
 have hst:=run_storeCells_at P g off t [v] 0 cur.toArray w h (by simp;omega) (by simp [h1])
 simp only [Nat.add_zero] at hst
 have hr:(Instr.storeAt T (.pointer (some ⟨g,off,none⟩)) v).run P w=.ok () (w.setRow g (splice cur off [v]).toArray):=by
  simp [Instr.storeAt,Instr.sureAddr,storeVar,hsz,hv,hst,splice]
 unfold Oper.wp execOp
 simp only [ho,Sem.run_bind,Sem.run_pure,Result.andThen_ok,hx,hy,hr]
 have hrow:=h.setRow_ (splice cur off [v])
 rw [splice_one _ _ _ hfit] at hrow ⊢
 exact hK' _ _ (hK _ hrow (grownBy_setRow _ _ _) (by simp))
theorem und_up {α:Type} {E:Enc α} {w:World} {B:Nat} {A:Option Addr} {n:Nat} {l:List α} (h:RdE E w (Under B) A n l) (hB:B≤w.heap.size):RdE E w (Under w.heap.size) A n l:=h.mono (fun _ _=>rfl) fun _ h=>Nat.lt_of_lt_of_le h hB
theorem rowA1 (w:World) (c1:List Value) (t1:Nat) {W:World} (hW:w.alloc (.cells c1.toArray t1)=W):RowL W w.heap.size t1 c1∧Below w.heap.size w W∧W.heap.size=w.heap.size+1:=by
 subst hW
 exact ⟨RowL.new w t1 c1,below_new (below_self w) _,by simp⟩
theorem rowA2 (w:World) (c1:List Value) (t1:Nat) (c2:List Value) (t2:Nat) {W:World} (hW:(w.alloc (.cells c1.toArray t1)).alloc (.cells c2.toArray t2)=W):RowL W w.heap.size t1 c1∧RowL W (w.heap.size+1) t2 c2∧Below w.heap.size w W∧W.heap.size=w.heap.size+2:=by
 subst hW
 exact rows2 w c1 c2 t1 t2
end Go.Proofs.Ytggnbflbbfdohaa

namespace Go.Proofs.Ytggnbflbbfdohaa
open Go.RowKit Go.Shelf Plain

def viwC (u:Int) (s:Value):List Value:=[.int .i64 u,s]
theorem viwC_one (u:Int) (A:Option Addr) (n c:Nat):∀v∈viwC u (.slice A n c),v.oneCell'=true:=by simp [viwC,Value.oneCell']
def FewU (up:List NodV):Prop:=up.length≤24∧∀x∈up,PlainN x
def FewX (up:List NodV):Prop:=up.length≤24∧∀x∈up,PlainX x
theorem FewU.toX {up:List NodV} (h:FewU up):FewX up:=⟨h.1,fun x hx=>(h.2 x hx).toX⟩
instance coeFewX {up:List NodV}:Coe (FewU up) (FewX up):=⟨FewU.toX⟩
end Go.Proofs.Ytggnbflbbfdohaa

namespace Go.Proofs.Ytggnbflbbfdohaa
open Go.RowKit Plain

def LRet (w:World) (e:Nat) (l:List (List UInt8)) (b:Bool) (x:Ending) (w':World):Prop :=
 ∃A n c,x=.returned (.tuple #[.slice A n c,.bool b])∧Ow st w' w.heap.size e A n c l∧Below w.heap.size w w'
theorem LRet.nil {w w':World} {e:Nat} {b:Bool} (h:Below w.heap.size w w'):LRet w e [] b (.returned (.tuple #[.slice none 0 0,.bool b])) w':=⟨none,0,0,rfl,Ow.nil_ _ _ _ _,h⟩

end Go.Proofs.Ytggnbflbbfdohaa

namespace Go.Proofs.Ytggnbflbbfdohaa
open Go.RowKit Plain

def namesPt (s:List UInt8):List (List UInt8):=if headB s=true then (leftS (partsS s)).getD [] else []
theorem NRet.no {s:List UInt8} {w w':World} (hc:cleanB s=false) (hb:Below w.heap.size w w'):LRet w 9 (namesPt s) (cleanB s) (.returned (.tuple #[.slice none 0 0,.bool false])) w':=by
 have e1:namesPt s=[]:=by
  unfold cleanB at hc
  unfold namesPt
  by_cases hh:headB s=true
  ·rw [if_pos hh]
   rw [hh] at hc
   cases hl:leftS (partsS s) with
   | none=>rfl
   | some o=>rw [hl] at hc;cases hc
  ·rw [if_neg hh]
 rw [e1,hc]
 exact LRet.nil hb
end Go.Proofs.Ytggnbflbbfdohaa

namespace Go.Proofs.Ytggnbflbbfdohaa
open Go.RowKit Plain

def StRet (w:World) (l:List UInt8) (b:Bool) (x:Ending) (w':World):Prop:=x=.returned (.tuple #[st l,.bool b])∧Below w.heap.size w w'
theorem StRet.of {w w':World} {l:List UInt8} {b:Bool} (h:Below w.heap.size w w'):StRet w l b (.returned (.tuple #[.string ⟨l.toArray⟩,.bool b])) w':=⟨rfl,h⟩

end Go.Proofs.Ytggnbflbbfdohaa

namespace Go.Proofs.Ytggnbflbbfdohaa
open Go.RowKit Plain

def LRet2 (w:World) (e:Nat) (l:List (List UInt8)) (a b:Bool) (x:Ending) (w':World):Prop :=
 ∃A n c,x=.returned (.tuple #[.slice A n c,.bool a,.bool b])∧Ow st w' w.heap.size e A n c l∧Below w.heap.size w w'
theorem LRet2.nil {w w':World} {e:Nat} {a b:Bool} (h:Below w.heap.size w w'):LRet2 w e [] a b (.returned (.tuple #[.slice none 0 0,.bool a,.bool b])) w':=⟨none,0,0,rfl,Ow.nil_ _ _ _ _,h⟩

end Go.Proofs.Ytggnbflbbfdohaa

namespace Go.Proofs.Ytggnbflbbfdohaa
open Go.RowKit Go.Shelf Plain

def TwoS (Wx:World) (base r5 t5 k5 r6 t6 k6:Nat) (W:World):Prop:=(∀b,b < Wx.heap.size→b≠r5→b≠r6→W.heap[b]?=Wx.heap[b]?)∧(∃cu,RowL W r5 t5 cu∧cu.length=k5)∧(∃cu,RowL W r6 t6 cu∧cu.length=k6)∧Below base Wx W
theorem TwoS.on {Wx W W':World} {base r5 t5 k5 r6 t6 k6:Nat} (h:TwoS Wx base r5 t5 k5 r6 t6 k6 W) (hb:Below W.heap.size W W') (hbx:base≤Wx.heap.size):TwoS Wx base r5 t5 k5 r6 t6 k6 W':=by
 obtain ⟨p1,⟨c5,p2,l5⟩,⟨c6,p3,l6⟩,p4⟩:=h
 exact ⟨fun b h0 h1 h2=>(hb.block b (Nat.lt_of_lt_of_le h0 p4.size)).trans (p1 b h0 h1 h2),⟨c5,p2.on hb,l5⟩,⟨c6,p3.on hb,l6⟩,p4.trans (hb.mono (Nat.le_trans hbx p4.size))⟩
theorem TwoS.row {Wx W:World} {base r5 t5 k5 r6 t6 k6 g t:Nat} {cs:List Value} (h:TwoS Wx base r5 t5 k5 r6 t6 k6 W) (hr:RowL Wx g t cs) (h5:g≠r5) (h6:g≠r6):RowL W g t cs:=(h.1 g hr.lt h5 h6).trans hr
section
variable {P : Program} {T T' k k' : Nat}
end
end Go.Proofs.Ytggnbflbbfdohaa

namespace Go.Proofs.Ytggnbflbbfdohaa
open Go.RowKit Go.Shelf Plain

def viewEn : Enc ViewV where
 k:=2
 R:=fun w D cs v=>∃A c,cs=viwC v.1 (.slice A v.2.length c)∧RdE prEn w D A v.2.length v.2
 len:=fun ⟨_,_,h,_⟩=>by rw [h];rfl
 one:=fun ⟨_,_,h,_⟩ v hv=>by rw [h] at hv;exact viwC_one _ _ _ _ v hv
 mono:=fun ⟨A,c,h,hr⟩ hk hD=>⟨A,c,h,hr.mono hk hD⟩
end Go.Proofs.Ytggnbflbbfdohaa

