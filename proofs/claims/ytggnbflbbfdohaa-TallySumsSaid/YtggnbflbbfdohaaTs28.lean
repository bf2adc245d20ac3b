import Derived.Test.YtggnbflbbfdohaaTs27
import Derived.Test.YtggnbflbbfdohaaTs1
import Derived.Test.YtggnbflbbfdohaaTs4
import Derived.WalkKit
import Derived.OpenShut
import Derived.ChangeArms
import Derived.Lib.SmallJoins
import Derived.Test.YtggnbflbbfdohaaTs26
import Derived.ProofKit

namespace Go.Proofs.Ytggnbflbbfdohaa
open Go.RowKit Plain

def FewL (ls:List (List NodV)):Prop:=ls.length≤3∧∀ns∈ls,ns.length≤24∧∀x∈ns,PlainN x
theorem plain0:PlainN nod0:=by
 refine ⟨fun i e _ h=>by simp [nod0] at h,?_,?_,?_,?_,?_,fun e h=>by simp [nod0] at h⟩ <;> simp [nod0,att0]
def entB (ns:List NodV) (i:Int):List EntV:=if (nodAt ns i).k=1 then (nodAt ns i).ents else []
end Go.Proofs.Ytggnbflbbfdohaa

namespace Go.Proofs.Ytggnbflbbfdohaa
open Go.RowKit Plain Go.ChangeShapes Go.WideShapes

section
variable {α H : Type} {enc : TypeId × Value → H} {P : Program} {w : World} {spare : Nat → Bool} {held : Bool}
theorem open_rde {t e : TypeId} {fuel : Nat} {cs : List Value} {x : DataW H × List MemPlace} (E : Enc α) (ht : P.underlying t = some (.slice e)) (hc : P.cellsOf e = E.k) (hk : 0 < E.k)
  (hel:∀n cs y,cs.length=E.k→DataW.trod enc P w 0 spare held n e cs=some y→∃x,E.R w (Under w.heap.size) cs x)
  (h:DataW.trod enc P w 0 spare held fuel t cs=some x):∃A n c l,cs=[.slice A n c]∧n≤c∧RdE E w (Under w.heap.size) A n l:=by
 rcases DataW.trod_slice ht h with ⟨rfl,-⟩|⟨a,len,cap,elems,rest,n,-,rfl,-,-,hl,-,hlen,hcel,-,-⟩
 ·exact ⟨_,_,_,[],rfl,Nat.le_refl _,RdE.none_ _ _ _ _⟩
 ·have each:∀i,i < len→∃y,∃cs,w.cells? 0 (a.add (i*E.k)) E.k=some cs∧E.R w (Under w.heap.size) cs y:=by
   intro i hi
   have h1:=hcel i hi
   rw [hc,List.getElem?_eq_getElem (by omega),Option.bind_eq_some_iff] at h1
   obtain ⟨cs',hcs,hy⟩:=h1
   obtain ⟨x,hx⟩:=hel _ _ _ (World.cells?_some hcs).2.1 hy
   exact ⟨x,cs',hcs,hx⟩
  refine ⟨_,_,_,List.ofFn (fun i:Fin len=>Classical.choose (each i.1 i.2)),rfl,hl,by simp,fun hn=>?_⟩
  obtain ⟨y,cs0,hcs0,-⟩:=each 0 hn
  obtain ⟨-,hl0,h0⟩:=World.cells?_some hcs0
  have hcell0:=h0 0 hk
  rw [List.getElem?_eq_getElem (by omega)] at hcell0
  obtain ⟨b,off,spot⟩:=a
  have hspot:spot=none:=by simpa [Addr.add] using World.cell?_spot hcell0
  subst hspot
  have hadd:∀o i,(⟨b,o,none⟩:Addr).add i=⟨b,o+i,none⟩:=by
   intro o i
   unfold Addr.add
   split
   ·rename_i h0;subst h0;rfl
   ·rfl
  refine ⟨b,off,rfl,?_,fun i y hy=>?_⟩
  ·have:=block_lt_of_cell hcell0
   rw [hadd,hadd] at this
   exact this
  ·rw [List.getElem?_ofFn] at hy
   split at hy
   ·next hi =>
    obtain rfl:=Option.some.inj hy
    obtain ⟨cs,hcs,hr⟩:=Classical.choose_spec (each i hi)
    obtain ⟨-,hl1,h1⟩:=World.cells?_some hcs
    refine ⟨cs,hr,fun j v hj=>?_⟩
    have hjl:=(List.getElem?_eq_some_iff.1 hj).1
    have:=h1 j (by omega)
    rw [hadd,hadd,hj] at this
    rw [←this,Nat.add_assoc]
   ·cases hy
end
end Go.Proofs.Ytggnbflbbfdohaa

namespace Go.Proofs.Ytggnbflbbfdohaa
open Go.RowKit Go.Shelf Plain Go.WideShapes Go.ChangeShapes

section
variable {H : Type} {enc : TypeId × Value → H} {w : World} {base : Nat} {spare : Nat → Bool} {held : Bool}
theorem cell_i64 {n:Nat} {c:Value} {y:DataW H×List MemPlace} (h:DataW.trod enc Try.prog w base spare held n 3 [c]=some y):∃a:Int,c=.int .i64 a:=by
 obtain ⟨a,e,hy,-⟩:=DataW.trod_int Try.underlying3 h
 exact ⟨a,by simpa using e⟩
theorem cell_str {n:Nat} {c:Value} {y:DataW H×List MemPlace} (h:DataW.trod enc Try.prog w base spare held n 9 [c]=some y):∃l:List UInt8,c=.string ⟨l.toArray⟩:=by
 obtain ⟨s,e,hy,-⟩:=DataW.trod_string Try.underlying9 h
 exact ⟨s.data.toList,by simpa using e⟩
theorem three {l:List Value} (h:l.length=3):∃a b c,l=[a,b,c]:=by
 match l,h with
 | [a,b,c],_=>exact ⟨a,b,c,rfl⟩
end
end Go.Proofs.Ytggnbflbbfdohaa

