import Derived.Test.YtnhegahpfacdgaaDoorHf18
import Derived.Test.YtnhegahpfacdgaaDoorHf1
import Derived.Test.YtnhegahpfacdgaaDoorHf8
import Derived.WalkKit
import Derived.OpenShut
import Derived.ChangeArms
import Derived.Lib.SmallJoins
import Derived.Test.YtnhegahpfacdgaaDoorHf17
import Derived.ProofKit

namespace Go.Proofs.YtnhegahpfacdgaaDoor
open Go.RowKit Plain

def lowAt (ls:List (List NodV)) (la i:Int):NodV:=if 1≤la∧la≤(ls.length:Int) then nodAt ((ls[(la - 1).toNat]?).getD []) i else nod0
theorem low_out {ls:List (List NodV)} {la i:Int} (h:¬(1≤la∧la≤(ls.length:Int))):lowAt ls la i=nod0:=by unfold lowAt;rw [if_neg h]
theorem low_in {ls:List (List NodV)} {la i:Int} (h:1≤la∧la≤(ls.length:Int)):∃(j:Nat) (ns:List NodV),la=(j:Int)+1∧ls[j]?=some ns∧lowAt ls la i=nodAt ns i:=by
 obtain ⟨j,hj⟩:=Int.eq_ofNat_of_zero_le (show 0≤la - 1 by omega)
 have hl:j < ls.length:=by omega
 refine ⟨j,ls[j],by omega,List.getElem?_eq_getElem hl,?_⟩
 unfold lowAt
 rw [if_pos h,hj]
 simp [hl]
def FewL (ls:List (List NodV)):Prop:=ls.length≤3∧∀ns∈ls,ns.length≤24∧∀x∈ns,PlainN x
theorem plain0:PlainN nod0:=by
 refine ⟨fun i e _ h=>by simp [nod0] at h,?_,?_,?_,?_,?_,fun e h=>by simp [nod0] at h⟩ <;> simp [nod0,att0]
theorem nodAt_plain {ns:List NodV} (h:∀x∈ns,PlainN x) (i:Int):PlainN (nodAt ns i):=by
 unfold nodAt
 split
 ·cases hx:ns[(i - 1).toNat]? with
  | none=>exact plain0
  | some x=>exact h x (List.mem_of_getElem? hx)
 ·exact plain0
theorem low_plain {ls:List (List NodV)} (h:FewL ls) (la i:Int):PlainN (lowAt ls la i):=by
 by_cases hh:1≤la∧la≤(ls.length:Int)
 ·obtain ⟨j,ns,-,hn,e⟩:=low_in (i:=i) hh
  rw [e]
  exact nodAt_plain (h.2 ns (List.mem_of_getElem? hn)).2 i
 ·rw [low_out hh]
  exact plain0
def layL (ls:List (List NodV)) (la:Int):List NodV:=if 1≤la∧la≤(ls.length:Int) then (ls[(la - 1).toNat]?).getD [] else []
theorem nodAt_nil (i:Int):nodAt [] i=nod0:=by unfold nodAt;rw [if_neg];simp;omega
theorem lay_at (ls:List (List NodV)) (la i:Int):nodAt (layL ls la) i=lowAt ls la i:=by
 unfold layL lowAt
 split
 ·rfl
 ·exact nodAt_nil i
end Go.Proofs.YtnhegahpfacdgaaDoor

namespace Go.Proofs.YtnhegahpfacdgaaDoor
open Go.RowKit Plain Go.ChangeShapes Go.WideShapes

section
variable {α H : Type} {enc : TypeId × Value → H} {P : Program} {w : World} {spare : Nat → Bool} {held : Bool}
theorem open_rde {t e : TypeId} {fuel : Nat} {cs : List Value} {x : DataW H × List MemPlace} (E : Enc α) (ht : P.underlying t = some (.slice e)) (hc : P.cellsOf e = E.k) (hk : 0 < E.k)
  (hel:∀n cs y,cs.length=E.k→DataW.trod enc P w 0 spare held n e cs=some y→∃x,E.R w (Under w.heap.size) cs x)
  (h:DataW.trod enc P w 0 spare held fuel t cs=some x):∃A n c l,cs=[.slice A n c]∧n≤c∧RdE E w (Under w.heap.size) A n l:=by
 rcases DataW.trod_slice ht h with ⟨rfl,-⟩|⟨a,len,cap,elems,rest,n,-,rfl,-,-,hl,-,hlen,hcel,-,-⟩
 ·exact ⟨_,_,_,[],rfl,Nat.le_refl _,RdE.none_ _ _ _ _⟩
 ·have each:∀i,i < len→∃y,∃cs,w.cells? 0 (a.add (i*E.k)) E.k=some cs∧E.R w (Under w.heap.size) cs y:=by
   intro i hi
   have h1:=hcel i hi
   rw [hc,List.getElem?_eq_getElem (by omega),Option.bind_eq_some_iff] at h1
   obtain ⟨cs',hcs,hy⟩:=h1
   obtain ⟨x,hx⟩:=hel _ _ _ (World.cells?_some hcs).2.1 hy
   exact ⟨x,cs',hcs,hx⟩
  refine ⟨_,_,_,List.ofFn (fun i:Fin len=>Classical.choose (each i.1 i.2)),rfl,hl,by simp,fun hn=>?_⟩
  obtain ⟨y,cs0,hcs0,-⟩:=each 0 hn
  obtain ⟨-,hl0,h0⟩:=World.cells?_some hcs0
  have hcell0:=h0 0 hk
  rw [List.getElem?_eq_getElem (by omega)] at hcell0
  obtain ⟨b,off,spot⟩:=a
  have hspot:spot=none:=by simpa [Addr.add] using World.cell?_spot hcell0
  subst hspot
  have hadd:∀o i,(⟨b,o,none⟩:Addr).add i=⟨b,o+i,none⟩:=by
   intro o i
   unfold Addr.add
   split
   ·rename_i h0;subst h0;rfl
   ·rfl
  refine ⟨b,off,rfl,?_,fun i y hy=>?_⟩
  ·have:=block_lt_of_cell hcell0
   rw [hadd,hadd] at this
   exact this
  ·rw [List.getElem?_ofFn] at hy
   split at hy
   ·next hi =>
    obtain rfl:=Option.some.inj hy
    obtain ⟨cs,hcs,hr⟩:=Classical.choose_spec (each i hi)
    obtain ⟨-,hl1,h1⟩:=World.cells?_some hcs
    refine ⟨cs,hr,fun j v hj=>?_⟩
    have hjl:=(List.getElem?_eq_some_iff.1 hj).1
    have:=h1 j (by omega)
    rw [hadd,hadd,hj] at this
    rw [←this,Nat.add_assoc]
   ·cases hy
end
end Go.Proofs.YtnhegahpfacdgaaDoor

namespace Go.Proofs.YtnhegahpfacdgaaDoor
open Go.RowKit Go.Shelf Plain Go.WideShapes Go.ChangeShapes

section
variable {H : Type} {enc : TypeId × Value → H} {w : World} {base : Nat} {spare : Nat → Bool} {held : Bool}
theorem cell_i64 {n:Nat} {c:Value} {y:DataW H×List MemPlace} (h:DataW.trod enc Tryd.prog w base spare held n 3 [c]=some y):∃a:Int,c=.int .i64 a:=by
 obtain ⟨a,e,hy,-⟩:=DataW.trod_int Tryd.underlying3 h
 exact ⟨a,by simpa using e⟩
theorem cell_str {n:Nat} {c:Value} {y:DataW H×List MemPlace} (h:DataW.trod enc Tryd.prog w base spare held n 9 [c]=some y):∃l:List UInt8,c=.string ⟨l.toArray⟩:=by
 obtain ⟨s,e,hy,-⟩:=DataW.trod_string Tryd.underlying9 h
 exact ⟨s.data.toList,by simpa using e⟩
theorem three {l:List Value} (h:l.length=3):∃a b c,l=[a,b,c]:=by
 match l,h with
 | [a,b,c],_=>exact ⟨a,b,c,rfl⟩
end
end Go.Proofs.YtnhegahpfacdgaaDoor

