import Derived.Test.YtnhegahpfacdgaaDoorHn18
import Derived.Test.YtnhegahpfacdgaaDoorHn17
import Derived.BigQuiet
import Derived.BigRegion
import Derived.Deep.QuietTactic
import Derived.Test.YtnhegahpfacdgaaDoorHn1
import Derived.Test.YtnhegahpfacdgaaDoorHn8
import Derived.WalkKit
import Derived.OpenShut
import Derived.ChangeArms
import Derived.Lib.SmallJoins
import Derived.ProofKit

namespace Go.Proofs.YtnhegahpfacdgaaDoor
open Go.RowKit Go.Shelf Plain

def RiseE (l:List EntV) (k:Nat):Prop:=∀i e,i < k→l[i]?=some e→0≤e.slot∧e.slot < 16∧∀p,0 < i→l[i - 1]?=some p→p.slot < e.slot
def PlainN (x:NodV):Prop:=RiseE x.ents x.ents.length∧(0≤x.k∧x.k≤4)∧(0≤x.att.h∧x.att.h≤31)∧x.data.length≤300∧x.ents.length≤16∧x.att.r.length≤40∧∀e∈x.ents,nameB e.name=true
end Go.Proofs.YtnhegahpfacdgaaDoor

namespace Go.Proofs.YtnhegahpfacdgaaDoor
open Go.RowKit Plain

def lowAt (ls:List (List NodV)) (la i:Int):NodV:=if 1≤la∧la≤(ls.length:Int) then nodAt ((ls[(la - 1).toNat]?).getD []) i else nod0
theorem low_out {ls:List (List NodV)} {la i:Int} (h:¬(1≤la∧la≤(ls.length:Int))):lowAt ls la i=nod0:=by unfold lowAt;rw [if_neg h]
theorem low_in {ls:List (List NodV)} {la i:Int} (h:1≤la∧la≤(ls.length:Int)):∃(j:Nat) (ns:List NodV),la=(j:Int)+1∧ls[j]?=some ns∧lowAt ls la i=nodAt ns i:=by
 obtain ⟨j,hj⟩:=Int.eq_ofNat_of_zero_le (show 0≤la - 1 by omega)
 have hl:j < ls.length:=by omega
 refine ⟨j,ls[j],by omega,List.getElem?_eq_getElem hl,?_⟩
 unfold lowAt
 rw [if_pos h,hj]
 simp [hl]
def FewL (ls:List (List NodV)):Prop:=ls.length≤3∧∀ns∈ls,ns.length≤24∧∀x∈ns,PlainN x
theorem plain0:PlainN nod0:=by
 refine ⟨fun i e _ h=>by simp [nod0] at h,?_,?_,?_,?_,?_,fun e h=>by simp [nod0] at h⟩ <;> simp [nod0,att0]
theorem nodAt_plain {ns:List NodV} (h:∀x∈ns,PlainN x) (i:Int):PlainN (nodAt ns i):=by
 unfold nodAt
 split
 ·cases hx:ns[(i - 1).toNat]? with
  | none=>exact plain0
  | some x=>exact h x (List.mem_of_getElem? hx)
 ·exact plain0
theorem low_plain {ls:List (List NodV)} (h:FewL ls) (la i:Int):PlainN (lowAt ls la i):=by
 by_cases hh:1≤la∧la≤(ls.length:Int)
 ·obtain ⟨j,ns,-,hn,e⟩:=low_in (i:=i) hh
  rw [e]
  exact nodAt_plain (h.2 ns (List.mem_of_getElem? hn)).2 i
 ·rw [low_out hh]
  exact plain0
def layL (ls:List (List NodV)) (la:Int):List NodV:=if 1≤la∧la≤(ls.length:Int) then (ls[(la - 1).toNat]?).getD [] else []
theorem nodAt_nil (i:Int):nodAt [] i=nod0:=by unfold nodAt;rw [if_neg];simp;omega
theorem lay_at (ls:List (List NodV)) (la i:Int):nodAt (layL ls la) i=lowAt ls la i:=by
 unfold layL lowAt
 split
 ·rfl
 ·exact nodAt_nil i
end Go.Proofs.YtnhegahpfacdgaaDoor

namespace Go.Proofs.YtnhegahpfacdgaaDoor
open Go.RowKit Go.Shelf Plain Go.WideShapes Go.ChangeShapes

section
variable {H : Type} {enc : TypeId × Value → H} {w : World} {base : Nat} {spare : Nat → Bool} {held : Bool}
theorem three {l:List Value} (h:l.length=3):∃a b c,l=[a,b,c]:=by
 match l,h with
 | [a,b,c],_=>exact ⟨a,b,c,rfl⟩
end
end Go.Proofs.YtnhegahpfacdgaaDoor

namespace Go.Proofs.YtnhegahpfacdgaaDoor
open Go.RowKit Go.Shelf Plain

def UpW (ff:List Int) (l:List WayV):Prop:=∀(j:Nat) (y:WayV),l[j]?=some y→y.up < (j:Int)∧(y.up < 0→y.ino∈ff)
theorem UpW.snoc {ff:List Int} {l:List WayV} {x:WayV} (h:UpW ff l) (hx:x.up < (l.length:Int)∧(x.up < 0→x.ino∈ff)):UpW ff (l++[x]):=by
 intro j y hy
 by_cases hj:j < l.length
 ·rw [List.getElem?_append_left hj] at hy
  exact h j y hy
 ·rw [List.getElem?_append_right (by omega)] at hy
  have hj0:j - l.length=0:=by have:=(List.getElem?_eq_some_iff.1 hy).1;simpa using this
  rw [hj0] at hy
  cases hy
  exact ⟨by omega,hx.2⟩
end Go.Proofs.YtnhegahpfacdgaaDoor

