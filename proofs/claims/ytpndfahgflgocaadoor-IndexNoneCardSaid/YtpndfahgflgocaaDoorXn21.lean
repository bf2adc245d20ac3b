import Derived.Test.YtpndfahgflgocaaDoorXn20
import Derived.Test.YtpndfahgflgocaaDoorXn1
import Derived.Test.YtpndfahgflgocaaDoorXn3
import Derived.WalkKit
import Derived.OpenShut
import Derived.ChangeArms
import Derived.Lib.SmallJoins
import Derived.Test.YtpndfahgflgocaaDoorXn19
import Derived.ProofKit

namespace Go.Proofs.YtpndfahgflgocaaDoor
open Go.RowKit Plain

def lowAt (ls:List (List NodV)) (la i:Int):NodV:=if 1≤la∧la≤(ls.length:Int) then nodAt ((ls[(la - 1).toNat]?).getD []) i else nod0
theorem low_out {ls:List (List NodV)} {la i:Int} (h:¬(1≤la∧la≤(ls.length:Int))):lowAt ls la i=nod0:=by unfold lowAt;rw [if_neg h]
theorem low_in {ls:List (List NodV)} {la i:Int} (h:1≤la∧la≤(ls.length:Int)):∃(j:Nat) (ns:List NodV),la=(j:Int)+1∧ls[j]?=some ns∧lowAt ls la i=nodAt ns i:=by
 obtain ⟨j,hj⟩:=Int.eq_ofNat_of_zero_le (show 0≤la - 1 by omega)
 have hl:j < ls.length:=by omega
 refine ⟨j,ls[j],by omega,List.getElem?_eq_getElem hl,?_⟩
 unfold lowAt
 rw [if_pos h,hj]
 simp [hl]
def FewL (ls:List (List NodV)):Prop:=ls.length≤3∧∀ns∈ls,ns.length≤24∧∀x∈ns,PlainN x
theorem plain0:PlainN nod0:=by
 refine ⟨fun i e _ h=>by simp [nod0] at h,?_,?_,?_,?_,?_,fun e h=>by simp [nod0] at h⟩ <;> simp [nod0,att0]
theorem nodAt_plain {ns:List NodV} (h:∀x∈ns,PlainN x) (i:Int):PlainN (nodAt ns i):=by
 unfold nodAt
 split
 ·cases hx:ns[(i - 1).toNat]? with
  | none=>exact plain0
  | some x=>exact h x (List.mem_of_getElem? hx)
 ·exact plain0
theorem low_plain {ls:List (List NodV)} (h:FewL ls) (la i:Int):PlainN (lowAt ls la i):=by
 by_cases hh:1≤la∧la≤(ls.length:Int)
 ·obtain ⟨j,ns,-,hn,e⟩:=low_in (i:=i) hh
  rw [e]
  exact nodAt_plain (h.2 ns (List.mem_of_getElem? hn)).2 i
 ·rw [low_out hh]
  exact plain0
def layL (ls:List (List NodV)) (la:Int):List NodV:=if 1≤la∧la≤(ls.length:Int) then (ls[(la - 1).toNat]?).getD [] else []
theorem nodAt_nil (i:Int):nodAt [] i=nod0:=by unfold nodAt;rw [if_neg];simp;omega
theorem lay_at (ls:List (List NodV)) (la i:Int):nodAt (layL ls la) i=lowAt ls la i:=by
 unfold layL lowAt
 split
 ·rfl
 ·exact nodAt_nil i
def entB (ns:List NodV) (i:Int):List EntV:=if (nodAt ns i).k=1 then (nodAt ns i).ents else []
end Go.Proofs.YtpndfahgflgocaaDoor

namespace Go.Proofs.YtpndfahgflgocaaDoor
open Go.RowKit Plain Go.ChangeShapes Go.WideShapes

section
variable {α H : Type} {enc : TypeId × Value → H} {P : Program} {w : World} {spare : Nat → Bool} {held : Bool}
theorem open_rde {t e : TypeId} {fuel : Nat} {cs : List Value} {x : DataW H × List MemPlace} (E : Enc α) (ht : P.underlying t = some (.slice e)) (hc : P.cellsOf e = E.k) (hk : 0 < E.k)
  (hel:∀n cs y,cs.length=E.k→DataW.trod enc P w 0 spare held n e cs=some y→∃x,E.R w (Under w.heap.size) cs x)
  (h:DataW.trod enc P w 0 spare held fuel t cs=some x):∃A n c l,cs=[.slice A n c]∧n≤c∧RdE E w (Under w.heap.size) A n l:=by
 rcases DataW.trod_slice ht h with ⟨rfl,-⟩|⟨a,len,cap,elems,rest,n,-,rfl,-,-,hl,-,hlen,hcel,-,-⟩
 ·exact ⟨_,_,_,[],rfl,Nat.le_refl _,RdE.none_ _ _ _ _⟩
 ·have each:∀i,i < len→∃y,∃cs,w.cells? 0 (a.add (i*E.k)) E.k=some cs∧E.R w (Under w.heap.size) cs y:=by
   intro i hi
   have h1:=hcel i hi
   rw [hc,List.getElem?_eq_getElem (by omega),Option.bind_eq_some_iff] at h1
   obtain ⟨cs',hcs,hy⟩:=h1
   obtain ⟨x,hx⟩:=hel _ _ _ (World.cells?_some hcs).2.1 hy
   exact ⟨x,cs',hcs,hx⟩
  refine ⟨_,_,_,List.ofFn (fun i:Fin len=>Classical.choose (each i.1 i.2)),rfl,hl,by simp,fun hn=>?_⟩
  obtain ⟨y,cs0,hcs0,-⟩:=each 0 hn
  obtain ⟨-,hl0,h0⟩:=World.cells?_some hcs0
  have hcell0:=h0 0 hk
  rw [List.getElem?_eq_getElem (by omega)] at hcell0
  obtain ⟨b,off,spot⟩:=a
  have hspot:spot=none:=by simpa [Addr.add] using World.cell?_spot hcell0
  subst hspot
  have hadd:∀o i,(⟨b,o,none⟩:Addr).add i=⟨b,o+i,none⟩:=by
   intro o i
   unfold Addr.add
   split
   ·rename_i h0;subst h0;rfl
   ·rfl
  refine ⟨b,off,rfl,?_,fun i y hy=>?_⟩
  ·have:=block_lt_of_cell hcell0
   rw [hadd,hadd] at this
   exact this
  ·rw [List.getElem?_ofFn] at hy
   split at hy
   ·next hi =>
    obtain rfl:=Option.some.inj hy
    obtain ⟨cs,hcs,hr⟩:=Classical.choose_spec (each i hi)
    obtain ⟨-,hl1,h1⟩:=World.cells?_some hcs
    refine ⟨cs,hr,fun j v hj=>?_⟩
    have hjl:=(List.getElem?_eq_some_iff.1 hj).1
    have:=h1 j (by omega)
    rw [hadd,hadd,hj] at this
    rw [←this,Nat.add_assoc]
   ·cases hy
end
end Go.Proofs.YtpndfahgflgocaaDoor

namespace Go.Proofs.YtpndfahgflgocaaDoor
open Go.RowKit Go.Shelf Plain Go.WideShapes Go.ChangeShapes

section
variable {H : Type} {enc : TypeId × Value → H} {w : World} {base : Nat} {spare : Nat → Bool} {held : Bool}
theorem cell_i64 {n:Nat} {c:Value} {y:DataW H×List MemPlace} (h:DataW.trod enc Tryd.prog w base spare held n 3 [c]=some y):∃a:Int,c=.int .i64 a:=by
 obtain ⟨a,e,hy,-⟩:=DataW.trod_int Tryd.underlying3 h
 exact ⟨a,by simpa using e⟩
theorem cell_str {n:Nat} {c:Value} {y:DataW H×List MemPlace} (h:DataW.trod enc Tryd.prog w base spare held n 9 [c]=some y):∃l:List UInt8,c=.string ⟨l.toArray⟩:=by
 obtain ⟨s,e,hy,-⟩:=DataW.trod_string Tryd.underlying9 h
 exact ⟨s.data.toList,by simpa using e⟩
theorem three {l:List Value} (h:l.length=3):∃a b c,l=[a,b,c]:=by
 match l,h with
 | [a,b,c],_=>exact ⟨a,b,c,rfl⟩
end
end Go.Proofs.YtpndfahgflgocaaDoor

namespace Go.Proofs.YtpndfahgflgocaaDoor
open Go.RowKit Go.Shelf Plain Go.WideShapes Go.ChangeShapes

section
variable {α H : Type} {enc : TypeId × Value → H} {P : Program} {w : World} {spare : Nat → Bool} {held : Bool}
theorem open_rdeF {t e : TypeId} {fuel : Nat} {cs : List Value} {x : DataW H × List MemPlace} (E : Enc α) (Fine : α → Prop) (ht : P.underlying t = some (.slice e)) (hc : P.cellsOf e = E.k) (hk : 0 < E.k)
  (hel:∀n cs y,cs.length=E.k→DataW.trod enc P w 0 spare held n e cs=some y→∃x,E.R w (Under w.heap.size) cs x∧Fine x)
  (h:DataW.trod enc P w 0 spare held fuel t cs=some x):∃A n c l,cs=[.slice A n c]∧n≤c∧c≤maxLen∧RdE E w (Under w.heap.size) A n l∧∀x∈l,Fine x:=by
 rcases DataW.trod_slice ht h with ⟨rfl,-⟩|⟨a,len,cap,elems,rest,n,-,rfl,hx,-,hl,hcm,hlen,hcel,-,-⟩
 ·exact ⟨_,_,_,[],rfl,Nat.le_refl _,by simp [maxLen],RdE.none_ _ _ _ _,fun x hx=>by cases hx⟩
 ·have each:∀i,i < len→∃y,∃cs,w.cells? 0 (a.add (i*E.k)) E.k=some cs∧E.R w (Under w.heap.size) cs y∧Fine y:=by
   intro i hi
   have h1:=hcel i hi
   rw [hc,List.getElem?_eq_getElem (by omega),Option.bind_eq_some_iff] at h1
   obtain ⟨cs',hcs,hy⟩:=h1
   obtain ⟨x,hx,hf⟩:=hel _ _ _ (World.cells?_some hcs).2.1 hy
   exact ⟨x,cs',hcs,hx,hf⟩
  refine ⟨_,_,_,List.ofFn (fun i:Fin len=>Classical.choose (each i.1 i.2)),rfl,hl,hcm,⟨by simp,fun hn=>?_⟩,fun y hy=>?_⟩
  ·obtain ⟨y,cs0,hcs0,-⟩:=each 0 hn
   obtain ⟨-,hl0,h0⟩:=World.cells?_some hcs0
   have hcell0:=h0 0 hk
   rw [List.getElem?_eq_getElem (by omega)] at hcell0
   obtain ⟨b,off,spot⟩:=a
   have hspot:spot=none:=by simpa [Addr.add] using World.cell?_spot hcell0
   subst hspot
   have hadd:∀o i,(⟨b,o,none⟩:Addr).add i=⟨b,o+i,none⟩:=by
    intro o i
    unfold Addr.add
    split
    ·rename_i h0;subst h0;rfl
    ·rfl
   refine ⟨b,off,rfl,?_,fun i y hy=>?_⟩
   ·have:=block_lt_of_cell hcell0
    rw [hadd,hadd] at this
    exact this
   ·rw [List.getElem?_ofFn] at hy
    split at hy
    ·next hi =>
     obtain rfl:=Option.some.inj hy
     obtain ⟨cs,hcs,hr,-⟩:=Classical.choose_spec (each i hi)
     obtain ⟨-,hl1,h1⟩:=World.cells?_some hcs
     refine ⟨cs,hr,fun j v hj=>?_⟩
     have hjl:=(List.getElem?_eq_some_iff.1 hj).1
     have:=h1 j (by omega)
     rw [hadd,hadd,hj] at this
     rw [←this,Nat.add_assoc]
    ·cases hy
  ·rw [List.mem_ofFn] at hy
   obtain ⟨i,rfl⟩:=hy
   obtain ⟨cs,-,-,hf⟩:=Classical.choose_spec (each i.1 i.2)
   exact hf
end
section
variable {H : Type} {enc : TypeId × Value → H} {w : World} {spare : Nat → Bool} {held : Bool}
theorem cell_u8 {n:Nat} {c:Value} {y:DataW H×List MemPlace} (h:DataW.trod enc Tryd.prog w 0 spare held n 5 [c]=some y):∃b:UInt8,c=bv b:=by
 obtain ⟨a,e,hy,hw⟩:=DataW.trod_int Tryd.underlying5 h
 have hr:0≤a∧a≤255:=by
  simp [Lit.wf,IntKind.min,IntKind.max,IntKind.signed,IntKind.bits] at hw
  omega
 refine ⟨UInt8.ofNat a.toNat,?_⟩
 have:c=.int .u8 a:=by simpa using e
 rw [this]
 simp only [bv]
 congr 1
 simp
 omega
theorem one_cell {l:List Value} (h:l.length=1):∃c,l=[c]:=by
 match l,h with
 | [c],_=>exact ⟨c,rfl⟩
theorem thirteen {l:List Value} (h:l.length=13):∃a b c d e f g h i j k m n,l=[a,b,c,d,e,f,g,h,i,j,k,m,n]:=by
 match l,h with
 | [a,b,c,d,e,f,g,h,i,j,k,m,n],_=>exact ⟨a,b,c,d,e,f,g,h,i,j,k,m,n,rfl⟩
set_option maxRecDepth 100000 in
theorem trod_ent {fuel:Nat} {cs:List Value} {y:DataW H×List MemPlace} (hl:cs.length=3) (h:DataW.trod enc Tryd.prog w 0 spare held fuel 31 cs=some y):∃x:EntV,cs=cellsE x:=by
 obtain ⟨c0,c1,c2,rfl⟩:=three hl
 obtain ⟨xs,n,-,rfl,-,hlen,hp⟩:=DataW.trod_struct Tryd.underlying31 h
 match xs,hlen,hp with
 | [x0,x1,x2],_,hp =>
  obtain ⟨a0,rfl⟩:=cell_i64 (c:=c0) (hp 0 _ rfl)
  obtain ⟨a1,rfl⟩:=cell_i64 (c:=c1) (hp 1 _ rfl)
  obtain ⟨a2,rfl⟩:=cell_str (c:=c2) (hp 2 _ rfl)
  exact ⟨⟨a0,a1,a2⟩,rfl⟩
set_option maxRecDepth 100000 in
theorem trod_node {fuel:Nat} {cs:List Value} {y:DataW H×List MemPlace} (hl:cs.length=13) (h:DataW.trod enc Tryd.prog w 0 spare held fuel 42 cs=some y):∃x:NodV,NodR w (Under w.heap.size) cs x∧x.ents.length≤maxLen:=by
 obtain ⟨c0,c1,c2,c3,c4,c5,c6,c7,c8,c9,c10,c11,c12,rfl⟩:=thirteen hl
 obtain ⟨xs,n,-,-,-,hlen,hp⟩:=DataW.trod_struct Tryd.underlying42 h
 match xs,hlen,hp with
 | [x0,x1,x2,x3,x4,x5,x6],_,hp =>
  have p6:=hp 6 _ rfl
  obtain ⟨a0,rfl⟩:=cell_i64 (c:=c0) (hp 0 _ rfl)
  obtain ⟨a1,rfl⟩:=cell_i64 (c:=c1) (hp 1 _ rfl)
  obtain ⟨a2,rfl⟩:=cell_i64 (c:=c2) (hp 2 _ rfl)
  obtain ⟨a3,rfl⟩:=cell_i64 (c:=c3) (hp 3 _ rfl)
  obtain ⟨A,n1,d1,l1,e1,hn1,-,r1,-⟩:=open_rdeF (e:=5) (cs:=[c4]) Enc.byte (fun _=>True) Tryd.underlying35 (by kernel_rfl) (by decide) (fun _ cs _ hl hy=>by
   obtain ⟨c,rfl⟩:=one_cell hl
   obtain ⟨b,rfl⟩:=cell_u8 hy
   exact ⟨b,rfl,trivial⟩) (hp 4 _ rfl)
  obtain ⟨C,n2,d2,l2,e2,hn2,hm2,r2,-⟩:=open_rdeF (e:=31) (cs:=[c5]) entEn (fun _=>True) Tryd.underlying36 (by kernel_rfl) (by decide) (fun _ cs _ hl hy=>by
   obtain ⟨x,rfl⟩:=trod_ent hl hy
   exact ⟨x,⟨[_],[_,_],rfl,rfl,[_],[_],rfl,rfl,rfl⟩,trivial⟩) (hp 5 _ rfl)
  obtain ⟨ys,m,-,-,-,hyl,hq⟩:=DataW.trod_struct Tryd.underlying40 (cs:=[c6,c7,c8,c9,c10,c11,c12]) p6
  match ys,hyl,hq with
  | [y0,y1,y2,y3,y4],_,hq =>
   have q3:=hq 3 _ rfl
   obtain ⟨b0,rfl⟩:=cell_i64 (c:=c6) (hq 0 _ rfl)
   obtain ⟨b1,rfl⟩:=cell_i64 (c:=c7) (hq 1 _ rfl)
   obtain ⟨b2,rfl⟩:=cell_str (c:=c8) (hq 2 _ rfl)
   obtain ⟨b6,rfl⟩:=cell_i64 (c:=c12) (hq 4 _ rfl)
   obtain ⟨zs,k,-,-,-,hzl,hs⟩:=DataW.trod_struct Tryd.underlying38 (cs:=[c9,c10,c11]) q3
   match zs,hzl,hs with
   | [z0,z1,z2],_,hs =>
    obtain ⟨b3,rfl⟩:=cell_i64 (c:=c9) (hs 0 _ rfl)
    obtain ⟨b4,rfl⟩:=cell_i64 (c:=c10) (hs 1 _ rfl)
    obtain ⟨b5,rfl⟩:=cell_i64 (c:=c11) (hs 2 _ rfl)
    cases e1
    cases e2
    refine ⟨⟨a0,a1,a2,a3,l1,l2,⟨b0,b1,b2,b3,b4,b5,b6⟩⟩,⟨A,n1,d1,C,n2,d2,rfl,hn1,r1,hn2,r2⟩,?_⟩
    show l2.length≤maxLen
    rw [r2.1]
    omega
end
end Go.Proofs.YtpndfahgflgocaaDoor

namespace Go.Proofs.YtpndfahgflgocaaDoor
open Go.RowKit Go.Shelf Plain

def UpW (ff:List Int) (l:List WayV):Prop:=∀(j:Nat) (y:WayV),l[j]?=some y→y.up < (j:Int)∧(y.up < 0→y.ino∈ff)
theorem UpW.snoc {ff:List Int} {l:List WayV} {x:WayV} (h:UpW ff l) (hx:x.up < (l.length:Int)∧(x.up < 0→x.ino∈ff)):UpW ff (l++[x]):=by
 intro j y hy
 by_cases hj:j < l.length
 ·rw [List.getElem?_append_left hj] at hy
  exact h j y hy
 ·rw [List.getElem?_append_right (by omega)] at hy
  have hj0:j - l.length=0:=by have:=(List.getElem?_eq_some_iff.1 hy).1;simpa using this
  rw [hj0] at hy
  cases hy
  exact ⟨by omega,hx.2⟩
theorem plain_many {ns:List NodV} (h:ns.length≤24) (hp:∀x∈ns,PlainN x):Many ns∧∀x∈ns,x.data.length≤1000 :=
 ⟨⟨h,fun x hx=>(hp x hx).2.2.2.2.1⟩,fun x hx=>by have:=(hp x hx).2.2.2.1;omega⟩
end Go.Proofs.YtpndfahgflgocaaDoor

