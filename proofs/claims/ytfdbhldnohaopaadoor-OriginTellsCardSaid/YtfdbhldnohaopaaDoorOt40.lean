import Derived.Test.YtfdbhldnohaopaaDoorOt20
import Derived.Test.YtfdbhldnohaopaaDoorOt24
import Derived.Test.YtfdbhldnohaopaaDoorOt18
import Derived.Test.YtfdbhldnohaopaaDoorOt35
import Derived.Test.YtfdbhldnohaopaaDoorRows
import Derived.Lib.SmallJoins
import Derived.OpenShut
import Derived.ProofKit
import Derived.LaidMore
import Derived.Stop.Joined

namespace Go.Proofs.YtfdbhldnohaopaaDoor
open Go.RowKit Go.Shelf Plain Go.WideShapes Go.ChangeShapes

section
variable {H : Type} {enc : TypeId × Value → H} {w : World} {spare : Nat → Bool} {held : Bool}
theorem six_ {l:List Value} (h:l.length=6):∃a b c d e f,l=[a,b,c,d,e,f]:=by
 match l,h with
 | [a,b,c,d,e,f],_=>exact ⟨a,b,c,d,e,f,rfl⟩
set_option maxRecDepth 100000 in
theorem trod_lay {fuel:Nat} {cs:List Value} {y:DataW H×List MemPlace} (hl:cs.length=1) (h:DataW.trod enc Tryd.prog w 0 spare held fuel 26 cs=some y):∃x:List NodV,layEn.R w (Under w.heap.size) cs x∧∀d∈x,d.ents.length≤maxLen:=by
 obtain ⟨c0,rfl⟩:=one_cell hl
 obtain ⟨xs,n,-,-,-,hlen,hp⟩:=DataW.trod_struct Tryd.underlying26 h
 match xs,hlen,hp with
 | [x0],_,hp =>
  obtain ⟨A,n,c,ns,e1,hn,-,r,hfine⟩:=open_rdeF (e:=37) (cs:=[c0]) nodEn (fun x=>x.ents.length≤maxLen) Tryd.underlying24 (by kernel_rfl) (by decide) (fun _ cs _ hl hy=>trod_node hl hy) (hp 0 _ rfl)
  cases e1
  exact ⟨ns,⟨A,n,c,rfl,hn,r⟩,hfine⟩
set_option maxRecDepth 100000 in
theorem open_stack {r:Reach} {b0:Nat} {v:Value} {d:DataW H} {p:List MemPlace} (hv:Value.okWide Tryd.prog w r b0 29 v) (h:DataW.Trod enc Tryd.prog w 0 spare held 29 v d p) :
  ∃(g:GeoQ) (AU AL:Option Addr) (nU cU nL cL:Nat) (up:List NodV) (ls:List (List NodV)),v=.agg (stkC g (.slice AU nU cU) (.slice AL nL cL)).toArray∧nU≤cU∧nL≤cL∧RdE nodEn w (Under w.heap.size) AU nU up∧RdE layEn w (Under w.heap.size) AL nL ls∧(∀x∈up,x.ents.length≤maxLen)∧∀ns∈ls,∀x∈ns,x.ents.length≤maxLen:=by
 obtain ⟨cs,rfl,hsz⟩:=okWide_struct Tryd.underlying29 hv
 have hC:Tryd.prog.cellsOf 29=6:=by kernel_rfl
 obtain ⟨l⟩:=cs
 obtain ⟨c0,c1,c2,c3,c4,c5,rfl⟩:=six_ (l:=l) (hsz.trans hC)
 obtain ⟨fuel,hf⟩:=h
 obtain ⟨xs,n,-,-,-,hlen,hp⟩:=DataW.trod_struct Tryd.underlying29 hf
 match xs,hlen,hp with
 | [x0,x1,x2],_,hp =>
  have p0:=hp 0 _ rfl
  have p1:=hp 1 _ rfl
  obtain ⟨ys,m,-,-,-,hyl,hq⟩:=DataW.trod_struct Tryd.underlying23 (cs:=[c0,c1,c2,c3]) p0
  match ys,hyl,hq with
  | [y0,y1,y2,y3],_,hq =>
   obtain ⟨a0,rfl⟩:=cell_i64 (c:=c0) (hq 0 _ rfl)
   obtain ⟨a1,rfl⟩:=cell_i64 (c:=c1) (hq 1 _ rfl)
   obtain ⟨a2,rfl⟩:=cell_i64 (c:=c2) (hq 2 _ rfl)
   obtain ⟨a3,rfl⟩:=cell_i64 (c:=c3) (hq 3 _ rfl)
   obtain ⟨up,⟨AU,nU,cU,eU,hU,rU⟩,fU⟩:=trod_lay (cs:=[c4]) rfl p1
   obtain ⟨AL,nL,cL,ls,eL,hL,-,rL,fL⟩:=open_rdeF (e:=26) (cs:=[c5]) layEn (fun ns=>∀x∈ns,x.ents.length≤maxLen) Tryd.underlying27 (by kernel_rfl) (by decide) (fun _ cs _ hl hy=>trod_lay hl hy) (hp 2 _ rfl)
   cases eU
   cases eL
   exact ⟨⟨a0,a1,a2,a3⟩,AU,AL,nU,cU,nL,cL,up,ls,rfl,hU,hL,rU,rL,fU,fL⟩
end
end Go.Proofs.YtfdbhldnohaopaaDoor

namespace Go.Proofs.YtfdbhldnohaopaaDoor
open Go.RowKit Go.WideShapes Go.ChangeShapes Plain

theorem gClauses : Tryd.prog.globalNamed "craquelure/origin.clauses" = some 0 := by kernel_rfl
theorem tClauses:(Tryd.prog.globals[0]?).map (·.type)=some 61:=by kernel_rfl
set_option maxRecDepth 100000 in
theorem cl_of_laid {W : World} (h : laidMetH Tryd.prog [("craquelure/origin.clauses", Rows.laid_craquelure_origin_clauses)] W) : ClW W := by
 rw [MakeChecks.laidMetH_plain _ _ _ (by kernel_rfl)] at h
 obtain ⟨ps,⟨g0,t0,cs0,f0,p0,q0,hg0,ht0,hv0,hd0,_,_⟩,_,_⟩:=h
 obtain rfl:=Option.some.inj (gClauses.symm.trans hg0)
 obtain rfl:=Option.some.inj (tClauses.symm.trans ht0)
 obtain ⟨xs,m1,rfl,hx1,hlen,hn,hel⟩:=DataW.trod_array Tryd.underlying61 hd0
 have c1:Tryd.prog.cellsOf 3=1:=by kernel_rfl
 have c3:Tryd.prog.cellsOf 61=3:=by kernel_rfl
 intro j hj
 have hj3:j < cs0.toList.length:=by rw [hlen,c3];exact hj
 obtain ⟨c,hc⟩:∃c,cs0.toList[j]?=some c:=⟨_,List.getElem?_eq_getElem hj3⟩
 have he:=hel j hj
 rw [c1,Nat.mul_one] at he
 have hdr:(cs0.toList.drop j).take 1=[c]:=by
  rw [List.drop_eq_getElem_cons hj3,List.take_succ_cons,List.take_zero]
  congr 1
  have:=List.getElem?_eq_getElem hj3
  rw [hc] at this
  exact (Option.some.inj this).symm
 rw [hdr] at he
 have hxj:xs[j]?=some xs[j]:=List.getElem?_eq_getElem (by omega)
 rw [hxj] at he
 obtain ⟨k,e1,e2,_⟩:=DataW.trod_int Tryd.underlying3 he
 have hcell:=World.var?_cell hg0 hv0 j
 rw [show (⟨0,j,none⟩:Addr)=⟨0,j,none⟩ from rfl] at hcell
 have hcs:cs0[j]?=some c:=by rw [←Array.getElem?_toList];exact hc
 have ec:c=.int .i64 k:=by simpa using e1
 have hk:k=clO j:=by
  have hx:=congrArg Prod.fst hx1
  simp only [Rows.laid_craquelure_origin_clauses,DataW.agg.injEq] at hx
  have h1:(xs.map (·.1))[j]?=some (xs[j]).1:=by rw [List.getElem?_map,hxj];rfl
  rw [←hx,e2] at h1
  obtain rfl|rfl|rfl:j=0∨j=1∨j=2:=by omega
  all_goals (simp at h1;simp only [clO];omega)
 rw [hcell,hcs,ec,hk]
end Go.Proofs.YtfdbhldnohaopaaDoor

namespace Go.Proofs.YtfdbhldnohaopaaDoor
open Go.RowKit Go.Shelf Plain Go.WideShapes Go.ChangeShapes

section
variable {H : Type} {enc : TypeId × Value → H} {w : World} {spare : Nat → Bool} {held : Bool}
set_option maxRecDepth 100000 in
theorem open_nod {r:Reach} {b0:Nat} {v:Value} {d:DataW H} {p:List MemPlace} (hv:Value.okWide Tryd.prog w r b0 37 v) (h:DataW.Trod enc Tryd.prog w 0 spare held 37 v d p) :
  ∃(x:NodV) (D C:Option Addr) (n c m d:Nat),v=.agg (nodC x (.slice D n c) (.slice C m d)).toArray∧RdE Enc.byte w (Under w.heap.size) D n x.data∧RdE entEn w (Under w.heap.size) C m x.ents∧x.ents.length≤maxLen:=by
 obtain ⟨cs,rfl,hsz⟩:=okWide_struct Tryd.underlying37 hv
 have hC:Tryd.prog.cellsOf 37=13:=by kernel_rfl
 obtain ⟨l⟩:=cs
 obtain ⟨fuel,hf⟩:=h
 obtain ⟨x,⟨D,n,c,C,m,d,e1,h1,h2,h3,h4⟩,h5⟩:=trod_node (hsz.trans hC) hf
 exact ⟨x,D,C,n,c,m,d,by have e2:l=nodC x (.slice D n c) (.slice C m d):=e1;rw [e2],h2,h4,h5⟩
end
end Go.Proofs.YtfdbhldnohaopaaDoor

