import Derived.Test.YtpndfahgflgocaaDoorXn21
import Derived.Test.YtpndfahgflgocaaDoorXn31
import Derived.Test.YtpndfahgflgocaaDoorXn19
import Derived.Test.YtpndfahgflgocaaDoorXn4
import Derived.Test.YtpndfahgflgocaaDoorXn1
import Derived.Test.YtpndfahgflgocaaDoorProg
import Derived.WalkKit
import Derived.Lib.SmallJoins
import Derived.OpenShut
import Derived.ProofKit
import Derived.ChangeArms

namespace Go.Proofs.YtpndfahgflgocaaDoor
open Go.RowKit Go.Shelf Plain Go.WideShapes Go.ChangeShapes

section
variable {H : Type} {enc : TypeId × Value → H} {w : World} {spare : Nat → Bool} {held : Bool}
theorem six_ {l:List Value} (h:l.length=6):∃a b c d e f,l=[a,b,c,d,e,f]:=by
 match l,h with
 | [a,b,c,d,e,f],_=>exact ⟨a,b,c,d,e,f,rfl⟩
set_option maxRecDepth 100000 in
theorem trod_lay {fuel:Nat} {cs:List Value} {y:DataW H×List MemPlace} (hl:cs.length=1) (h:DataW.trod enc Tryd.prog w 0 spare held fuel 26 cs=some y):∃x:List NodV,layEn.R w (Under w.heap.size) cs x∧∀d∈x,d.ents.length≤maxLen:=by
 obtain ⟨c0,rfl⟩:=one_cell hl
 obtain ⟨xs,n,-,-,-,hlen,hp⟩:=DataW.trod_struct Tryd.underlying26 h
 match xs,hlen,hp with
 | [x0],_,hp =>
  obtain ⟨A,n,c,ns,e1,hn,-,r,hfine⟩:=open_rdeF (e:=42) (cs:=[c0]) nodEn (fun x=>x.ents.length≤maxLen) Tryd.underlying24 (by kernel_rfl) (by decide) (fun _ cs _ hl hy=>trod_node hl hy) (hp 0 _ rfl)
  cases e1
  exact ⟨ns,⟨A,n,c,rfl,hn,r⟩,hfine⟩
set_option maxRecDepth 100000 in
theorem open_stack {r:Reach} {b0:Nat} {v:Value} {d:DataW H} {p:List MemPlace} (hv:Value.okWide Tryd.prog w r b0 29 v) (h:DataW.Trod enc Tryd.prog w 0 spare held 29 v d p) :
  ∃(g:GeoQ) (AU AL:Option Addr) (nU cU nL cL:Nat) (up:List NodV) (ls:List (List NodV)),v=.agg (stkC g (.slice AU nU cU) (.slice AL nL cL)).toArray∧nU≤cU∧nL≤cL∧RdE nodEn w (Under w.heap.size) AU nU up∧RdE layEn w (Under w.heap.size) AL nL ls∧(∀x∈up,x.ents.length≤maxLen)∧∀ns∈ls,∀x∈ns,x.ents.length≤maxLen:=by
 obtain ⟨cs,rfl,hsz⟩:=okWide_struct Tryd.underlying29 hv
 have hC:Tryd.prog.cellsOf 29=6:=by kernel_rfl
 obtain ⟨l⟩:=cs
 obtain ⟨c0,c1,c2,c3,c4,c5,rfl⟩:=six_ (l:=l) (hsz.trans hC)
 obtain ⟨fuel,hf⟩:=h
 obtain ⟨xs,n,-,-,-,hlen,hp⟩:=DataW.trod_struct Tryd.underlying29 hf
 match xs,hlen,hp with
 | [x0,x1,x2],_,hp =>
  have p0:=hp 0 _ rfl
  have p1:=hp 1 _ rfl
  obtain ⟨ys,m,-,-,-,hyl,hq⟩:=DataW.trod_struct Tryd.underlying23 (cs:=[c0,c1,c2,c3]) p0
  match ys,hyl,hq with
  | [y0,y1,y2,y3],_,hq =>
   obtain ⟨a0,rfl⟩:=cell_i64 (c:=c0) (hq 0 _ rfl)
   obtain ⟨a1,rfl⟩:=cell_i64 (c:=c1) (hq 1 _ rfl)
   obtain ⟨a2,rfl⟩:=cell_i64 (c:=c2) (hq 2 _ rfl)
   obtain ⟨a3,rfl⟩:=cell_i64 (c:=c3) (hq 3 _ rfl)
   obtain ⟨up,⟨AU,nU,cU,eU,hU,rU⟩,fU⟩:=trod_lay (cs:=[c4]) rfl p1
   obtain ⟨AL,nL,cL,ls,eL,hL,-,rL,fL⟩:=open_rdeF (e:=26) (cs:=[c5]) layEn (fun ns=>∀x∈ns,x.ents.length≤maxLen) Tryd.underlying27 (by kernel_rfl) (by decide) (fun _ cs _ hl hy=>trod_lay hl hy) (hp 2 _ rfl)
   cases eU
   cases eL
   exact ⟨⟨a0,a1,a2,a3⟩,AU,AL,nU,cU,nL,cL,up,ls,rfl,hU,hL,rU,rL,fU,fL⟩
end
end Go.Proofs.YtpndfahgflgocaaDoor

namespace Go.Proofs.YtpndfahgflgocaaDoor
open Go.RowKit Go.WideShapes Go.ChangeShapes Plain

section
variable {H : Type} {enc : TypeId × Value → H} {w : World} {base : Nat} {spare : Nat → Bool} {held : Bool}
def datEF (x:EntV):DataW H:=.agg [.lit (.int .i64 x.slot),.lit (.int .i64 x.ino),.lit (.string x.name)]
theorem ent_i64F {n:Nat} {c:Value} {y:DataW H×List MemPlace} (h:DataW.trod enc Tryd.prog w base spare held n 3 [c]=some y):∃a:Int,c=.int .i64 a∧y.1=.lit (.int .i64 a):=by
 obtain ⟨a,e,hy,-⟩:=DataW.trod_int Tryd.underlying3 h
 exact ⟨a,by simpa using e,by rw [hy]⟩
theorem ent_strF {n:Nat} {c:Value} {y:DataW H×List MemPlace} (h:DataW.trod enc Tryd.prog w base spare held n 9 [c]=some y):∃l:List UInt8,c=.string ⟨l.toArray⟩∧y.1=.lit (.string l):=by
 obtain ⟨s,e,hy,-⟩:=DataW.trod_string Tryd.underlying9 h
 exact ⟨s.data.toList,by simpa using e,by rw [hy]⟩
theorem threeF {l:List Value} (h:l.length=3):∃a b c,l=[a,b,c]:=by
 match l,h with
 | [a,b,c],_=>exact ⟨a,b,c,rfl⟩
set_option maxRecDepth 100000 in
theorem trod_entF {fuel:Nat} {cs:List Value} {y:DataW H×List MemPlace} (hl:cs.length=3) (h:DataW.trod enc Tryd.prog w base spare held fuel 31 cs=some y) :
  ∃x:EntV,cs=[.int .i64 x.slot,.int .i64 x.ino,.string ⟨x.name.toArray⟩]∧y.1=datEF x:=by
 obtain ⟨c0,c1,c2,rfl⟩:=threeF hl
 obtain ⟨xs,n,-,rfl,-,hlen,hp⟩:=DataW.trod_struct Tryd.underlying31 h
 match xs,hlen,hp with
 | [x0,x1,x2],_,hp =>
  have p0:=hp 0 _ rfl
  have p1:=hp 1 _ rfl
  have p2:=hp 2 _ rfl
  obtain ⟨a0,rfl,e0⟩:=ent_i64F (c:=c0) p0
  obtain ⟨a1,rfl,e1⟩:=ent_i64F (c:=c1) p1
  obtain ⟨a2,rfl,e2⟩:=ent_strF (c:=c2) p2
  exact ⟨⟨a0,a1,a2⟩,rfl,by simp [datEF,e0,e1,e2]⟩
set_option maxRecDepth 100000 in
theorem open_entF {r:Reach} {b0:Nat} {v:Value} {d:DataW H} {p:List MemPlace} (hv:Value.okWide Tryd.prog w r b0 31 v) (h:DataW.Trod enc Tryd.prog w base spare held 31 v d p) :
  ∃x:EntV,v=.agg #[.int .i64 x.slot,.int .i64 x.ino,.string ⟨x.name.toArray⟩]∧d=datEF x:=by
 obtain ⟨cs,rfl,hsz⟩:=okWide_struct Tryd.underlying31 hv
 have hC:Tryd.prog.cellsOf 31=3:=by kernel_rfl
 obtain ⟨l⟩:=cs
 obtain ⟨fuel,hf⟩:=h
 obtain ⟨x,hx,hd⟩:=trod_entF (hsz.trans hC) hf
 simp only at hx
 exact ⟨x,by rw [show l=_ from hx],hd⟩
end
end Go.Proofs.YtpndfahgflgocaaDoor

