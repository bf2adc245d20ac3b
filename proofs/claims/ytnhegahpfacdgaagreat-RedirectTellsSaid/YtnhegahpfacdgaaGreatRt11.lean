import Derived.Test.YtnhegahpfacdgaaGreatRt2
import Derived.WalkKit
import Derived.OpenShut
import Derived.ChangeArms
import Derived.Lib.SmallJoins
import Derived.Test.YtnhegahpfacdgaaGreatRt10
import Derived.ProofKit
import Derived.Test.YtnhegahpfacdgaaGreatRt4

namespace Go.Proofs.YtnhegahpfacdgaaGreat
open Go.RowKit Plain Go.ChangeShapes Go.WideShapes

section
variable {α H : Type} {enc : TypeId × Value → H} {P : Program} {w : World} {spare : Nat → Bool} {held : Bool}
theorem open_rde {t e : TypeId} {fuel : Nat} {cs : List Value} {x : DataW H × List MemPlace} (E : Enc α) (ht : P.underlying t = some (.slice e)) (hc : P.cellsOf e = E.k) (hk : 0 < E.k)
  (hel:∀n cs y,cs.length=E.k→DataW.trod enc P w 0 spare held n e cs=some y→∃x,E.R w (Under w.heap.size) cs x)
  (h:DataW.trod enc P w 0 spare held fuel t cs=some x):∃A n c l,cs=[.slice A n c]∧n≤c∧RdE E w (Under w.heap.size) A n l:=by
 rcases DataW.trod_slice ht h with ⟨rfl,-⟩|⟨a,len,cap,elems,rest,n,-,rfl,-,-,hl,-,hlen,hcel,-,-⟩
 ·exact ⟨_,_,_,[],rfl,Nat.le_refl _,RdE.none_ _ _ _ _⟩
 ·have each:∀i,i < len→∃y,∃cs,w.cells? 0 (a.add (i*E.k)) E.k=some cs∧E.R w (Under w.heap.size) cs y:=by
   intro i hi
   have h1:=hcel i hi
   rw [hc,List.getElem?_eq_getElem (by omega),Option.bind_eq_some_iff] at h1
   obtain ⟨cs',hcs,hy⟩:=h1
   obtain ⟨x,hx⟩:=hel _ _ _ (World.cells?_some hcs).2.1 hy
   exact ⟨x,cs',hcs,hx⟩
  refine ⟨_,_,_,List.ofFn (fun i:Fin len=>Classical.choose (each i.1 i.2)),rfl,hl,by simp,fun hn=>?_⟩
  obtain ⟨y,cs0,hcs0,-⟩:=each 0 hn
  obtain ⟨-,hl0,h0⟩:=World.cells?_some hcs0
  have hcell0:=h0 0 hk
  rw [List.getElem?_eq_getElem (by omega)] at hcell0
  obtain ⟨b,off,spot⟩:=a
  have hspot:spot=none:=by simpa [Addr.add] using World.cell?_spot hcell0
  subst hspot
  have hadd:∀o i,(⟨b,o,none⟩:Addr).add i=⟨b,o+i,none⟩:=by
   intro o i
   unfold Addr.add
   split
   ·rename_i h0;subst h0;rfl
   ·rfl
  refine ⟨b,off,rfl,?_,fun i y hy=>?_⟩
  ·have:=block_lt_of_cell hcell0
   rw [hadd,hadd] at this
   exact this
  ·rw [List.getElem?_ofFn] at hy
   split at hy
   ·next hi =>
    obtain rfl:=Option.some.inj hy
    obtain ⟨cs,hcs,hr⟩:=Classical.choose_spec (each i hi)
    obtain ⟨-,hl1,h1⟩:=World.cells?_some hcs
    refine ⟨cs,hr,fun j v hj=>?_⟩
    have hjl:=(List.getElem?_eq_some_iff.1 hj).1
    have:=h1 j (by omega)
    rw [hadd,hadd,hj] at this
    rw [←this,Nat.add_assoc]
   ·cases hy
end
end Go.Proofs.YtnhegahpfacdgaaGreat

namespace Go.Proofs.YtnhegahpfacdgaaGreat
open Go.RowKit Go.Shelf Plain Go.WideShapes Go.ChangeShapes

section
variable {H : Type} {enc : TypeId × Value → H} {w : World} {base : Nat} {spare : Nat → Bool} {held : Bool}
theorem cell_i64 {n:Nat} {c:Value} {y:DataW H×List MemPlace} (h:DataW.trod enc Tryz.prog w base spare held n 3 [c]=some y):∃a:Int,c=.int .i64 a:=by
 obtain ⟨a,e,hy,-⟩:=DataW.trod_int Tryz.underlying3 h
 exact ⟨a,by simpa using e⟩
theorem cell_str {n:Nat} {c:Value} {y:DataW H×List MemPlace} (h:DataW.trod enc Tryz.prog w base spare held n 9 [c]=some y):∃l:List UInt8,c=.string ⟨l.toArray⟩:=by
 obtain ⟨s,e,hy,-⟩:=DataW.trod_string Tryz.underlying9 h
 exact ⟨s.data.toList,by simpa using e⟩
theorem three {l:List Value} (h:l.length=3):∃a b c,l=[a,b,c]:=by
 match l,h with
 | [a,b,c],_=>exact ⟨a,b,c,rfl⟩
end
end Go.Proofs.YtnhegahpfacdgaaGreat

namespace Go.Proofs.YtnhegahpfacdgaaGreat
open Go.RowKit Go.Shelf Plain Go.WideShapes Go.ChangeShapes

section
variable {α H : Type} {enc : TypeId × Value → H} {P : Program} {w : World} {spare : Nat → Bool} {held : Bool}
theorem open_rdeF {t e : TypeId} {fuel : Nat} {cs : List Value} {x : DataW H × List MemPlace} (E : Enc α) (Fine : α → Prop) (ht : P.underlying t = some (.slice e)) (hc : P.cellsOf e = E.k) (hk : 0 < E.k)
  (hel:∀n cs y,cs.length=E.k→DataW.trod enc P w 0 spare held n e cs=some y→∃x,E.R w (Under w.heap.size) cs x∧Fine x)
  (h:DataW.trod enc P w 0 spare held fuel t cs=some x):∃A n c l,cs=[.slice A n c]∧n≤c∧c≤maxLen∧RdE E w (Under w.heap.size) A n l∧∀x∈l,Fine x:=by
 rcases DataW.trod_slice ht h with ⟨rfl,-⟩|⟨a,len,cap,elems,rest,n,-,rfl,hx,-,hl,hcm,hlen,hcel,-,-⟩
 ·exact ⟨_,_,_,[],rfl,Nat.le_refl _,by simp [maxLen],RdE.none_ _ _ _ _,fun x hx=>by cases hx⟩
 ·have each:∀i,i < len→∃y,∃cs,w.cells? 0 (a.add (i*E.k)) E.k=some cs∧E.R w (Under w.heap.size) cs y∧Fine y:=by
   intro i hi
   have h1:=hcel i hi
   rw [hc,List.getElem?_eq_getElem (by omega),Option.bind_eq_some_iff] at h1
   obtain ⟨cs',hcs,hy⟩:=h1
   obtain ⟨x,hx,hf⟩:=hel _ _ _ (World.cells?_some hcs).2.1 hy
   exact ⟨x,cs',hcs,hx,hf⟩
  refine ⟨_,_,_,List.ofFn (fun i:Fin len=>Classical.choose (each i.1 i.2)),rfl,hl,hcm,⟨by simp,fun hn=>?_⟩,fun y hy=>?_⟩
  ·obtain ⟨y,cs0,hcs0,-⟩:=each 0 hn
   obtain ⟨-,hl0,h0⟩:=World.cells?_some hcs0
   have hcell0:=h0 0 hk
   rw [List.getElem?_eq_getElem (by omega)] at hcell0
   obtain ⟨b,off,spot⟩:=a
   have hspot:spot=none:=by simpa [Addr.add] using World.cell?_spot hcell0
   subst hspot
   have hadd:∀o i,(⟨b,o,none⟩:Addr).add i=⟨b,o+i,none⟩:=by
    intro o i
    unfold Addr.add
    split
    ·rename_i h0;subst h0;rfl
    ·rfl
   refine ⟨b,off,rfl,?_,fun i y hy=>?_⟩
   ·have:=block_lt_of_cell hcell0
    rw [hadd,hadd] at this
    exact this
   ·rw [List.getElem?_ofFn] at hy
    split at hy
    ·next hi =>
     obtain rfl:=Option.some.inj hy
     obtain ⟨cs,hcs,hr,-⟩:=Classical.choose_spec (each i hi)
     obtain ⟨-,hl1,h1⟩:=World.cells?_some hcs
     refine ⟨cs,hr,fun j v hj=>?_⟩
     have hjl:=(List.getElem?_eq_some_iff.1 hj).1
     have:=h1 j (by omega)
     rw [hadd,hadd,hj] at this
     rw [←this,Nat.add_assoc]
    ·cases hy
  ·rw [List.mem_ofFn] at hy
   obtain ⟨i,rfl⟩:=hy
   obtain ⟨cs,-,-,hf⟩:=Classical.choose_spec (each i.1 i.2)
   exact hf
end
section
variable {H : Type} {enc : TypeId × Value → H} {w : World} {spare : Nat → Bool} {held : Bool}
theorem cell_u8 {n:Nat} {c:Value} {y:DataW H×List MemPlace} (h:DataW.trod enc Tryz.prog w 0 spare held n 5 [c]=some y):∃b:UInt8,c=bv b:=by
 obtain ⟨a,e,hy,hw⟩:=DataW.trod_int Tryz.underlying5 h
 have hr:0≤a∧a≤255:=by
  simp [Lit.wf,IntKind.min,IntKind.max,IntKind.signed,IntKind.bits] at hw
  omega
 refine ⟨UInt8.ofNat a.toNat,?_⟩
 have:c=.int .u8 a:=by simpa using e
 rw [this]
 simp only [bv]
 congr 1
 simp
 omega
theorem one_cell {l:List Value} (h:l.length=1):∃c,l=[c]:=by
 match l,h with
 | [c],_=>exact ⟨c,rfl⟩
theorem thirteen {l:List Value} (h:l.length=13):∃a b c d e f g h i j k m n,l=[a,b,c,d,e,f,g,h,i,j,k,m,n]:=by
 match l,h with
 | [a,b,c,d,e,f,g,h,i,j,k,m,n],_=>exact ⟨a,b,c,d,e,f,g,h,i,j,k,m,n,rfl⟩
set_option maxRecDepth 100000 in
theorem trod_ent {fuel:Nat} {cs:List Value} {y:DataW H×List MemPlace} (hl:cs.length=3) (h:DataW.trod enc Tryz.prog w 0 spare held fuel 87 cs=some y):∃x:EntV,cs=cellsE x:=by
 obtain ⟨c0,c1,c2,rfl⟩:=three hl
 obtain ⟨xs,n,-,rfl,-,hlen,hp⟩:=DataW.trod_struct Tryz.underlying87 h
 match xs,hlen,hp with
 | [x0,x1,x2],_,hp =>
  obtain ⟨a0,rfl⟩:=cell_i64 (c:=c0) (hp 0 _ rfl)
  obtain ⟨a1,rfl⟩:=cell_i64 (c:=c1) (hp 1 _ rfl)
  obtain ⟨a2,rfl⟩:=cell_str (c:=c2) (hp 2 _ rfl)
  exact ⟨⟨a0,a1,a2⟩,rfl⟩
set_option maxRecDepth 100000 in
theorem trod_node {fuel:Nat} {cs:List Value} {y:DataW H×List MemPlace} (hl:cs.length=13) (h:DataW.trod enc Tryz.prog w 0 spare held fuel 65 cs=some y):∃x:NodV,NodR w (Under w.heap.size) cs x∧x.ents.length≤maxLen:=by
 obtain ⟨c0,c1,c2,c3,c4,c5,c6,c7,c8,c9,c10,c11,c12,rfl⟩:=thirteen hl
 obtain ⟨xs,n,-,-,-,hlen,hp⟩:=DataW.trod_struct Tryz.underlying65 h
 match xs,hlen,hp with
 | [x0,x1,x2,x3,x4,x5,x6],_,hp =>
  have p6:=hp 6 _ rfl
  obtain ⟨a0,rfl⟩:=cell_i64 (c:=c0) (hp 0 _ rfl)
  obtain ⟨a1,rfl⟩:=cell_i64 (c:=c1) (hp 1 _ rfl)
  obtain ⟨a2,rfl⟩:=cell_i64 (c:=c2) (hp 2 _ rfl)
  obtain ⟨a3,rfl⟩:=cell_i64 (c:=c3) (hp 3 _ rfl)
  obtain ⟨A,n1,d1,l1,e1,hn1,-,r1,-⟩:=open_rdeF (e:=5) (cs:=[c4]) Enc.byte (fun _=>True) Tryz.underlying58 (by kernel_rfl) (by decide) (fun _ cs _ hl hy=>by
   obtain ⟨c,rfl⟩:=one_cell hl
   obtain ⟨b,rfl⟩:=cell_u8 hy
   exact ⟨b,rfl,trivial⟩) (hp 4 _ rfl)
  obtain ⟨C,n2,d2,l2,e2,hn2,hm2,r2,-⟩:=open_rdeF (e:=87) (cs:=[c5]) entEn (fun _=>True) Tryz.underlying59 (by kernel_rfl) (by decide) (fun _ cs _ hl hy=>by
   obtain ⟨x,rfl⟩:=trod_ent hl hy
   exact ⟨x,⟨[_],[_,_],rfl,rfl,[_],[_],rfl,rfl,rfl⟩,trivial⟩) (hp 5 _ rfl)
  obtain ⟨ys,m,-,-,-,hyl,hq⟩:=DataW.trod_struct Tryz.underlying63 (cs:=[c6,c7,c8,c9,c10,c11,c12]) p6
  match ys,hyl,hq with
  | [y0,y1,y2,y3,y4],_,hq =>
   have q3:=hq 3 _ rfl
   obtain ⟨b0,rfl⟩:=cell_i64 (c:=c6) (hq 0 _ rfl)
   obtain ⟨b1,rfl⟩:=cell_i64 (c:=c7) (hq 1 _ rfl)
   obtain ⟨b2,rfl⟩:=cell_str (c:=c8) (hq 2 _ rfl)
   obtain ⟨b6,rfl⟩:=cell_i64 (c:=c12) (hq 4 _ rfl)
   obtain ⟨zs,k,-,-,-,hzl,hs⟩:=DataW.trod_struct Tryz.underlying61 (cs:=[c9,c10,c11]) q3
   match zs,hzl,hs with
   | [z0,z1,z2],_,hs =>
    obtain ⟨b3,rfl⟩:=cell_i64 (c:=c9) (hs 0 _ rfl)
    obtain ⟨b4,rfl⟩:=cell_i64 (c:=c10) (hs 1 _ rfl)
    obtain ⟨b5,rfl⟩:=cell_i64 (c:=c11) (hs 2 _ rfl)
    cases e1
    cases e2
    refine ⟨⟨a0,a1,a2,a3,l1,l2,⟨b0,b1,b2,b3,b4,b5,b6⟩⟩,⟨A,n1,d1,C,n2,d2,rfl,hn1,r1,hn2,r2⟩,?_⟩
    show l2.length≤maxLen
    rw [r2.1]
    omega
end
end Go.Proofs.YtnhegahpfacdgaaGreat

namespace Go.Proofs.YtnhegahpfacdgaaGreat
open Go.RowKit Go.Shelf Plain

def UpW (ff:List Int) (l:List WayV):Prop:=∀(j:Nat) (y:WayV),l[j]?=some y→y.up < (j:Int)∧(y.up < 0→y.ino∈ff)
theorem UpW.snoc {ff:List Int} {l:List WayV} {x:WayV} (h:UpW ff l) (hx:x.up < (l.length:Int)∧(x.up < 0→x.ino∈ff)):UpW ff (l++[x]):=by
 intro j y hy
 by_cases hj:j < l.length
 ·rw [List.getElem?_append_left hj] at hy
  exact h j y hy
 ·rw [List.getElem?_append_right (by omega)] at hy
  have hj0:j - l.length=0:=by have:=(List.getElem?_eq_some_iff.1 hy).1;simpa using this
  rw [hj0] at hy
  cases hy
  exact ⟨by omega,hx.2⟩
theorem plain_many {ns:List NodV} (h:ns.length≤24) (hp:∀x∈ns,PlainN x):Many ns∧∀x∈ns,x.data.length≤1000 :=
 ⟨⟨h,fun x hx=>(hp x hx).2.2.2.2.1⟩,fun x hx=>by have:=(hp x hx).2.2.2.1;omega⟩
end Go.Proofs.YtnhegahpfacdgaaGreat

namespace Go.Proofs.YtnhegahpfacdgaaGreat
open Go.RowKit Go.Shelf Plain

set_option maxRecDepth 100000 in
set_option maxHeartbeats 1600000 in
theorem place_any {A:Option Addr} {n c:Nat} {l:List WayV} {i:Int} (w:World) (h:RdE wayEn w (Under w.heap.size) A n l) (hn:n≤100000) :
  Calls Tryz.prog 93 #[.slice A n c,.int .i64 i] w (fun e w'=>∃r:Int,e=.returned (.int .i64 r)∧w=w'∧decide (0≤r)=cameW l i):=by
 have H:=hide h
 have hl:=h.1
 clear h
 go_enter Tryz.func93,Tryz.ntmps93
 go_wp2
 go_loopw [5] (fun iv wr=>∃j:Nat,j≤n∧iv=.int .i64 j∧wr=w∧cameW (l.take j) i=false) (fun iv _=>n - (intOf iv).toNat)
 case atStart=>exact ⟨0,by omega,rfl,rfl,by simp [cameW]⟩
 case round =>
  obtain ⟨j,hj,rfl,hwr,hc⟩:=hrel
  subst hwr
  have HC:=hide hc
  clear hc
  by_cases hlt:j < n
  ·obtain ⟨y,hy⟩:∃y,l[j]?=some y:=⟨_,List.getElem?_eq_getElem (by omega)⟩
   obtain ⟨b,o,rfl,-,hcy⟩:=way_get H.out hy
   have q:wr.cell? ⟨b,o+j*3,none⟩=some (.int .i64 y.ino):=hcy 0 _ rfl
   have HY:=hide hy
   clear hcy hy
   by_cases e:y.ino=i
   ·have he:(y.ino==i)=true:=by simpa using e
    have hca:cameW l i=true:=came_iff.2 ⟨y,List.mem_of_getElem? HY.out,e⟩
    have HCA:=hide hca
    clear e hca
    go_wp2
    go_ret
    exact ⟨(j:Int),rfl,rfl,by rw [HCA.out];simp⟩
   ·have he:(y.ino==i)=false:=by simpa using e
    have hst:cameW (l.take (j+1)) i=false:=by
     have:=HC.out
     unfold cameW at this ⊢
     rw [List.take_add_one,HY.out,List.any_append,this]
     simpa using e
    have HST:=hide hst
    clear e hst
    go_wp2
    go_roundw
    case rel=>exact ⟨j+1,by omega,by go_num,(by first|rfl|trivial),HST.out⟩
    case measure=>simp [intOf];omega
  ·obtain rfl:j=n:=by omega
   have hca:cameW l i=false:=by have:=HC.out;rwa [List.take_of_length_le (by omega)] at this
   go_wp2
   go_ret
   exact ⟨-1,rfl,rfl,by rw [hca];rfl⟩
theorem own_lit0 (w:World) (e s:Nat) {B base:Nat} (h:w.heap.size=B) (hb:base≤B):(w.alloc (.cells #[] e)).ownsRow base e s (.slice (some ⟨B,0,none⟩) 0 0) 0 []:=by
 subst h
 have h:(w.alloc (.cells #[] e)).ownsRow w.heap.size e s (.slice (some ⟨w.heap.size,0,none⟩) 0 0) 0 []:=World.ownsRow_lit w #[] 0 (Nat.le_refl _) (by simp [maxLen]) (by simp)
 refine ⟨h.1,?_⟩
 rcases h.2 with h1|⟨g,cap,cur,h1,h2,h3⟩
 ·exact .inl h1
 ·exact .inr ⟨g,cap,cur,h1,Nat.le_trans hb h2,h3⟩
def entsW (ns:List NodV) (d:Int) (p:Nat) (s:StW) (l:List EntV) (i:Nat):StW:=((l.zipIdx.take i).filter (fun x=>isDir ns x.1.ino)).foldl (oneW d p) s
theorem entsW_zero (ns:List NodV) (d:Int) (p:Nat) (s:StW) (l:List EntV):entsW ns d p s l 0=s:=by simp [entsW]
theorem entsW_succ {ns:List NodV} {d:Int} {p:Nat} {s:StW} {l:List EntV} {i:Nat} {x:EntV} (h:l[i]?=some x):entsW ns d p s l (i+1)=if isDir ns x.ino=true then oneW d p (entsW ns d p s l i) (x,i) else entsW ns d p s l i:=by
 have hz:l.zipIdx[i]?=some (x,i):=by rw [List.getElem?_zipIdx,h];simp
 unfold entsW
 rw [List.take_add_one,hz,List.filter_append,List.foldl_append]
 cases hd:isDir ns x.ino <;> simp [hd]
theorem entsW_pre {ns:List NodV} {d:Int} {p:Nat} {s:StW} {l:List EntV} {i:Nat}:s.1 <+: (entsW ns d p s l i).1:=by
 unfold entsW
 exact foldl_keep (P:=fun t:StW=>s.1 <+: t.1) _ _ (List.prefix_refl _) (fun _ _ _ hs=>hs.trans one_pre)
theorem entsW_ok {ns:List NodV} {d:Int} {p:Nat} {s:StW} {l:List EntV} {i:Nat} (h:OkW ns s.1):OkW ns (entsW ns d p s l i).1:=by
 unfold entsW
 exact foldl_keep (P:=fun t:StW=>OkW ns t.1) _ _ h (fun _ x hx hs=>one_ok hs (List.mem_filter.1 hx).2)
theorem entsW_tw {ns:List NodV} {d:Int} {p:Nat} {s:StW} {l:List EntV} {i:Nat}:(entsW ns d p s l i).2.length≤s.2.length+l.length:=by
 unfold entsW
 have h1:=fold_tw d p ((l.zipIdx.take i).filter (fun x=>isDir ns x.1.ino)) s
 have h2:((l.zipIdx.take i).filter (fun x=>isDir ns x.1.ino)).length≤l.length:=Nat.le_trans (List.length_filter_le _ _) (by rw [List.length_take,List.length_zipIdx];omega)
 omega
theorem entsW_all {ns:List NodV} {p:Nat} {s:StW} {y:WayV} (h:s.1[p]?=some y):entsW ns y.ino p s (nodAt ns y.ino).ents (nodAt ns y.ino).ents.length=visitW ns p s:=by
 unfold entsW visitW
 rw [List.take_of_length_le (by simp),h]
 rfl
set_option maxRecDepth 100000 in
set_option maxHeartbeats 1600000 in
theorem At_anyB {A:Option Addr} {B:Nat} {n c:Nat} {ns:List NodV} {i:Int} (w:World) (h:RdE nodEn w (Under B) A n ns) (hB:B≤w.heap.size) (hm:ns.length≤100000):Calls Tryz.prog 50 #[.agg #[.slice A n c],.int .i64 i] w (NodRet w B (nodAt ns i)):=by
 have hl:=h.1
 obtain ⟨rz0,rz,hbz,-⟩:=rows2 w [.slice A n c] (nodC nod0 (.slice none 0 0) (.slice none 0 0)) 26 65
 have HZ:=hide rz
 have HB:=hide hbz
 have qb:((w.alloc (.cells [Value.slice A n c].toArray 26)).alloc (.cells (nodC nod0 (.slice none 0 0) (.slice none 0 0)).toArray 65)).cell? ⟨w.heap.size,0,none⟩=some (.slice A n c):=rz0.cell 0
 have hN:=h
 by_cases h1:i < 1
 ·have e:nodAt ns i=nod0:=nodAt_out (by omega)
  have d1:decide (i < 1)=true:=by simpa using h1
  rw [e]
  clear h hN rz rz0 hbz e
  go_enter Tryz.func50,Tryz.ntmps50
  go_wp2_with (refine wpList_storeW rfl 65 (.tmp 4) (.tmp 14) rfl 13 nod_size (w.heap.size+1) 65 rfl (nodC nod0 (.slice none 0 0) (.slice none 0 0)) (nodC nod0 (.slice none 0 0) (.slice none 0 0)) rfl HZ.out rfl rfl (nodC_one nod0 none none 0 0 0 0) ?_;intro w9 hr9 hg9 hs9;have HR9:=hide hr9;have HB9:=hide (HB.out.grown hg9 HB.out.size (pu4 (by omega)));clear hr9 hg9 hs9)
  exact bodyPost_ret (res_cell Tryz.results50 rfl nod_agg nod_size HR9.out rfl) rfl (NodRet.of (Nat.le_refl _) (RdE.none_ _ _ _ _) (Nat.le_refl _) (RdE.none_ _ _ _ _) HB9.out hB)
 ·have d1:decide (i < 1)=false:=by simpa using h1
  by_cases h2:(n:Int) < i
  ·have e:nodAt ns i=nod0:=nodAt_out (by omega)
   have d2:decide ((n:Int) < i)=true:=by simpa using h2
   rw [e]
   clear h hN rz rz0 hbz e
   go_enter Tryz.func50,Tryz.ntmps50
   go_wp2_with (refine wpList_storeW rfl 65 (.tmp 4) (.tmp 14) rfl 13 nod_size (w.heap.size+1) 65 rfl (nodC nod0 (.slice none 0 0) (.slice none 0 0)) (nodC nod0 (.slice none 0 0) (.slice none 0 0)) rfl HZ.out rfl rfl (nodC_one nod0 none none 0 0 0 0) ?_;intro w9 hr9 hg9 hs9;have HR9:=hide hr9;have HB9:=hide (HB.out.grown hg9 HB.out.size (pu4 (by omega)));clear hr9 hg9 hs9)
   exact bodyPost_ret (res_cell Tryz.results50 rfl nod_agg nod_size HR9.out rfl) rfl (NodRet.of (Nat.le_refl _) (RdE.none_ _ _ _ _) (Nat.le_refl _) (RdE.none_ _ _ _ _) HB9.out hB)
  ·have d2:decide ((n:Int) < i)=false:=by simpa using h2
   obtain ⟨j,x,rfl,hx,e⟩:=nodAt_in (ns:=ns) (i:=i) (by omega)
   rw [e]
   obtain ⟨b,o,cs,rfl,hbB,hNd,hcell⟩:=hN.get_nod hx
   have hjn:j < n:=by omega
   have hcell1:=fun j' v (hv:cs[j']?=some v)=>(hbz.cell (p:=⟨b,o+j*13+j',none⟩) (Nat.lt_of_lt_of_le hbB hB)).trans (hcell j' v hv)
   obtain ⟨A1,n1,c1,C1,m1,d1',rfl,e2,e3,e4,e5⟩:=hNd
   have HC:=hide hcell1
   have E3:=hide e3
   have E5:=hide e5
   have hw1:IntKind.i64.wrap ((j:Int)+1 - 1)=(j:Int):=by rw [show (j:Int)+1 - 1=j from by omega];exact IntWalk.i64_in _ (by omega)
   have hw2:IntKind.i64.wrap (j:Int)=(j:Int):=IntWalk.i64_in _ (by omega)
   clear h hN rz rz0 hbz e hcell hcell1 e3 e5 hx h1 h2
   go_enter Tryz.func50,Tryz.ntmps50
   go_wp2_with (first|(refine wpList_loadX rfl 65 (.tmp 19) rfl 13 nod_agg nod_size b (o+j*13) rfl (nodC x (.slice A1 n1 c1) (.slice C1 m1 d1')) HC.out rfl ?_)|(refine wpList_storeW rfl 65 (.tmp 4) (.tmp 20) rfl 13 nod_size (w.heap.size+1) 65 rfl (nodC nod0 (.slice none 0 0) (.slice none 0 0)) (nodC x (.slice A1 n1 c1) (.slice C1 m1 d1')) rfl HZ.out rfl rfl (nodC_one x A1 C1 n1 c1 m1 d1') ?_;intro w9 hr9 hg9 hs9;have HR9:=hide hr9;have HB9:=hide (HB.out.grown hg9 HB.out.size (pu4 (by omega)));clear hr9 hg9 hs9))
   exact bodyPost_ret (res_cell Tryz.results50 rfl nod_agg nod_size HR9.out rfl) rfl (NodRet.of e2 E3.out e4 E5.out HB9.out hB)
theorem two_way {B:Nat} {W0 wr w9:World} {v6 v7:Value} {n6 n7 e6 e7 s6 s7:Nat} {L6 L7 cs:List Value} {t:Nat} (ho6:wr.ownsRow B e6 s6 v6 n6 L6) (ho7:wr.ownsRow B e7 s7 v7 n7 L7) (he:e6≠e7) (hb:Below B W0 wr) (hB:B≤wr.heap.size) (hg:(wr.alloc (.cells cs.toArray t)).grownBy w9 v6.ownBlock):w9.ownsRow B e7 s7 v7 n7 L7∧Below B W0 w9:=by
 have ha:=below_new (below_self wr) (.cells cs.toArray t)
 have h6:=ownsRow_below ho6 ha
 have h7:=ownsRow_below ho7 ha
 exact ⟨h7.kept hg (owns_apart h6 h7 he),(hb.trans (ha.mono hB)).grown hg (by have:=ha.size;omega) (fun q hq=>(own_block h6 q hq).1)⟩
end Go.Proofs.YtnhegahpfacdgaaGreat

namespace Go.Proofs.YtnhegahpfacdgaaGreat
open Go.RowKit Go.Shelf Plain

structure GeoQ where
 (a b c d:Int)
def stkC (g:GeoQ) (U L:Value):List Value:=[.int .i64 g.a,.int .i64 g.b,.int .i64 g.c,.int .i64 g.d,U,L]
def layEn:Enc (List NodV):=Enc.list nodEn
def LayB (w:World) (B:Nat) (ns:List NodV) (e:Ending) (w':World):Prop:=∃A n c,e=.returned (.agg #[.slice A n c])∧n≤c∧RdE nodEn w' (Under B) A n ns∧Below w.heap.size w w'
theorem lay_out {ls:List (List NodV)} {la:Int} (h:¬(1≤la∧la≤(ls.length:Int))):layL ls la=[]:=by unfold layL;rw [if_neg h]
theorem lay_in {ls:List (List NodV)} {la:Int} (h:1≤la∧la≤(ls.length:Int)):∃(j:Nat) (ns:List NodV),la=(j:Int)+1∧ls[j]?=some ns∧layL ls la=ns:=by
 obtain ⟨j,hj⟩:=Int.eq_ofNat_of_zero_le (show 0≤la - 1 by omega)
 have hl:j < ls.length:=by omega
 refine ⟨j,ls[j],by omega,List.getElem?_eq_getElem hl,?_⟩
 unfold layL
 rw [if_pos h,hj]
 simp [hl]
theorem slc_one (A:Option Addr) (n c:Nat):∀v∈[Value.slice A n c],v.oneCell'=true:=by simp [Value.oneCell']
set_option maxRecDepth 100000 in
theorem stk_agg:∀w,(isAgg 29).run Tryz.prog w=.ok true w:=fun w=>by kernel_rfl
set_option maxRecDepth 100000 in
theorem stk_size:∀w,(Go.sizeOf 29).run Tryz.prog w=.ok 6 w:=fun w=>by kernel_rfl
set_option maxRecDepth 100000 in
theorem plc_agg:∀w,(isAgg 41).run Tryz.prog w=.ok true w:=fun w=>by kernel_rfl
set_option maxRecDepth 100000 in
theorem plc_size:∀w,(Go.sizeOf 41).run Tryz.prog w=.ok 2 w:=fun w=>by kernel_rfl
set_option maxRecDepth 100000 in
theorem brn_agg:∀w,(isAgg 26).run Tryz.prog w=.ok true w:=fun w=>by kernel_rfl
set_option maxRecDepth 100000 in
theorem brn_size:∀w,(Go.sizeOf 26).run Tryz.prog w=.ok 1 w:=fun w=>by kernel_rfl
set_option maxRecDepth 100000 in
set_option maxHeartbeats 1600000 in
theorem Beneath_any {g:GeoQ} {AU AL:Option Addr} {nU cU nL cL:Nat} {ls:List (List NodV)} {la:Int} {B:Nat} (w:World) (h:RdE layEn w (Under B) AL nL ls) (hB:B≤w.heap.size) (hm:ls.length≤100) :
  Calls Tryz.prog 112 #[.agg (stkC g (.slice AU nU cU) (.slice AL nL cL)).toArray,.int .i64 la] w (LayB w B (layL ls la)):=by
 obtain ⟨r0,r1,hb2,hs2⟩:=rows2 w (stkC g (.slice AU nU cU) (.slice AL nL cL)) [.slice none 0 0] 29 26
 obtain ⟨W3,hW3⟩:∃W3,(w.alloc (.cells (stkC g (.slice AU nU cU) (.slice AL nL cL)).toArray 29)).alloc (.cells [Value.slice none 0 0].toArray 26)=W3:=⟨_,rfl⟩
 rw [hW3] at r0 r1 hb2 hs2
 have hW3':(w.alloc (.cells #[.int .i64 g.a,.int .i64 g.b,.int .i64 g.c,.int .i64 g.d,.slice AU nU cU,.slice AL nL cL] 29)).alloc (.cells #[.slice none 0 0] 26)=W3:=hW3
 have hl:=h.1
 have q5:W3.cell? ⟨w.heap.size,5,none⟩=some (.slice AL nL cL):=r0.cell 5
 have HZ:=hide r1
 have HB3:=hide hb2
 have hs3:w.heap.size≤W3.heap.size:=hb2.size
 have HL:=hide (h.under hb2 hB)
 unfold stkC
 by_cases h1:la≤0
 ·have e:layL ls la=[]:=lay_out (by omega)
  have d1:decide (la≤0)=true:=by simpa using h1
  rw [e]
  clear h r0 r1 hb2 hW3 e h1
  go_enter Tryz.func112,Tryz.ntmps112
  go_wp2_with (refine wpList_storeW rfl 26 (.tmp 4) (.tmp 14) rfl 1 brn_size (w.heap.size+1) 26 rfl [.slice none 0 0] [.slice none 0 0] rfl HZ.out rfl rfl (slc_one _ _ _) ?_;intro w9 hr9 hg9 hs9;have HR9:=hide hr9;have HB9:=hide (HB3.out.grown hg9 HB3.out.size (pu4 (by omega)));clear hr9 hg9 hs9)
  exact bodyPost_ret (res_cell Tryz.results112 rfl brn_agg brn_size HR9.out rfl) rfl ⟨none,0,0,rfl,Nat.le_refl _,RdE.none_ _ _ _ _,HB9.out⟩
 ·have d1:decide (la≤0)=false:=by simpa using h1
  by_cases h2:(nL:Int) < la
  ·have e:layL ls la=[]:=lay_out (by omega)
   have d2:decide ((nL:Int) < la)=true:=by simpa using h2
   rw [e]
   clear h r0 r1 hb2 hW3 e h1 h2
   go_enter Tryz.func112,Tryz.ntmps112
   go_wp2_with (refine wpList_storeW rfl 26 (.tmp 4) (.tmp 14) rfl 1 brn_size (w.heap.size+1) 26 rfl [.slice none 0 0] [.slice none 0 0] rfl HZ.out rfl rfl (slc_one _ _ _) ?_;intro w9 hr9 hg9 hs9;have HR9:=hide hr9;have HB9:=hide (HB3.out.grown hg9 HB3.out.size (pu4 (by omega)));clear hr9 hg9 hs9)
   exact bodyPost_ret (res_cell Tryz.results112 rfl brn_agg brn_size HR9.out rfl) rfl ⟨none,0,0,rfl,Nat.le_refl _,RdE.none_ _ _ _ _,HB9.out⟩
  ·have d2:decide ((nL:Int) < la)=false:=by simpa using h2
   obtain ⟨j,ns,hla,hns,e⟩:=lay_in (ls:=ls) (la:=la) (by omega)
   rw [e]
   obtain ⟨bL,oL,hAL,hbL,A2,n2,c2,hcL,hc2,hN2⟩:=RdE.get_list (F:=nodEn) HL.out hns
   have hjn:j < nL:=by omega
   have HNS:=hide hN2
   subst hla
   subst hAL
   have hw1:IntKind.i64.wrap ((j:Int)+1 - 1)=(j:Int):=by rw [show (j:Int)+1 - 1=j from by omega];exact IntWalk.i64_in _ (by omega)
   have hw2:IntKind.i64.wrap (j:Int)=(j:Int):=IntWalk.i64_in _ (by omega)
   have hjl:(j:Int) < (nL:Int):=by omega
   clear h r0 r1 hb2 hW3 e h1 h2 hN2 hns hl
   go_enter Tryz.func112,Tryz.ntmps112
   go_wp2_with (first|fail|(refine wpList_storeW rfl 26 (.tmp 4) (.tmp 20) rfl 1 brn_size (w.heap.size+1) 26 rfl [.slice none 0 0] [.slice A2 n2 c2] rfl HZ.out rfl rfl (slc_one _ _ _) ?_;intro w9 hr9 hg9 hs9;have HR9:=hide hr9;have HB9:=hide (HB3.out.grown hg9 HB3.out.size (pu4 (by omega)));have HN9:=hide (HNS.out.mono (show Kept (Under B) W3 w9 from fun b hb=>hg9.block b (by unfold Under at hb;omega) (fun e=>by have:=Option.some.inj e;unfold Under at hb;omega)) (fun _ h=>h));clear hr9 hg9 hs9))
   exact bodyPost_ret (res_cell Tryz.results112 rfl brn_agg brn_size HR9.out rfl) rfl ⟨A2,n2,c2,rfl,hc2,HN9.out,HB9.out⟩
theorem Beneath_e {g:GeoQ} {AU AL:Option Addr} {nU cU nL cL:Nat} {ls:List (List NodV)} {ns:List NodV} {la:Int} {B:Nat} (hx:layL ls la=ns) (w:World) (h:RdE layEn w (Under B) AL nL ls) (hB:B≤w.heap.size) (hm:ls.length≤100) :
  Calls Tryz.prog 112 #[.agg (stkC g (.slice AU nU cU) (.slice AL nL cL)).toArray,.int .i64 la] w (LayB w B ns):=by rw [←hx];exact Beneath_any w h hB hm
theorem Of_e {A:Option Addr} {B:Nat} {n c:Nat} {ns:List NodV} {i:Int} {x:NodV} (hx:nodAt ns i=x) (w:World) (h:RdE nodEn w (Under B) A n ns) (hB:B≤w.heap.size) (hm:ns.length≤100000):Calls Tryz.prog 63 #[.agg #[.slice A n c],.int .i64 i] w (NodRet w B x):=by rw [←hx];exact Of_any w h hB hm
theorem layL_len {ls:List (List NodV)} (h:∀ns∈ls,ns.length≤1000) (la:Int):(layL ls la).length≤1000:=by
 unfold layL
 split
 ·cases hx:ls[(la - 1).toNat]? with
  | none=>simp
  | some ns=>exact h ns (List.mem_of_getElem? hx)
 ·simp
set_option maxRecDepth 100000 in
set_option maxHeartbeats 4000000 in
theorem NLower_any {g:GeoQ} {AU AL:Option Addr} {nU cU nL cL:Nat} {ls:List (List NodV)} {la i:Int} {B:Nat} (w:World) (h:RdE layEn w (Under B) AL nL ls) (hB:B≤w.heap.size) (hm:ls.length≤100) (hm2:∀ns∈ls,ns.length≤1000) :
  Calls Tryz.prog 102 #[.agg (stkC g (.slice AU nU cU) (.slice AL nL cL)).toArray,.agg #[.int .i64 la,.int .i64 i]] w (NodRet w B (lowAt ls la i)):=by
 obtain ⟨r0,r1,r2,hb3,hs3⟩:=rows3 w (stkC g (.slice AU nU cU) (.slice AL nL cL)) [.int .i64 la,.int .i64 i] (nodC nod0 (.slice none 0 0) (.slice none 0 0)) 29 41 65
 obtain ⟨W3,hW3⟩:∃W3,((w.alloc (.cells (stkC g (.slice AU nU cU) (.slice AL nL cL)).toArray 29)).alloc (.cells [Value.int .i64 la,.int .i64 i].toArray 41)).alloc (.cells (nodC nod0 (.slice none 0 0) (.slice none 0 0)).toArray 65)=W3:=⟨_,rfl⟩
 rw [hW3] at r0 r1 r2 hb3 hs3
 have hW3':((w.alloc (.cells #[.int .i64 g.a,.int .i64 g.b,.int .i64 g.c,.int .i64 g.d,.slice AU nU cU,.slice AL nL cL] 29)).alloc (.cells #[.int .i64 la,.int .i64 i] 41)).alloc (.cells #[.int .i64 0,.int .i64 0,.int .i64 0,.int .i64 0,.slice none 0 0,.slice none 0 0,.int .i64 0,.int .i64 0,.string ⟨#[]⟩,.int .i64 0,.int .i64 0,.int .i64 0,.int .i64 0] 65)=W3:=hW3
 have HQ0:=hide (fun W (hb:Below W3.heap.size W3 W)=>show W.cell? ⟨w.heap.size+1,0,none⟩=some (.int .i64 la) from (r1.on hb).cell 0)
 have HQ1:=hide (fun W (hb:Below W3.heap.size W3 W)=>show W.cell? ⟨w.heap.size+1,1,none⟩=some (.int .i64 i) from (r1.on hb).cell 1)
 have R0:=hide r0
 have R2:=hide r2
 have HB3:=hide hb3
 have hs3:w.heap.size≤W3.heap.size:=hb3.size
 have HL:=hide (h.under hb3 hB)
 have hlay:=layL_len hm2 la
 rw [←lay_at]
 obtain ⟨x,hx⟩:∃x,nodAt (layL ls la) i=x:=⟨_,rfl⟩
 obtain ⟨ly,hly⟩:∃ly,layL ls la=ly:=⟨_,rfl⟩
 rw [hly] at hx hlay
 have HLY:=hide hly
 unfold stkC
 clear h r0 r1 r2 hb3 hW3
 rw [hly,hx]
 have HX:=hide hx
 clear hx hly
 go_enter Tryz.func102,Tryz.ntmps102
 go_wp2_with fail
 clear hW3'
 refine wp_region_planL (fun w'=>Below W3.heap.size W3 w') [(0,true),(1,true),(2,true),(4,true),(5,true),(3,false),(6,false)] 7 (by kernel_rfl) (by kernel_rfl) (by kernel_rfl) (by kernel_rfl) (by kernel_rfl) rfl (fun _ _ _ _ _ h=>h) (below_drew (below_self W3)) (fun hHeld=>?_)
 simp only [planOps,List.filterMap_cons,List.filterMap_nil,List.getElem?_toArray,List.getElem?_cons_succ,List.getElem?_cons_zero,Option.map_some]
 refine wpPlan_take (v:=?_) (by kernel_rfl) (fun wS hSw=>?_) ?_
 rotate_left
 ·refine execOp_load (x:=.tmp 2) (k:=6) (g:=w.heap.size) (off:=0) (cs:=stkC g (.slice AU nU cU) (.slice AL nL cL)) ?_ stk_agg stk_size ?_ (fun j v hv=>by rw [Nat.zero_add];exact ((R0.out.on hSw).cell j).trans hv) rfl <;> rfl
 (try simp only [Act.put,pu1,pu2,pu3])
 refine wpPlan_take (v:=?_) (by kernel_rfl) (fun wS hSw=>?_) ?_
 rotate_left
 ·(try dsimp only at hSw);go_simp;(try with_reducible rfl)
 (try simp only [Act.put,pu1,pu2,pu3])
 refine wpPlan_take (v:=?_) (by kernel_rfl) (fun wS hSw=>?_) ?_
 rotate_left
 ·have qx:=HQ0.out wS hSw;go_simp;(try with_reducible rfl)
 (try simp only [Act.put,pu1,pu2,pu3])
 refine wpPlan_take (v:=?_) (by kernel_rfl) (fun wS hSw=>?_) ?_
 rotate_left
 ·(try dsimp only at hSw);go_simp;(try with_reducible rfl)
 (try simp only [Act.put,pu1,pu2,pu3])
 refine wpPlan_take (v:=?_) (by kernel_rfl) (fun wS hSw=>?_) ?_
 rotate_left
 ·have qx:=HQ1.out wS hSw;go_simp;(try with_reducible rfl)
 (try simp only [Act.put,pu1,pu2,pu3])
 refine wpPlan_call (by kernel_rfl) (fun K hK=>?_)
 have hOld:=hide hHeld
 clear hHeld
 go_simp
 go_at_call 112
 refine (Beneath_e HLY.out (B:=B) _ (HL.out.under hOld.out (by omega)) (by have:=hOld.out.size;omega) hm).mono ?_
 rintro e w' ⟨A1,n1,c1,rfl,e2,e3,hbel⟩
 have HN:=hide e3
 clear e3
 refine hK.out _ _ (hOld.out.trans (hbel.mono hOld.out.size)) (fun hHeld=>?_)
 clear hK K
 (try simp only [Act.put,pu1,pu2,pu3])
 refine wpPlan_call (by kernel_rfl) (fun K hK=>?_)
 have hOld:=hide hHeld
 clear hHeld
 go_simp
 go_at_call 63
 refine (Of_e HX.out (B:=B) _ HN.out (by have:=hOld.out.size;omega) (by omega)).mono ?_
 rintro e w' ⟨A2,n2,c2,C2,m2,d2,rfl,f2,f3,f4,f5,hbel⟩
 have E3:=hide f3
 have E5:=hide f5
 clear f3 f5
 refine hK.out _ _ (hOld.out.trans (hbel.mono hOld.out.size)) (fun hHeld=>?_)
 clear hK K
 (try simp only [Act.put,pu1,pu2,pu3])
 refine wpPlan_end ?_
 refine postL_go rfl (by kernel_rfl) ?_
 have R9:=hide (R2.out.on hHeld)
 have HBX:=hide (HB3.out.trans (hHeld.mono hs3))
 have hsX:=hHeld.size
 clear hHeld
 refine wp_storeC 65 (.tmp 4) (.tmp 11) rfl 13 nod_size (w.heap.size+1+1) 0 65 rfl (nodC nod0 (.slice none 0 0) (.slice none 0 0)) (nodC x (.slice A2 n2 c2) (.slice C2 m2 d2)) rfl R9.out rfl (by exact Nat.le_refl _) (nodC_one _ _ _ _ _ _ _) ?_
 intro w9 hr9 hg9 hs9
 have e9:splice (nodC nod0 (.slice none 0 0) (.slice none 0 0)) 0 (nodC x (.slice A2 n2 c2) (.slice C2 m2 d2))=nodC x (.slice A2 n2 c2) (.slice C2 m2 d2):=by simp [splice,nodC]
 rw [e9] at hr9
 have HR9:=hide hr9
 have HG9:=hide hg9
 clear hr9 hg9 e9
 (try simp only [Act.put])
 go_wp2_with fail
 have hk:Kept (Under B) w' w9:=fun b hb=>HG9.out.block b (by unfold Under at hb;omega) (fun e=>by have:=Option.some.inj e;unfold Under at hb;omega)
 exact bodyPost_ret (res_cell Tryz.results102 rfl nod_agg nod_size HR9.out rfl) rfl ⟨A2,n2,c2,C2,m2,d2,rfl,f2,E3.out.mono hk (fun _ h=>h),f4,E5.out.mono hk (fun _ h=>h),HBX.out.grown HG9.out (by omega) (pu4 (by omega))⟩
end Go.Proofs.YtnhegahpfacdgaaGreat

namespace Go.Proofs.YtnhegahpfacdgaaGreat
open Go.RowKit Go.Shelf Plain

theorem bit_one:∀h:Fin 32,(bits .and .i64 (h.1:Int) 1 != 0)=decide ((h.1:Int) % 2=1):=by decide +kernel
theorem bit_one' {h:Int} (h0:0≤h) (h1:h≤31):(bits .and .i64 h 1 != 0)=decide (h % 2=1):=by
 obtain ⟨n,rfl⟩:=Int.eq_ofNat_of_zero_le h0
 exact bit_one ⟨n,by omega⟩
theorem bit_is1:∀h:Fin 32,(bits .and .i64 (h.1:Int) 1==1)=decide ((h.1:Int) % 2=1):=by decide +kernel
theorem bit_is1' {h:Int} (h0:0≤h) (h1:h≤31):(bits .and .i64 h 1==1)=decide (h % 2=1):=by
 obtain ⟨n,rfl⟩:=Int.eq_ofNat_of_zero_le h0
 exact bit_is1 ⟨n,by omega⟩
theorem bit_is2:∀h:Fin 32,(bits .and .i64 (h.1:Int) 2==2)=decide ((h.1:Int) / 2 % 2=1):=by decide +kernel
theorem bit_is2' {h:Int} (h0:0≤h) (h1:h≤31):(bits .and .i64 h 2==2)=decide (h / 2 % 2=1):=by
 obtain ⟨n,rfl⟩:=Int.eq_ofNat_of_zero_le h0
 exact bit_is2 ⟨n,by omega⟩
set_option maxRecDepth 100000 in
set_option maxHeartbeats 1600000 in
theorem NHas_b {x:NodV} {D C:Option Addr} {n c m d:Nat} {q:Int} {b:Bool} (hb:(bits .and .i64 x.att.h q==q)=b) (w:World):Calls Tryz.prog 44 #[.agg (nodC x (.slice D n c) (.slice C m d)).toArray,.int .i64 q] w (BoolB w b):=by
 have r:=RowL.new w 65 (nodC x (.slice D n c) (.slice C m d))
 have hb1:=below_new (below_self w) (.cells (nodC x (.slice D n c) (.slice C m d)).toArray 65)
 obtain ⟨W1,hW1⟩:∃W1,w.alloc (.cells (nodC x (.slice D n c) (.slice C m d)).toArray 65)=W1:=⟨_,rfl⟩
 rw [hW1] at r hb1
 have hW1':w.alloc (.cells #[.int .i64 x.k,.int .i64 x.p,.int .i64 x.n,.int .i64 x.g,.slice D n c,.slice C m d,.int .i64 x.att.h,.int .i64 x.att.o,.string ⟨x.att.r.toArray⟩,.int .i64 x.att.l,.int .i64 x.att.i,.int .i64 x.att.g,.int .i64 x.att.s] 65)=W1:=hW1
 have q6:W1.cell? ⟨w.heap.size,6,none⟩=some (.int .i64 x.att.h):=r.cell 6
 have HB1:=hide hb1
 have HBB:=hide hb
 unfold nodC
 clear r hb1 hW1
 go_enter Tryz.func44,Tryz.ntmps44
 go_wp2
 go_ret
 exact BoolB.of HB1.out
set_option maxRecDepth 100000 in
set_option maxHeartbeats 1600000 in
theorem Marked_b {x:NodV} {D C:Option Addr} {n c m d:Nat} {b:Bool} (hb:opq x=b) (h0:0≤x.att.h) (h1:x.att.h≤31) (w:World):Calls Tryz.prog 90 #[.agg (nodC x (.slice D n c) (.slice C m d)).toArray] w (BoolB w b):=by
 have r:=RowL.new w 65 (nodC x (.slice D n c) (.slice C m d))
 have hb1:=below_new (below_self w) (.cells (nodC x (.slice D n c) (.slice C m d)).toArray 65)
 obtain ⟨W1,hW1⟩:∃W1,w.alloc (.cells (nodC x (.slice D n c) (.slice C m d)).toArray 65)=W1:=⟨_,rfl⟩
 rw [hW1] at r hb1
 have hW1':w.alloc (.cells #[.int .i64 x.k,.int .i64 x.p,.int .i64 x.n,.int .i64 x.g,.slice D n c,.slice C m d,.int .i64 x.att.h,.int .i64 x.att.o,.string ⟨x.att.r.toArray⟩,.int .i64 x.att.l,.int .i64 x.att.i,.int .i64 x.att.g,.int .i64 x.att.s] 65)=W1:=hW1
 have R:=hide r
 have HB1:=hide hb1
 obtain ⟨b1,hb1'⟩:∃b1,(bits .and .i64 x.att.h 1==1)=b1:=⟨_,rfl⟩
 obtain ⟨b2,hb2⟩:∃b2,(x.att.o==121)=b2:=⟨_,rfl⟩
 have e:b=(b1&&b2):=by
  rw [←hb,←hb1',←hb2,bit_is1' h0 h1]
  unfold opq
  congr 1
 have HB1':=hide hb1'
 subst e
 unfold nodC
 clear r hb1 hW1 hb h0 h1 hb1'
 cases b1 <;> cases b2
 all_goals
  go_enter Tryz.func90,Tryz.ntmps90
  go_wp2_with (first|(refine wpList_loadW rfl 65 (.tmp 1) rfl 13 nod_agg nod_size w.heap.size 65 rfl (nodC x (.slice D n c) (.slice C m d)) R.out rfl ?_)|(go_at_call 44;refine (NHas_b HB1'.out _).mono ?_;rintro e w' ⟨rfl,hb3⟩;have q7:w'.cell? ⟨w.heap.size,7,none⟩=some (.int .i64 x.att.o):=(R.out.on hb3).cell 7;have HB3:=hide hb3;clear hb3))
  go_ret
  exact BoolB.of (HB1.out.trans (HB3.out.mono HB1.out.size))
def EntsRet (w:World) (B:Nat) (l:List EntV) (e:Ending) (w':World):Prop:=∃C m d,e=.returned (.slice C m d)∧m≤d∧RdE entEn w' (Under B) C m l∧Below w.heap.size w w'
set_option maxRecDepth 100000 in
set_option maxHeartbeats 4000000 in
theorem Entries_any {A:Option Addr} {n c:Nat} {ns:List NodV} {i:Int} {B:Nat} (w:World) (h:RdE nodEn w (Under B) A n ns) (hB:B≤w.heap.size) (hm:ns.length≤100000) :
  Calls Tryz.prog 127 #[.agg #[.slice A n c],.int .i64 i] w (EntsRet w B (entB ns i)):=by
 have r0:=RowL.new w 26 [.slice A n c]
 have hb1:=below_new (below_self w) (.cells [Value.slice A n c].toArray 26)
 obtain ⟨W1,hW1⟩:∃W1,w.alloc (.cells [Value.slice A n c].toArray 26)=W1:=⟨_,rfl⟩
 rw [hW1] at r0 hb1
 have hW1':w.alloc (.cells #[.slice A n c] 26)=W1:=hW1
 have q0:W1.cell? ⟨w.heap.size,0,none⟩=some (.slice A n c):=r0.cell 0
 have HB1:=hide hb1
 have HL:=hide (h.under hb1 hB)
 have hs1:w.heap.size≤W1.heap.size:=hb1.size
 obtain ⟨x,hx⟩:∃x,nodAt ns i=x:=⟨_,rfl⟩
 have HX:=hide hx
 obtain ⟨bk,hbk⟩:∃bk,(x.k != 1)=bk:=⟨_,rfl⟩
 have HE:=hide (show entB ns i=if bk=true then [] else x.ents from by
  unfold entB
  rw [hx,←hbk]
  by_cases hk:x.k=1 <;> simp [hk])
 clear r0 hb1 hW1 h hx
 rw [HE.out]
 go_enter Tryz.func127,Tryz.ntmps127
 cases bk
 all_goals
  go_wp2_with (first|(go_at_call 63;refine (Of_e HX.out W1 HL.out (Nat.le_trans hB hs1) hm).mono ?_;rintro e w3 ⟨A1,n1,c1,C1,m1,d1,rfl,e2,e3,e4,e5,hb3⟩;have E5:=hide e5;have HB3:=hide (HB1.out.trans (hb3.mono hs1));have hs3:=hb3.size;have HZ:=hide (RowL.new w3 65 (nodC nod0 (.slice none 0 0) (.slice none 0 0)));clear e3 e5 hb3)|(refine wpList_storeW rfl 65 (.tmp 5) (.tmp 8) rfl 13 nod_size w3.heap.size 65 rfl (nodC nod0 (.slice none 0 0) (.slice none 0 0)) (nodC x (.slice A1 n1 c1) (.slice C1 m1 d1)) rfl HZ.out rfl rfl (nodC_one _ _ _ _ _ _ _) ?_;intro w4 hr4 hg4 hs4;have hb4:=below_stored' hg4;have q0:w4.cell? ⟨w3.heap.size,0,none⟩=some (.int .i64 x.k):=hr4.cell 0;have q5:w4.cell? ⟨w3.heap.size,5,none⟩=some (.slice C1 m1 d1):=hr4.cell 5;have HB4:=hide (HB3.out.trans (hb4.mono HB3.out.size));have E6:=hide (E5.out.under hb4 (by omega));clear hr4 hg4 hs4 hb4))
  go_ret
  first|exact ⟨C1,m1,d1,rfl,e4,E6.out,HB4.out⟩|exact ⟨none,0,0,rfl,Nat.le_refl _,RdE.none_ _ _ _ _,HB4.out⟩
end Go.Proofs.YtnhegahpfacdgaaGreat

