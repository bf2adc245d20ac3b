import Derived.Test.YtggnbflbbfdohaaTs29
import Derived.Test.YtggnbflbbfdohaaTs26
import Derived.Deep.Cut
import Derived.Deep.CutRange
import Derived.Test.YtggnbflbbfdohaaTs17

namespace Go.Proofs.Ytggnbflbbfdohaa
open Go.RowKit Go.Shelf Plain

def EntsRet (w:World) (B:Nat) (l:List EntV) (e:Ending) (w':World):Prop:=∃C m d,e=.returned (.slice C m d)∧m≤d∧RdE entEn w' (Under B) C m l∧Below w.heap.size w w'
set_option maxRecDepth 100000 in
set_option maxHeartbeats 4000000 in
theorem Entries_any {A:Option Addr} {n c:Nat} {ns:List NodV} {i:Int} {B:Nat} (w:World) (h:RdE nodEn w (Under B) A n ns) (hB:B≤w.heap.size) (hm:ns.length≤100000) :
  Calls Try.prog 23 #[.agg #[.slice A n c],.int .i64 i] w (EntsRet w B (entB ns i)):=by
 have r0:=RowL.new w 24 [.slice A n c]
 have hb1:=below_new (below_self w) (.cells [Value.slice A n c].toArray 24)
 obtain ⟨W1,hW1⟩:∃W1,w.alloc (.cells [Value.slice A n c].toArray 24)=W1:=⟨_,rfl⟩
 rw [hW1] at r0 hb1
 have hW1':w.alloc (.cells #[.slice A n c] 24)=W1:=hW1
 have q0:W1.cell? ⟨w.heap.size,0,none⟩=some (.slice A n c):=r0.cell 0
 have HB1:=hide hb1
 have HL:=hide (h.under hb1 hB)
 have hs1:w.heap.size≤W1.heap.size:=hb1.size
 obtain ⟨x,hx⟩:∃x,nodAt ns i=x:=⟨_,rfl⟩
 have HX:=hide hx
 obtain ⟨bk,hbk⟩:∃bk,(x.k != 1)=bk:=⟨_,rfl⟩
 have HE:=hide (show entB ns i=if bk=true then [] else x.ents from by
  unfold entB
  rw [hx,←hbk]
  by_cases hk:x.k=1 <;> simp [hk])
 clear r0 hb1 hW1 h hx
 rw [HE.out]
 go_enter Try.func23,Try.ntmps23
 cases bk
 all_goals
  go_wp2_with (first|(go_at_call 31;refine (Of_e HX.out W1 HL.out (Nat.le_trans hB hs1) hm).mono ?_;rintro e w3 ⟨A1,n1,c1,C1,m1,d1,rfl,e2,e3,e4,e5,hb3⟩;have E5:=hide e5;have HB3:=hide (HB1.out.trans (hb3.mono hs1));have hs3:=hb3.size;have HZ:=hide (RowL.new w3 38 (nodC nod0 (.slice none 0 0) (.slice none 0 0)));clear e3 e5 hb3)|(refine wpList_storeW rfl 38 (.tmp 5) (.tmp 8) rfl 13 nod_size w3.heap.size 38 rfl (nodC nod0 (.slice none 0 0) (.slice none 0 0)) (nodC x (.slice A1 n1 c1) (.slice C1 m1 d1)) rfl HZ.out rfl rfl (nodC_one _ _ _ _ _ _ _) ?_;intro w4 hr4 hg4 hs4;have hb4:=below_stored' hg4;have q0:w4.cell? ⟨w3.heap.size,0,none⟩=some (.int .i64 x.k):=hr4.cell 0;have q5:w4.cell? ⟨w3.heap.size,5,none⟩=some (.slice C1 m1 d1):=hr4.cell 5;have HB4:=hide (HB3.out.trans (hb4.mono HB3.out.size));have E6:=hide (E5.out.under hb4 (by omega));clear hr4 hg4 hs4 hb4))
  go_ret
  first|exact ⟨C1,m1,d1,rfl,e4,E6.out,HB4.out⟩|exact ⟨none,0,0,rfl,Nat.le_refl _,RdE.none_ _ _ _ _,HB4.out⟩
end Go.Proofs.Ytggnbflbbfdohaa

namespace Go.Proofs.Ytggnbflbbfdohaa
open Go.RowKit Go.Shelf Plain

section
variable {P : Program} {T T' k k' : Nat}
end
def FirstBS (w9:World) (base ge gn r1 r2:Nat) (ec nc:List Value) (W:World):Prop:=RowL W ge 40 ec∧RowL W gn 38 nc∧(∃cu,RowL W r1 40 cu∧cu.length=3)∧(∃cu,RowL W r2 38 cu∧cu.length=13)∧Below base w9 W
theorem FirstBS.drew {w9:World} {base ge gn r1 r2:Nat} {ec nc:List Value} {W:World} (h:FirstBS w9 base ge gn r1 r2 ec nc W):FirstBS w9 base ge gn r1 r2 ec nc W.drew:=⟨h.1,h.2.1,h.2.2.1,h.2.2.2.1,⟨h.2.2.2.2.os,h.2.2.2.2.tape,h.2.2.2.2.output,h.2.2.2.2.size,h.2.2.2.2.block⟩⟩
end Go.Proofs.Ytggnbflbbfdohaa

namespace Go.Proofs.Ytggnbflbbfdohaa
open Go.RowKit Go.Shelf Plain

section
variable {gS gL : Nat} {p : List UInt8 → Bool} {B0 : Nat}
def DelN (p:List UInt8→Bool) (l:List (List UInt8)) (n c g a b:Nat) (W:World):Prop:=∃cs,RowL W g 9 cs∧cs.length=c∧n≤c∧((l.take b).filter (fun x=>!p x)).length=a∧cs.take a=((l.take b).filter (fun x=>!p x)).map st∧∀i x,b≤i→l[i]?=some x→cs[i]?=some (st x)
theorem DelN.on {l:List (List UInt8)} {n c g a b:Nat} {W W':World} (h:DelN p l n c g a b W) (hb:Below W.heap.size W W'):DelN p l n c g a b W':=by
 obtain ⟨cs,h1,h2⟩:=h
 exact ⟨cs,h1.on hb,h2⟩
theorem DelN.skip {l:List (List UInt8)} {n c g a b:Nat} {W:World} {x:List UInt8} (h:DelN p l n c g a b W) (hx:l[b]?=some x) (hp:p x=true):DelN p l n c g a (b+1) W:=by
 obtain ⟨cs,h1,h2,h3,h4,h5,h6⟩:=h
 have e:(l.take (b+1)).filter (fun x=>!p x)=(l.take b).filter (fun x=>!p x):=by rw [List.take_add_one,hx,List.filter_append];simp [hp]
 exact ⟨cs,h1,h2,h3,by rw [e];exact h4,by rw [e];exact h5,fun i y hi hy=>h6 i y (by omega) hy⟩
theorem DelN.put {l:List (List UInt8)} {n c g a b:Nat} {W:World} {x:List UInt8} (h:DelN p l n c g a b W) (hx:l[b]?=some x) (hp:p x=false) (hab:a < b) (hbc:b < c):DelN p l n c g (a+1) (b+1) (W.setCell ⟨g,a,none⟩ (st x)):=by
 obtain ⟨cs,h1,h2,h3,h4,h5,h6⟩:=h
 have e:(l.take (b+1)).filter (fun x=>!p x)=(l.take b).filter (fun x=>!p x)++[x]:=by rw [List.take_add_one,hx,List.filter_append];simp [hp]
 refine ⟨cs.set a (st x),h1.set_ a _,by rw [List.length_set];exact h2,h3,by rw [e,List.length_append,h4];rfl,?_,fun i y hi hy=>?_⟩
 ·rw [e,List.map_append,←h5,List.take_add_one,List.getElem?_set_self (by omega),List.take_set_of_le (Nat.le_refl _)]
  rfl
 ·rw [List.getElem?_set_ne (by omega)]
  exact h6 i y (by omega) hy
end
end Go.Proofs.Ytggnbflbbfdohaa

