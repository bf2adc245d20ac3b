import Derived.Test.YtggnbflbbfdohaaTs1
import Derived.Test.YtggnbflbbfdohaaTs2
import Derived.Test.YtggnbflbbfdohaaRows
import Derived.Test.YtggnbflbbfdohaaTs3
import Derived.Test.YtggnbflbbfdohaaTs22
import Derived.Shelf.Small.Strs
import Derived.Shelf.Small.Wraps
import Derived.Shelf.Strings.Prefix
import Derived.Shelf.Slices.Equal
import Derived.Shelf.Slices.Clone
import Derived.Shelf.Slices.Cells
import Derived.Shelf.SlicesE.Clone
import Derived.Test.YtggnbflbbfdohaaProg
import Derived.Sort.OwnSorted
import Derived.Lib.RowBridge
import Derived.DeepKeys4

namespace Go.Proofs.Ytggnbflbbfdohaa.Plain
def letB (x:Nat):Bool:=decide ((97≤x∧x≤122)∨(48≤x∧x≤57)∨x=46∨x=95∨x=45)
def nameB (l:List UInt8):Bool:=(decide (1≤l.length∧l.length≤12)&&(!(l==[46])&&!(l==[46,46])))&&l.all fun x=>letB x.toNat
theorem all_take_succ {l:List UInt8} {p:UInt8→Bool} {k:Nat} (h:k < l.length):(l.take (k+1)).all p=((l.take k).all p&&p l[k]):=by
 rw [List.take_succ_eq_append_getElem h,List.all_append]
 simp
theorem all_false {l:List UInt8} {p:UInt8→Bool} {k:Nat} (h:k < l.length) (hp:p l[k]=false):l.all p=false:=by
 rw [List.all_eq_false]
 exact ⟨l[k],List.getElem_mem h,by simp [hp]⟩
end Go.Proofs.Ytggnbflbbfdohaa.Plain

namespace Go.Proofs.Ytggnbflbbfdohaa
open Go.RowKit Plain
def st (l:List UInt8):Value:=.string ⟨l.toArray⟩
theorem ret_bool {a b:Bool} (h:a=b):Ending.returned (.bool a)=.returned (.bool b):=by rw [h]

set_option maxHeartbeats 400000 in
theorem Rletter_any (x:Nat) (hx:x < 256) (w:World) :
  Calls Try.prog 36 #[.int .u8 x] w fun e w'=>e=.returned (.bool (letB x))∧w=w':=by
 go_enter Try.func36,Try.ntmps36
 go_wp2
 all_goals
  go_ret
  refine ⟨ret_bool ?_,rfl⟩
  rw [Bool.eq_iff_iff]
  simp [letB]
  omega
theorem Rletter_b {x:Nat} {b:Bool} (hx:x < 256) (hb:letB x=b) (w:World) :
  Calls Try.prog 36 #[.int .u8 x] w fun e w'=>e=.returned (.bool b)∧w=w':=by
 have:=Rletter_any x hx w;rw [hb] at this;exact this

set_option maxHeartbeats 400000 in
theorem RNRight_any (l:List UInt8) (w:World) (hl:l.length≤140737488355328) :
  Calls Try.prog 29 #[st l] w fun e w'=>e=.returned (.bool (nameB l))∧w=w':=by
 unfold st
 by_cases h1:l.length < 1
 ·have hr:nameB l=false:=by
   have:decide (1≤l.length∧l.length≤12)=false:=by simp;omega
   simp [nameB,this]
  rw [hr]
  clear hr
  obtain rfl:l=[]:=List.eq_nil_of_length_eq_zero (by omega)
  go_enter Try.func29,Try.ntmps29
  go_wp2
  go_ret
  exact ⟨rfl,rfl⟩
 by_cases h2:12 < l.length
 ·have hr:nameB l=false:=by
   have:decide (1≤l.length∧l.length≤12)=false:=by simp;omega
   simp [nameB,this]
  rw [hr]
  clear hr
  have d1:decide ((l.length:Int) < 1)=false:=by simp;omega
  have d2:decide ((12:Int) < (l.length:Int))=true:=by simp;omega
  go_enter Try.func29,Try.ntmps29
  go_wp2
  go_ret
  exact ⟨rfl,rfl⟩
 by_cases h3:l=[46]
 ·subst h3
  go_enter Try.func29,Try.ntmps29
  go_wp2
  go_ret
  exact ⟨rfl,rfl⟩
 by_cases h4:l=[46,46]
 ·subst h4
  go_enter Try.func29,Try.ntmps29
  go_wp2
  go_ret
  exact ⟨rfl,rfl⟩
 have d1:decide ((l.length:Int) < 1)=false:=by simp;omega
 have d2:decide ((12:Int) < (l.length:Int))=false:=by simp;omega
 have d3:(l==[46])=false:=by simpa using h3
 have d4:(l==[46,46])=false:=by simpa using h4
 have hr:nameB l=l.all fun x=>letB x.toNat:=by
  have:decide (1≤l.length∧l.length≤12)=true:=by simp;omega
  simp [nameB,this,d3,d4]
 rw [hr]
 obtain ⟨r,hre⟩:∃r,(l.all fun x=>letB x.toNat)=r:=⟨_,rfl⟩
 rw [hre]
 have HR:=hide hre
 clear hr hre h3 h4
 go_enter Try.func29,Try.ntmps29
 go_wp2_with fail
 clear d1 d2 d3 d4
 go_loop [3] (fun i=>∃k:Nat,k≤l.length∧i=.int .i64 k∧((l.take k).all fun x=>letB x.toNat)=true) (fun i=>l.length - (intOf i).toNat)
 case atStart=>exact ⟨0,Nat.zero_le _,rfl,rfl⟩
 case round =>
  obtain ⟨k,hk,rfl,hall⟩:=hrel
  have HALL:=hide hall
  clear hall
  by_cases hlt:k < l.length
  ·have hb:=l[k].toNat_lt
   cases hb2:letB l[k].toNat with
   | true =>
    have HB:=hide hb2
    clear hb2
    go_wp2_with fail
    refine (Rletter_b hb HB.out _).mono ?_
    rintro e w' ⟨rfl,rfl⟩
    go_wp2_with fail
    go_round
    case rel=>exact ⟨k+1,by omega,by go_num,by rw [all_take_succ hlt,HALL.out,HB.out];rfl⟩
    case measure=>simp [intOf];omega
   | false =>
    have hrf:r=false:=by rw [←HR.out];exact all_false hlt hb2
    have HRF:=hide hrf
    have HB:=hide hb2
    clear hb2 hrf
    go_wp2_with fail
    refine (Rletter_b hb HB.out _).mono ?_
    rintro e w' ⟨rfl,rfl⟩
    go_wp2_with fail
    go_ret
    rw [HRF.out]
    exact ⟨rfl,rfl⟩
  ·have hrt:r=true:=by
    rw [←HR.out]
    have:=HALL.out
    rwa [List.take_of_length_le (by omega)] at this
   have HRT:=hide hrt
   clear hrt
   go_wp2
   go_ret
   rw [HRT.out]
   exact ⟨rfl,rfl⟩
end Go.Proofs.Ytggnbflbbfdohaa

namespace Go.Proofs.Ytggnbflbbfdohaa
open Go.RowKit Go.Shelf Plain Go.Sort

set_option maxRecDepth 100000 in
set_option maxHeartbeats 1600000 in
theorem Reach_any {A F:Option Addr} {n c k d:Nat} {ns:List NodV} {ff:List Int} (w:World) (h:RdE nodEn w (Under w.heap.size) A n ns) (hf:RdE Enc.int w (Under w.heap.size) F k ff) (hM:Many ns) (hk:k≤1000) :
  Calls Try.prog 30 #[.agg #[.slice A n c],.slice F k d] w (BoolsRet w (reachL ns (walkW ns ff).1)):=by
 have hb1:=below_new (below_self w) (.cells #[.slice A n c] 24)
 have H1:=hide (h.on hb1)
 have HF1:=hide (hf.on hb1)
 have HB1:=hide hb1
 have HM:=hide hM
 clear h hf hb1
 go_enter Try.func30,Try.ntmps30
 go_wp2_with (first|(go_at_call 15;refine (walked_any _ H1.out HF1.out HM.out hk).mono ?_;rintro e w2 ⟨g,b,rfl,hw2,hb2⟩;have HW2:=hide hw2;have HB2:=hide (below_step HB1.out hb2);clear hw2 hb2)|(go_at_call 37;refine (reach_any _ HW2.out (walk_ok ns ff) HM.out).mono ?_;rintro e w3 ⟨A3,n3,c3,rfl,hn3,hr3,hb3,hf3⟩;have HR3:=hide hr3;have HF3:=hide hf3;clear hf3;have HB3:=hide (HB2.out.trans (hb3.mono HB2.out.size));clear hr3 hb3))
 go_ret
 exact ⟨A3,n3,c3,rfl,hn3,HR3.out,HB3.out,fun b o e=>Nat.le_trans HB2.out.size (HF3.out b o e)⟩
theorem way_get {w:World} {D:Nat→Prop} {A:Option Addr} {n j:Nat} {l:List WayV} {y:WayV} (h:RdE wayEn w D A n l) (hy:l[j]?=some y):∃b o,A=some ⟨b,o,none⟩∧D b∧∀i v,(wayC y)[i]?=some v→w.cell? ⟨b,o+j*3+i,none⟩=some v:=by
 have hj:=(List.getElem?_eq_some_iff.1 hy).1
 obtain ⟨b,o,e,hb,hc⟩:=h.2 (by rw [←h.1];omega)
 obtain ⟨cs,hR,hcs⟩:=hc j y hy
 refine ⟨b,o,e,hb,fun i v hv=>?_⟩
 have:=hcs i v (by rw [show cs=wayC y from hR];exact hv)
 rwa [show o+(j*wayEn.k+i)=o+j*3+i from by show o+(j*3+i)=o+j*3+i;omega] at this
end Go.Proofs.Ytggnbflbbfdohaa

namespace Go.Proofs.Ytggnbflbbfdohaa
open Go.RowKit Go.Shelf Plain Go.Maps

def SetN (w:World) (b c:Nat) (f:Int×Int→Bool):Prop:=∃D:DataW Unit,w.ownsMap Try.prog 89 unitElem b c D∧∀x y kl,i64 x→i64 y→keyOf Try.prog 89 (.agg #[.int .i64 x,.int .i64 y])=some kl→Maps.has D kl=f (x,y)
section
variable {w w' : World} {b c : Nat} {f : Int × Int → Bool}
theorem SetN.made (w:World):SetN (w.alloc (.map #[] 0)) w.heap.size 0 (fun _=>false):=⟨.map [],World.ownsMap_made w _ _ _,fun _ _ _ _ _ _=>rfl⟩
theorem SetN.lt (h:SetN w b c f):b < w.heap.size:=by obtain ⟨D,h1,h2⟩:=h;exact h1.lt
theorem SetN.kept {row:Option Nat} (h:SetN w b c f) (hg:w.grownBy w' row) (hne:some b≠row):SetN w' b c f:=by obtain ⟨D,h1,h2⟩:=h;exact ⟨D,h1.kept hg hne,h2⟩
theorem SetN.on (h:SetN w b c f) (hb:Below w.heap.size w w'):SetN w' b c f:=h.kept (grown_below hb) (by simp)
theorem SetN.eq {g:Int×Int→Bool} (h:SetN w b c f) (e:f=g):SetN w b c g:=e ▸ h
theorem SetN.obj (h:SetN w b c f):∃o:Obj,w.heap[b]?=some o∧(∀x,o≠.deferred x)∧o.isCells=false:=by
 obtain ⟨D,⟨es,clock,h1,_⟩,h2⟩:=h
 exact ⟨_,h1,(fun x e=>by cases e),rfl⟩
end
end Go.Proofs.Ytggnbflbbfdohaa

